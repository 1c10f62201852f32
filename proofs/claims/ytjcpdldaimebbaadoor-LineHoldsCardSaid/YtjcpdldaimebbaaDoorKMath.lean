/-
  Words of cells, cells of words, runs; what follows from it.
-/
import Derived.Test.YtjcpdldaimebbaaDoorCMath
namespace Go.Proofs.YtjcpdldaimebbaaDoor

structure Wd where
  a : Int
  b : Int
  c : Int
instance : DecidableEq Wd := fun x y => decidable_of_iff (x.a = y.a ∧ x.b = y.b ∧ x.c = y.c) (by cases x; cases y; simp)
structure Wd.Ok (x : Wd) : Prop where
  a0 : 0 ≤ x.a
  a1 : x.a < 18446744073709551616
  b0 : 0 ≤ x.b
  b1 : x.b < 18446744073709551616
  c0 : 0 ≤ x.c
  c1 : x.c < 18446744073709551616
structure Rn where
  n : Int
  w : Wd
instance : DecidableEq Rn := fun x y => decidable_of_iff (x.n = y.n ∧ x.w = y.w) (by cases x; cases y; simp)
structure Rn.Ok (x : Rn) : Prop where
  n0 : -9223372036854775808 ≤ x.n
  n1 : x.n ≤ 9223372036854775807
  w : x.w.Ok
abbrev zeroW : Wd := ⟨0, 0, 0⟩
abbrev zeroR : Rn := ⟨0, zeroW⟩

def wordsI (c : Ce) : Wd := ⟨wordI c.p, c.r + 2097152 * c.wd, c.m0 + 2097152 * (c.m1 + 2097152 * c.m2)⟩
def cellI (w : Wd) : Ce := ⟨w.b % 2097152, w.c % 2097152, w.c / 2097152 % 2097152, w.c / 2097152 / 2097152 % 2097152, w.b / 2097152, penW w.a⟩
/-- There is a cell with these words. -/
def goodB (w : Wd) : Bool := cellB (cellI w) && decide (wordsI (cellI w) = w)

theorem of_rng {r : Int} (h : 0 ≤ ofI r) : 0 ≤ r ∧ r ≤ 1114111 := by
  have hp : printedB r = true := by
    cases e : printedB r with
    | true => rfl
    | false => rw [ofI, if_pos e] at h; omega
  simp only [printedB, Bool.and_eq_true, decide_eq_true_eq] at hp
  omega
structure Ce.In (c : Ce) : Prop where
  r0 : 0 ≤ c.r
  r1 : c.r ≤ 1114111
  a0 : 0 ≤ c.m0
  a1 : c.m0 ≤ 1114111
  b0 : 0 ≤ c.m1
  b1 : c.m1 ≤ 1114111
  c0 : 0 ≤ c.m2
  c1 : c.m2 ≤ 1114111
  w0 : 0 ≤ c.wd
  w1 : c.wd ≤ 2
theorem okM_in {c : Ce} (h : okM c = true) : (0 ≤ c.m0 ∧ c.m0 ≤ 1114111) ∧ (0 ≤ c.m1 ∧ c.m1 ≤ 1114111) ∧ 0 ≤ c.m2 ∧ c.m2 ≤ 1114111 := by
  have key : ∀ m : Int, m = 0 ∨ ofI m = 0 → 0 ≤ m ∧ m ≤ 1114111 := fun m hm => by
    rcases hm with e | e
    · omega
    · exact of_rng (by omega)
  unfold okM at h
  by_cases h0 : c.m0 = 0
  · rw [if_pos h0, Bool.and_eq_true, decide_eq_true_eq, decide_eq_true_eq] at h
    exact ⟨key _ (.inl h0), key _ (.inl h.1), key _ (.inl h.2)⟩
  · rw [if_neg h0, Bool.and_eq_true, decide_eq_true_eq] at h
    by_cases h1 : c.m1 = 0
    · rw [if_pos h1, decide_eq_true_eq] at h
      exact ⟨key _ (.inr h.1), key _ (.inl h1), key _ (.inl h.2)⟩
    · rw [if_neg h1, Bool.and_eq_true, decide_eq_true_eq, Bool.or_eq_true, decide_eq_true_eq, decide_eq_true_eq] at h
      exact ⟨key _ (.inr h.1), key _ (.inr h.2.1), key _ h.2.2⟩
theorem cell_in {c : Ce} (h : cellB c = true) : c.In := by
  have hw := cell_wd h
  unfold cellB at h
  rw [Bool.and_eq_true, Bool.and_eq_true] at h
  obtain ⟨⟨_, hm⟩, h⟩ := h
  have hM := okM_in hm
  have hr : 0 ≤ c.r ∧ c.r ≤ 1114111 := by
    by_cases h0 : c.wd = 0
    · rw [if_pos h0, Bool.and_eq_true, decide_eq_true_eq] at h
      omega
    · rw [if_neg h0] at h
      by_cases h1 : c.wd = 1
      · rw [if_pos h1, Bool.or_eq_true, Bool.and_eq_true, Bool.and_eq_true, decide_eq_true_eq, decide_eq_true_eq, decide_eq_true_eq, decide_eq_true_eq] at h
        rcases h with h | h
        · omega
        · exact of_rng (by omega)
      · rw [if_neg h1] at h
        by_cases h2 : c.wd = 2
        · rw [if_pos h2, decide_eq_true_eq] at h
          exact of_rng (by omega)
        · rw [if_neg h2] at h
          cases h
  exact ⟨hr.1, hr.2, hM.1.1, hM.1.2, hM.2.1.1, hM.2.1.2, hM.2.2.1, hM.2.2.2, by omega, by omega⟩

theorem cellI_words {c : Ce} (h : cellB c = true) (hp : c.p.Ok) : cellI (wordsI c) = c := by
  obtain ⟨r0, r1, a0, a1, b0, b1, c0, c1, w0, w1⟩ := cell_in h
  have hq := penW_word hp (cell_pen h)
  obtain ⟨r, m0, m1, m2, wd, p⟩ := c
  simp only at *
  simp only [cellI, wordsI, hq, Ce.mk.injEq, and_true]
  refine ⟨by omega, by omega, by omega, by omega, by omega⟩
theorem good_words {c : Ce} (h : cellB c = true) (hp : c.p.Ok) : goodB (wordsI c) = true := by
  rw [goodB, cellI_words h hp, h]
  simp
theorem words_inj {c d : Ce} (hc : cellB c = true) (hd : cellB d = true) (pc : c.p.Ok) (pd : d.p.Ok) (h : wordsI c = wordsI d) : c = d := by
  rw [← cellI_words hc pc, ← cellI_words hd pd, h]
theorem words_ok {c : Ce} (h : cellB c = true) (hp : c.p.Ok) : (wordsI c).Ok := by
  obtain ⟨r0, r1, a0, a1, b0, b1, c0, c1, w0, w1⟩ := cell_in h
  have := word_lt hp
  refine ⟨?_, ?_, ?_, ?_, ?_, ?_⟩ <;> simp only [wordsI] <;> omega
theorem cellI_p (w : Wd) : (cellI w).p.Ok := penW_ok _
theorem good_cell {w : Wd} (h : goodB w = true) : cellB (cellI w) = true ∧ wordsI (cellI w) = w := by
  simpa [goodB] using h
theorem good_ok {w : Wd} (h : goodB w = true) : w.Ok := by
  obtain ⟨h1, h2⟩ := good_cell h
  exact h2 ▸ words_ok h1 (cellI_p w)

/-! ### Runs -/
def addR (l : List Rn) (r : Rn) : List Rn := match l.getLast? with
  | some q => if q.w = r.w then l.dropLast ++ [⟨q.n + r.n, q.w⟩] else l ++ [r]
  | none => [r]
theorem addR_nil (r : Rn) : addR [] r = [r] := rfl
theorem addR_snoc (l : List Rn) (q r : Rn) : addR (l ++ [q]) r = if q.w = r.w then l ++ [⟨q.n + r.n, q.w⟩] else l ++ [q] ++ [r] := by
  simp [addR]
theorem snoc_cases (l : List Rn) : l = [] ∨ ∃ m q, l = m ++ [q] := by
  rcases List.eq_nil_or_concat l with h | ⟨m, q, h⟩
  · exact .inl h
  · exact .inr ⟨m, q, by simpa using h⟩
def one (c : Ce) : Rn := ⟨1, wordsI c⟩
def packL (l : List Ce) : List Rn := (l.map one).foldl addR []
def packE (l : List Ce) : Int := if 100000 < l.length then 5 else if l.all cellB then 0 else 2
def packO (l : List Ce) : List Rn := if packE l = 0 then packL l else []

/-- One run more, behind one of these words: how many cells, or none if it is not right. -/
def stepR (n : Int) (prev : Option Wd) (r : Rn) : Option Int := if r.n < 1 ∨ 100000 - n < r.n ∨ prev = some r.w ∨ goodB r.w = false then none else some (n + r.n)
def cntR : Int → Option Wd → List Rn → Option Int
  | n, _, [] => some n
  | n, prev, r :: l => match stepR n prev r with
    | none => none
    | some m => cntR m (some r.w) l
def goodR (l : List Rn) : Bool := (cntR 0 none l).isSome
def countR (l : List Rn) : Int := (cntR 0 none l).getD 0
def cellsR (l : List Rn) : List Ce := l.flatMap fun r => List.replicate r.n.toNat (cellI r.w)
def cellsO (l : List Rn) : List Ce := if goodR l then cellsR l else []

theorem stepR_some {n m : Int} {p : Option Wd} {r : Rn} (h : stepR n p r = some m) : 1 ≤ r.n ∧ m = n + r.n ∧ m ≤ 100000 ∧ p ≠ some r.w ∧ goodB r.w = true := by
  unfold stepR at h
  split at h
  · cases h
  · rename_i hb
    simp only [not_or, Option.some.injEq] at hb h
    exact ⟨by omega, h.symm, by omega, hb.2.2.1, by simpa using hb.2.2.2⟩
theorem stepR_ok {n : Int} {p : Option Wd} {r : Rn} (h1 : 1 ≤ r.n) (h2 : n + r.n ≤ 100000) (h3 : p ≠ some r.w) (h4 : goodB r.w = true) : stepR n p r = some (n + r.n) := by
  unfold stepR
  rw [if_neg]
  simp only [not_or]
  exact ⟨by omega, by omega, h3, by simp [h4]⟩
theorem cntR_cons {n m : Int} {p : Option Wd} {r : Rn} {l : List Rn} (h : cntR n p (r :: l) = some m) : ∃ k, stepR n p r = some k ∧ cntR k (some r.w) l = some m := by
  rw [cntR] at h
  split at h
  · cases h
  · rename_i k hk
    exact ⟨k, hk, h⟩
theorem cntR_cons_none {n : Int} {p : Option Wd} {r : Rn} {l : List Rn} (h : stepR n p r = none) : cntR n p (r :: l) = none := by rw [cntR, h]
theorem cntR_cons_some {n k : Int} {p : Option Wd} {r : Rn} {l : List Rn} (h : stepR n p r = some k) : cntR n p (r :: l) = cntR k (some r.w) l := by rw [cntR, h]

theorem cellsR_cons (r : Rn) (l : List Rn) : cellsR (r :: l) = List.replicate r.n.toNat (cellI r.w) ++ cellsR l := rfl
theorem cellsR_append (l m : List Rn) : cellsR (l ++ m) = cellsR l ++ cellsR m := by simp [cellsR]
theorem cnt_len {l : List Rn} : ∀ {n m : Int} {p : Option Wd}, n ≤ 100000 → cntR n p l = some m → m = n + (cellsR l).length ∧ m ≤ 100000 := by
  induction l with
  | nil => intro n m p hn h; simp only [cntR, Option.some.injEq] at h; subst h; simp [cellsR]; exact hn
  | cons r l ih =>
    intro n m p hn h
    obtain ⟨k, h1, h2⟩ := cntR_cons h
    obtain ⟨g1, rfl, g3, _⟩ := stepR_some h1
    obtain ⟨e, h3⟩ := ih g3 h2
    rw [cellsR_cons, List.length_append, List.length_replicate]
    exact ⟨by omega, h3⟩
theorem count_len {l : List Rn} (h : goodR l = true) : countR l = (cellsR l).length ∧ countR l ≤ 100000 := by
  unfold goodR at h
  obtain ⟨m, hm⟩ := Option.isSome_iff_exists.1 h
  have := cnt_len (by omega) hm
  rw [countR, hm, Option.getD_some]
  exact ⟨by omega, this.2⟩
theorem count_bad {l : List Rn} (h : goodR l = false) : countR l = 0 := by
  unfold goodR at h
  rw [countR]
  cases e : cntR 0 none l with
  | none => rfl
  | some m => rw [e] at h; cases h
theorem fold_rep (w : Wd) : ∀ (k : Nat) (X : List Rn), (List.replicate (k + 1) (⟨1, w⟩ : Rn)).foldl addR X = addR X ⟨(k : Int) + 1, w⟩ := by
  intro k
  induction k with
  | zero => intro X; simp
  | succ k ih =>
    intro X
    rw [List.replicate_succ, List.foldl_cons, ih]
    rcases snoc_cases X with rfl | ⟨m, q, rfl⟩
    · rw [addR_nil, addR_nil, show [(⟨1, w⟩ : Rn)] = [] ++ [⟨1, w⟩] from rfl, addR_snoc, if_pos rfl]
      simp only [List.nil_append, List.cons.injEq, Rn.mk.injEq, and_true]
      omega
    · rw [addR_snoc, addR_snoc]
      by_cases e : q.w = w
      · rw [if_pos e, if_pos e, addR_snoc, if_pos e]
        simp only [List.append_cancel_left_eq, List.cons.injEq, Rn.mk.injEq, and_true]
        omega
      · rw [if_neg e, if_neg e, addR_snoc, if_pos rfl]
        simp only [List.append_assoc, List.append_cancel_left_eq, List.cons_append, List.nil_append, List.cons.injEq, Rn.mk.injEq, and_true, true_and]
        omega
theorem fold_cells {l : List Rn} : ∀ {n m : Int} {p : Option Wd} (X : List Rn), cntR n p l = some m → ((cellsR l).map one).foldl addR X = l.foldl addR X := by
  induction l with
  | nil => intro n m p X _; rfl
  | cons r l ih =>
    intro n m p X h
    obtain ⟨k, h1, h2⟩ := cntR_cons h
    obtain ⟨g1, -, -, -, g5⟩ := stepR_some h1
    rw [cellsR_cons, List.map_append, List.foldl_append, ih _ h2, List.foldl_cons]
    congr 1
    obtain ⟨j, hj⟩ : ∃ j : Nat, r.n = (j : Int) + 1 := ⟨(r.n - 1).toNat, by omega⟩
    have e1 : r.n.toNat = j + 1 := by omega
    have e2 : one (cellI r.w) = ⟨1, r.w⟩ := by rw [one, (good_cell g5).2]
    rw [e1, List.map_replicate, e2, fold_rep, ← hj]
/-- The words of the last run. -/
def lastW (X : List Rn) : Option Wd := X.getLast?.map (·.w)
theorem lastW_snoc (X : List Rn) (q : Rn) : lastW (X ++ [q]) = some q.w := by simp [lastW]
theorem addR_ne {X : List Rn} {r : Rn} (h : lastW X ≠ some r.w) : addR X r = X ++ [r] := by
  rcases snoc_cases X with rfl | ⟨m, q, rfl⟩
  · rfl
  · rw [lastW_snoc] at h
    rw [addR_snoc, if_neg (fun e => h (by rw [e]))]
theorem fold_good {l : List Rn} : ∀ {n m : Int} (X : List Rn), cntR n (lastW X) l = some m → l.foldl addR X = X ++ l := by
  induction l with
  | nil => intro n m X _; simp
  | cons r l ih =>
    intro n m X h
    obtain ⟨k, h1, h2⟩ := cntR_cons h
    obtain ⟨-, -, -, g4, -⟩ := stepR_some h1
    rw [List.foldl_cons, addR_ne g4, ih (X ++ [r]) (by rw [lastW_snoc]; exact h2)]
    simp
theorem pack_cells {l : List Rn} (h : goodR l = true) : packL (cellsR l) = l := by
  obtain ⟨m, hm⟩ := Option.isSome_iff_exists.1 h
  rw [packL, fold_cells [] hm, fold_good [] (n := 0) (m := m) hm, List.nil_append]
theorem cnt_snoc {l : List Rn} {r : Rn} : ∀ {n : Int} {p : Option Wd}, cntR n p (l ++ [r]) = (cntR n p l).bind fun k => stepR k ((lastW l).or p) r := by
  induction l with
  | nil => intro n p; simp only [List.nil_append, cntR, lastW, List.getLast?_nil, Option.map_none, Option.none_or, Option.bind_some]; cases stepR n p r <;> rfl
  | cons q l ih =>
    intro n p
    rw [List.cons_append]
    cases e : stepR n p q with
    | none => rw [cntR_cons_none e, cntR_cons_none e]; rfl
    | some k =>
      rw [cntR_cons_some e, cntR_cons_some e, ih]
      rcases snoc_cases l with rfl | ⟨m, x, rfl⟩
      · rfl
      · rw [← List.cons_append, lastW_snoc, lastW_snoc]
        rfl
theorem add_good {X : List Rn} {k : Int} {w : Wd} (h : cntR 0 none X = some k) (hk : k + 1 ≤ 100000) (hw : goodB w = true) :
    cntR 0 none (addR X ⟨1, w⟩) = some (k + 1) ∧ cellsR (addR X ⟨1, w⟩) = cellsR X ++ [cellI w] ∧ (addR X ⟨1, w⟩).length ≤ X.length + 1 := by
  have hone : ∀ u : Wd, cellsR [⟨1, u⟩] = [cellI u] := fun u => rfl
  by_cases he : lastW X = some w
  · rcases snoc_cases X with rfl | ⟨m, q, rfl⟩
    · cases he
    · rw [lastW_snoc, Option.some.injEq] at he
      rw [addR_snoc, if_pos he]
      rw [cnt_snoc] at h ⊢
      obtain ⟨j, hj, hs⟩ := Option.bind_eq_some_iff.1 h
      obtain ⟨g1, g2, g3, g4, g5⟩ := stepR_some hs
      refine ⟨?_, ?_, by simp⟩
      · rw [hj, Option.bind_some, stepR_ok (r := ⟨q.n + 1, q.w⟩) (by simp only; omega) (by simp only; omega) g4 g5]
        simp only [Option.some.injEq]
        omega
      · rw [cellsR_append, cellsR_append, List.append_assoc]
        congr 1
        obtain ⟨i, hi⟩ : ∃ i : Nat, q.n = (i : Int) + 1 := ⟨(q.n - 1).toNat, by omega⟩
        have e1 : (q.n + 1).toNat = i + 2 := by omega
        have e2 : q.n.toNat = i + 1 := by omega
        simp only [cellsR_cons, e1, e2, he]
        simp only [cellsR, List.flatMap_nil, List.append_nil]
        rw [show i + 2 = (i + 1) + 1 from rfl, List.replicate_succ']
  · rw [addR_ne (r := ⟨1, w⟩) he]
    refine ⟨?_, by rw [cellsR_append, hone], by simp⟩
    rw [cnt_snoc, h, Option.bind_some, stepR_ok (r := ⟨1, w⟩) (by simp only; omega) hk (by simp only [Option.or_none]; exact he) hw]
theorem pack_snoc (l : List Ce) (c : Ce) : packL (l ++ [c]) = addR (packL l) (one c) := by
  simp [packL, List.map_append, List.foldl_append]
theorem take_snocC (l : List Ce) (i : Nat) (h : i < l.length) : l.take (i + 1) = l.take i ++ [l[i]] := by
  rw [List.take_add_one, List.getElem?_eq_getElem h]
  rfl
theorem pack_good {l : List Ce} (hv : ∀ c ∈ l, cellB c = true) (hp : ∀ c ∈ l, c.p.Ok) (hl : l.length ≤ 100000) :
    cntR 0 none (packL l) = some (l.length : Int) ∧ cellsR (packL l) = l ∧ (packL l).length ≤ l.length := by
  have key : ∀ k, k ≤ l.length → cntR 0 none (packL (l.take k)) = some (k : Int) ∧ cellsR (packL (l.take k)) = l.take k ∧ (packL (l.take k)).length ≤ k := by
    intro k
    induction k with
    | zero => intro _; exact ⟨rfl, rfl, by simp [packL]⟩
    | succ k ih =>
      intro hk
      obtain ⟨h1, h2, h3⟩ := ih (by omega)
      have hm : l[k] ∈ l := List.getElem_mem _
      obtain ⟨g1, g2, g3⟩ := add_good h1 (by omega) (good_words (hv _ hm) (hp _ hm))
      rw [take_snocC l k (by omega), pack_snoc]
      rw [show one l[k] = ⟨1, wordsI l[k]⟩ from rfl]
      refine ⟨?_, ?_, by omega⟩
      · rw [g1]; simp
      · rw [g2, h2, cellI_words (hv _ hm) (hp _ hm)]
  have := key l.length (Nat.le_refl _)
  rwa [List.take_length] at this
theorem packE_zero {l : List Ce} (h : packE l = 0) : l.length ≤ 100000 ∧ ∀ c ∈ l, cellB c = true := by
  unfold packE at h
  split at h
  · cases h
  · split at h
    · rename_i h1 h2
      exact ⟨by omega, List.all_eq_true.1 h2⟩
    · cases h
theorem packE_ok {l : List Ce} (h1 : l.length ≤ 100000) (h2 : ∀ c ∈ l, cellB c = true) : packE l = 0 := by
  rw [packE, if_neg (by omega), if_pos (List.all_eq_true.2 h2)]
theorem packO_eq {l : List Ce} (h : packE l = 0) : packO l = packL l := by rw [packO, if_pos h]
theorem join_pack {a b : List Ce} (hv : ∀ c ∈ b, cellB c = true) (hp : ∀ c ∈ b, c.p.Ok) (hl : b.length ≤ 100000) : packL (a ++ b) = (packL b).foldl addR (packL a) := by
  obtain ⟨h1, h2, _⟩ := pack_good hv hp hl
  rw [← fold_cells (packL a) h1, h2, packL, List.map_append, List.foldl_append]
  rfl
theorem pack_join {a b : List Rn} (ha : goodR a = true) (hb : goodR b = true) : packL (cellsR a ++ cellsR b) = b.foldl addR a := by
  obtain ⟨m, hm⟩ := Option.isSome_iff_exists.1 hb
  have e : packL (cellsR a ++ cellsR b) = ((cellsR b).map one).foldl addR (packL (cellsR a)) := by
    simp only [packL, List.map_append, List.foldl_append]
  rw [e, pack_cells ha, fold_cells a hm]
theorem cells_good {l : List Rn} {n m : Int} {p : Option Wd} (h : cntR n p l = some m) : ∀ c ∈ cellsR l, cellB c = true ∧ c.p.Ok := by
  induction l generalizing n p with
  | nil => intro c hc; simp [cellsR] at hc
  | cons r l ih =>
    intro c hc
    obtain ⟨k, h1, h2⟩ := cntR_cons h
    obtain ⟨-, -, -, -, g5⟩ := stepR_some h1
    rw [cellsR_cons, List.mem_append] at hc
    rcases hc with hc | hc
    · rw [List.eq_of_mem_replicate hc]
      exact ⟨(good_cell g5).1, cellI_p _⟩
    · exact ih h2 c hc
end Go.Proofs.YtjcpdldaimebbaaDoor
