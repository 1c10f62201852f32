/-
  Parameters, as pure data: which numbers are parameters, what digits and semicolons say, the bytes of parameters; what follows from it. No number of the translation stands here.
-/
import Derived.Lib.ItoaNum
import Derived.Lib.Join
import Derived.Lib.Repeat
import Derived.Test.YtpebpjkhkgakfaaDoorBase
namespace Go.Proofs.YtpebpjkhkgakfaaDoor
open Go.RowKit

theorem snoc_ind {α : Type} {motive : List α → Prop} (nil : motive []) (snoc : ∀ l a, motive l → motive (l ++ [a])) (l : List α) : motive l := by
  have h : ∀ (n : Nat) (l : List α), l.length = n → motive l := by
    intro n
    induction n with
    | zero => intro l hl; rw [List.eq_nil_of_length_eq_zero hl]; exact nil
    | succ n ih =>
      intro l hl
      have hne : l ≠ [] := by rintro rfl; cases hl
      rw [← List.dropLast_concat_getLast hne]
      exact snoc _ _ (ih _ (by simp [hl]))
  exact h _ l rfl
/-- What an int holds. -/
def I64 (n : Int) : Prop := -9223372036854775808 ≤ n ∧ n ≤ 9223372036854775807
theorem i64w {n : Int} (h0 : -9223372036854775808 ≤ n) (h1 : n ≤ 9223372036854775807) : IntKind.i64.wrap n = n := IntWalk.i64_in _ ⟨h0, by omega⟩
theorem i32w {n : Int} (h0 : -2147483648 ≤ n) (h1 : n ≤ 2147483647) : IntKind.i32.wrap n = n := by rw [IntKind.wrap_i32]; omega
theorem u8w {n : Int} (h0 : 0 ≤ n) (h1 : n ≤ 255) : IntKind.u8.wrap n = n := by rw [IntKind.wrap_u8]; omega
theorem beqT {i j : Int} (h : i = j) : (i == j) = true := beq_iff_eq.2 h
theorem beqF {i j : Int} (h : ¬ i = j) : (i == j) = false := by simpa using h
theorem bneT {i j : Int} (h : i = j) : (i != j) = false := by simpa using h
theorem bneF {i j : Int} (h : ¬ i = j) : (i != j) = true := by simpa using h
theorem ndT {p : Prop} [Decidable p] (h : p) : (!decide p) = false := by simp [h]
theorem ndF {p : Prop} [Decidable p] (h : ¬ p) : (!decide p) = true := by simp [h]

/-! ### Numbers -/
/-- A number of parameters: missing, or in range. -/
abbrev ok1 (n : Int) : Prop := -1 ≤ n ∧ n ≤ 9999
def okL (l : List Int) : Prop := l.length ≤ 16 ∧ (∀ n ∈ l, ok1 n) ∧ l ≠ [-1]
instance (l : List Int) : Decidable (okL l) := by unfold okL; infer_instance
def getL (l : List Int) (i m : Int) : Int := if 0 ≤ i ∧ i < (l.length : Nat) ∧ 0 ≤ l.getD i.toNat 0 then l.getD i.toNat 0 else m
def oneL (l : List Int) (i : Int) : Int := max (getL l i 1) 1
theorem getD_at {α : Type} {l : List α} {i : Nat} {d : α} (h : i < l.length) : l[i]? = some (l.getD i d) := by
  rw [List.getElem?_eq_getElem h, List.getD_eq_getElem?_getD, List.getElem?_eq_getElem h]
  rfl
theorem getD_mem {α : Type} {l : List α} {i : Nat} {d : α} (h : i < l.length) : l.getD i d ∈ l := List.mem_of_getElem? (getD_at h)

/-! ### What digits and semicolons say -/
abbrev fine (c : UInt8) : Prop := c.toNat = 59 ∨ 48 ≤ c.toNat ∧ c.toNat ≤ 57
abbrev fineI (r : Int) : Prop := r = 59 ∨ 48 ≤ r ∧ r ≤ 57
/-- One digit more: what a number is then. -/
abbrev dig (n d : Int) : Int := min (max n 0 * 10 + d) 9999
/-- All digits. -/
def numF (n : Int) : List UInt8 → Int
  | [] => n
  | c :: l => numF (dig n ((c.toNat : Int) - 48)) l
theorem numF_snoc (l : List UInt8) (c : UInt8) : ∀ n, numF n (l ++ [c]) = dig (numF n l) ((c.toNat : Int) - 48) := by
  induction l with
  | nil => intro n; rfl
  | cons x l ih => intro n; exact ih _
abbrev num (l : List UInt8) : Int := numF (-1) l
/-- No numbers are one that is missing, once something follows. -/
def nz (f : List Int) : List Int := if f = [] then [-1] else f
theorem nz_ne (f : List Int) : nz f ≠ [] := by
  unfold nz
  split <;> simp_all
/-- The last number changed. -/
def lastF (f : List Int) (d : Int) : List Int := f.dropLast ++ [dig (f.getLastD (-1)) d]
def addF (f : List Int) (c : UInt8) : List Int := if c.toNat = 59 then nz f ++ [-1] else lastF (nz f) ((c.toNat : Int) - 48)
def say (s : List UInt8) : List Int := s.foldl addF []
theorem say_snoc (s : List UInt8) (c : UInt8) : say (s ++ [c]) = addF (say s) c := by simp [say]
theorem lastF_snoc (g : List Int) (n d : Int) : lastF (g ++ [n]) d = g ++ [dig n d] := by simp [lastF]
theorem lastF_len {f : List Int} (h : f ≠ []) (d : Int) : (lastF f d).length = f.length := by
  have := List.length_pos_iff.2 h
  simp [lastF]
  omega
theorem nz_snoc (g : List Int) (n : Int) : nz (g ++ [n]) = g ++ [n] := by simp [nz]
theorem nz_of {f : List Int} (h : f ≠ []) : nz f = f := by simp [nz, h]
theorem snoc_of {f : List Int} (h : f ≠ []) : ∃ g n, f = g ++ [n] := ⟨f.dropLast, f.getLast h, (List.dropLast_concat_getLast h).symm⟩
theorem addF_ne (f : List Int) (c : UInt8) : addF f c ≠ [] := by
  unfold addF lastF
  split <;> simp
theorem say_nil {s : List UInt8} : say s = [] ↔ s = [] := by
  constructor
  · intro h
    rcases List.eq_nil_or_concat s with h1 | ⟨t, c, h1⟩
    · exact h1
    · rw [h1, List.concat_eq_append, say_snoc] at h
      exact absurd h (addF_ne _ _)
  · rintro rfl; rfl
/-- All numbers are in range. -/
def okF (f : List Int) : Prop := ∀ n ∈ f, ok1 n
theorem okF_nz {f : List Int} (h : okF f) : okF (nz f) := by
  unfold nz
  split
  · intro n hn; simp at hn; subst hn; omega
  · exact h
theorem okF_add {f : List Int} (h : okF f) {c : UInt8} (hc : fine c) : okF (addF f c) := by
  have h1 := okF_nz h
  unfold addF
  split
  · intro n hn
    rcases List.mem_append.1 hn with hn | hn
    · exact h1 n hn
    · simp at hn; subst hn; omega
  · obtain ⟨g, m, hg⟩ := snoc_of (nz_ne f)
    rw [hg] at h1 ⊢
    rw [lastF_snoc]
    intro n hn
    rcases List.mem_append.1 hn with hn | hn
    · exact h1 n (List.mem_append_left _ hn)
    · simp only [List.mem_singleton] at hn
      have := h1 m (by simp)
      unfold dig at hn
      omega
theorem okF_say : ∀ {s : List UInt8}, (∀ c ∈ s, fine c) → okF (say s) := by
  intro s
  induction s using snoc_ind with
  | nil => intro _ n hn; simp [say] at hn
  | snoc s c ih =>
    intro h
    rw [say_snoc]
    exact okF_add (ih (fun x hx => h x (List.mem_append_left _ hx))) (h c (by simp))
/-- The numbers that are kept. -/
def lst (s : List UInt8) : List Int := (say s).take 16
theorem lst_len (s : List UInt8) : (lst s).length = min 16 (say s).length := by simp [lst]
theorem lst_nil {s : List UInt8} : lst s = [] ↔ s = [] := by
  rw [← say_nil]
  unfold lst
  simp
theorem say_one {s : List UInt8} {x : Int} (hf : ∀ c ∈ s, fine c) (h : say s = [x]) : 0 ≤ x := by
  rcases List.eq_nil_or_concat s with h1 | ⟨t, c, h1⟩
  · subst h1; simp [say] at h
  · rw [h1, List.concat_eq_append, say_snoc] at h
    have hc : fine c := hf c (by rw [h1]; simp)
    unfold addF at h
    split at h
    · have h3 := congrArg List.length h
      have h2 := List.length_pos_iff.2 (nz_ne (say t))
      simp only [List.length_append, List.length_singleton] at h3
      omega
    · obtain ⟨g, m, hg⟩ := snoc_of (nz_ne (say t))
      rw [hg, lastF_snoc] at h
      have h3 : g = [] := by
        have := congrArg List.length h
        simp at this
        exact this
      subst h3
      simp only [List.nil_append, List.cons.injEq, and_true] at h
      subst h
      unfold dig
      omega
theorem lst_ok {s : List UInt8} (hf : ∀ c ∈ s, fine c) : okL (lst s) := by
  refine ⟨by rw [lst_len]; omega, fun n hn => okF_say hf n (List.mem_of_mem_take hn), fun h => ?_⟩
  have h2 : say s = [-1] := by
    have hl := lst_len s
    rw [h] at hl
    simp only [List.length_singleton] at hl
    have h3 : (say s).take 16 = say s := List.take_of_length_le (by omega)
    rw [← h3]
    exact h
  have := say_one hf h2
  omega
/-- The parameters that bytes say, or the error. -/
def prs (s : List UInt8) : List Int × Int := if ∀ c ∈ s, fine c then (lst s, 0) else ([], 6)
theorem prs_yes {s : List UInt8} (h : ∀ c ∈ s, fine c) : prs s = (lst s, 0) := if_pos h
theorem prs_no {s : List UInt8} (h : ¬ ∀ c ∈ s, fine c) : prs s = ([], 6) := if_neg h
theorem fine_take {s : List UInt8} {i : Nat} (h : ∀ c ∈ s.take i, fine c) {c : UInt8} (hc : s[i]? = some c) (hf : fine c) : ∀ x ∈ s.take (i + 1), fine x := by
  intro x hx
  rw [List.take_add_one, hc] at hx
  rcases List.mem_append.1 hx with hx | hx
  · exact h x hx
  · simp at hx; subst hx; exact hf
theorem take_snoc {α : Type} {s : List α} {i : Nat} {c : α} (hc : s[i]? = some c) : s.take (i + 1) = s.take i ++ [c] := by
  rw [List.take_add_one, hc]
  rfl

/-! ### The bytes of parameters -/
def part1 (n : Int) : List UInt8 := if n = -1 then [] else Lib.decDigits n.toNat
def textL (l : List Int) : List UInt8 := Lib.join (l.map part1) [59]
def textE (l : List Int) : List UInt8 × Int := if okL l then (textL l, 0) else ([], 2)
theorem join_snoc (xs : List (List UInt8)) (x sep : List UInt8) (h : xs ≠ []) : Lib.join (xs ++ [x]) sep = Lib.join xs sep ++ (sep ++ x) := by
  cases xs with
  | nil => exact absurd rfl h
  | cons y r => rw [List.cons_append, Lib.join_cons, Lib.join_cons]; simp [Lib.joinTail]
theorem textL_nil : textL [] = [] := rfl
theorem textL_one (n : Int) : textL [n] = part1 n := Lib.join_one _ _
theorem textL_snoc (l : List Int) (n : Int) (h : l ≠ []) : textL (l ++ [n]) = textL l ++ 59 :: part1 n := by
  unfold textL
  rw [List.map_append, List.map_singleton, join_snoc _ _ _ (by simpa using h)]
  rfl
theorem digits_big {u : Nat} (h : ¬ u < 10) : Lib.decDigits u = Lib.decDigits (u / 10) ++ [UInt8.ofNat (48 + u % 10)] := by rw [Lib.decDigits, dif_neg h]
theorem digit_nat {d : Nat} (h : d < 10) : (UInt8.ofNat (48 + d)).toNat = 48 + d := UInt8.toNat_ofNat_of_lt' (by show 48 + d < 256; omega)
theorem digits_mem (u : Nat) : ∀ c ∈ Lib.decDigits u, 48 ≤ c.toNat ∧ c.toNat ≤ 57 := by
  induction u using Nat.strongRecOn with
  | _ u ih =>
    intro c hc
    by_cases h : u < 10
    · rw [Lib.decDigits_one h, List.mem_singleton] at hc
      subst hc
      rw [digit_nat h]
      omega
    · rw [digits_big h, List.mem_append, List.mem_singleton] at hc
      rcases hc with hc | rfl
      · exact ih (u / 10) (by omega) c hc
      · rw [digit_nat (by omega)]
        omega
theorem digits_len (k u : Nat) (h : u < 10 ^ (k + 1)) : (Lib.decDigits u).length ≤ k + 1 := by
  induction k generalizing u with
  | zero => rw [Lib.decDigits_one (by simpa using h)]; simp
  | succ k ih =>
    by_cases h1 : u < 10
    · rw [Lib.decDigits_one h1]; simp
    · rw [digits_big h1, List.length_append, List.length_singleton]
      have := ih (u / 10) (by rw [Nat.pow_succ] at h; omega)
      omega
theorem num_digits (u : Nat) : u ≤ 9999 → num (Lib.decDigits u) = u := by
  induction u using Nat.strongRecOn with
  | _ u ih =>
    intro hu
    by_cases h : u < 10
    · rw [Lib.decDigits_one h]
      show dig (-1) _ = _
      rw [digit_nat h]
      unfold dig
      omega
    · rw [digits_big h]
      show numF (-1) _ = _
      rw [numF_snoc, show numF (-1) (Lib.decDigits (u / 10)) = ((u / 10 : Nat) : Int) from ih (u / 10) (by omega) (by omega), digit_nat (by omega)]
      unfold dig
      omega
theorem num_part {n : Int} (h : ok1 n) : num (part1 n) = n := by
  unfold part1
  split
  · rename_i h1; subst h1; rfl
  · have := num_digits n.toNat (by omega)
    omega
theorem part_fine {n : Int} : ∀ c ∈ part1 n, fine c ∧ c.toNat ≠ 59 := by
  unfold part1
  split
  · intro c hc; cases hc
  · intro c hc
    have := digits_mem _ c hc
    omega
theorem part_len {n : Int} (h : ok1 n) : (part1 n).length ≤ 4 := by
  unfold part1
  split
  · simp
  · exact digits_len 3 _ (by omega)
theorem say_digits (ds : List UInt8) : ∀ (s : List UInt8) (g : List Int) (m : Int), (∀ c ∈ ds, c.toNat ≠ 59) → nz (say s) = g ++ [m] → nz (say (s ++ ds)) = g ++ [numF m ds] := by
  induction ds with
  | nil => intro s g m _ h; rw [List.append_nil]; exact h
  | cons c ds ih =>
    intro s g m hd h
    have h1 : nz (say (s ++ [c])) = g ++ [dig m ((c.toNat : Int) - 48)] := by
      rw [say_snoc]
      unfold addF
      rw [if_neg (hd c (List.mem_cons_self ..)), h, lastF_snoc, nz_snoc]
    have := ih (s ++ [c]) g _ (fun x hx => hd x (List.mem_cons_of_mem _ hx)) h1
    rw [List.append_assoc] at this
    exact this
theorem say_semi (s : List UInt8) : nz (say (s ++ [59])) = nz (say s) ++ [-1] := by
  rw [say_snoc]
  unfold addF
  rw [if_pos (by rfl), nz_snoc]
theorem say_text : ∀ {l : List Int}, l ≠ [] → (∀ n ∈ l, ok1 n) → nz (say (textL l)) = l := by
  intro l
  induction l using snoc_ind with
  | nil => intro h; exact absurd rfl h
  | snoc l n ih =>
    intro _ hl
    have hn := hl n (by simp)
    by_cases h : l = []
    · subst h
      rw [List.nil_append, textL_one]
      have := say_digits (part1 n) [] [] (-1) (fun c hc => (part_fine c hc).2) rfl
      rw [List.nil_append] at this
      rw [this]
      exact congrArg (fun x => [x]) (num_part hn)
    · rw [textL_snoc l n h]
      have h1 := ih h (fun x hx => hl x (List.mem_append_left _ hx))
      have h2 := say_semi (textL l)
      rw [h1] at h2
      have := say_digits (part1 n) (textL l ++ [59]) l (-1) (fun c hc => (part_fine c hc).2) h2
      rw [List.append_assoc] at this
      rw [show textL l ++ 59 :: part1 n = textL l ++ ([59] ++ part1 n) from rfl, this]
      exact congrArg (fun x => l ++ [x]) (num_part hn)
theorem text_fine : ∀ (l : List Int), ∀ c ∈ textL l, fine c := by
  intro l
  induction l using snoc_ind with
  | nil => intro c hc; rw [textL_nil] at hc; cases hc
  | snoc l n ih =>
    intro c hc
    by_cases h : l = []
    · subst h
      rw [List.nil_append, textL_one] at hc
      exact (part_fine c hc).1
    · rw [textL_snoc l n h] at hc
      rcases List.mem_append.1 hc with hc | hc
      · exact ih c hc
      · rcases List.mem_cons.1 hc with rfl | hc
        · exact .inl rfl
        · exact (part_fine c hc).1
theorem text_len : ∀ (l : List Int), (∀ n ∈ l, ok1 n) → (textL l).length ≤ 5 * l.length := by
  intro l
  induction l using snoc_ind with
  | nil => intro _; simp [textL_nil]
  | snoc l n ih =>
    intro hl
    have hn := part_len (hl n (by simp))
    have h1 := ih (fun x hx => hl x (List.mem_append_left _ hx))
    by_cases h : l = []
    · subst h
      rw [List.nil_append, textL_one]
      simp
      omega
    · rw [textL_snoc l n h]
      simp
      omega
/-- Parse inverts Text. -/
theorem prs_text {l : List Int} (h : okL l) : prs (textL l) = (l, 0) := by
  rw [prs_yes (text_fine l)]
  refine congrArg (fun x => (x, (0 : Int))) ?_
  obtain ⟨h1, h2, h3⟩ := h
  unfold lst
  by_cases hl : l = []
  · subst hl; rfl
  · have h4 := say_text hl h2
    have h5 : say (textL l) ≠ [] := by
      intro h6
      rw [h6] at h4
      exact h3 h4.symm
    rw [nz_of h5] at h4
    rw [h4, List.take_of_length_le h1]
/-! ### A builder's cells -/
def buI (f : List Int) : List Int := f.take 16 ++ List.replicate (16 - f.length) 0 ++ [((min f.length 17 : Nat) : Int)]
/-- The cells of a builder that has these bytes. -/
abbrev cbF (f : List Int) : Array Value := ((buI f).map (.int .i64 ·)).toArray
abbrev cb (s : List UInt8) : Array Value := cbF (say s)
theorem buI_len (f : List Int) : (buI f).length = 17 := by
  simp only [buI, List.length_append, List.length_take, List.length_replicate, List.length_singleton]
  omega
theorem buI_16 (f : List Int) : (buI f)[16]? = some ((min f.length 17 : Nat) : Int) := by
  unfold buI
  rw [List.getElem?_append_right (by simp only [List.length_append, List.length_take, List.length_replicate]; omega)]
  rw [show 16 - (f.take 16 ++ List.replicate (16 - f.length) (0 : Int)).length = 0 by simp only [List.length_append, List.length_take, List.length_replicate]; omega]
  rfl
theorem buI_at {f : List Int} {k : Nat} (h : k < 16) (hk : k < f.length) : (buI f)[k]? = f[k]? := by
  unfold buI
  rw [List.getElem?_append_left (by simp only [List.length_append, List.length_take, List.length_replicate]; omega), List.getElem?_append_left (by simp only [List.length_take]; omega), List.getElem?_take, if_pos h]
theorem buI_take (f : List Int) : (buI f).take (min f.length 16) = f.take 16 := by
  unfold buI
  rw [List.append_assoc, List.take_append_of_le_length (by simp only [List.length_take]; omega), List.take_take]
  rcases Nat.le_total f.length 16 with h | h
  · rw [List.take_of_length_le (by omega), List.take_of_length_le (by omega)]
  · rw [show min (min f.length 16) 16 = 16 by omega]
theorem cb_16 (f : List Int) : (cbF f)[16]? = some (.int .i64 ((min f.length 17 : Nat) : Int)) := by
  rw [List.getElem?_toArray, List.getElem?_map, buI_16]
  rfl
theorem cb_size (f : List Int) : (cbF f).size = 17 := by
  rw [List.size_toArray, List.length_map, buI_len]
/-- One cell changed. -/
abbrev setI (cs : Array Value) (i : Nat) (v : Value) : Array Value := (cs.toList.set i v).toArray
theorem list_ext16 {a b : List Int} (ha : a.length = 17) (hb : b.length = 17) (h : ∀ k, k < 17 → a[k]? = b[k]?) : a = b := by
  apply List.ext_getElem?
  intro k
  rcases Nat.lt_or_ge k 17 with hk | hk
  · exact h k hk
  · rw [List.getElem?_eq_none (by omega), List.getElem?_eq_none (by omega)]
theorem buI_zero {f : List Int} {k : Nat} (h : k < 16) (hk : f.length ≤ k) : (buI f)[k]? = some 0 := by
  unfold buI
  rw [List.getElem?_append_left (by simp only [List.length_append, List.length_take, List.length_replicate]; omega), List.getElem?_append_right (by simp only [List.length_take]; omega), List.getElem?_replicate, if_pos (by simp only [List.length_take]; omega)]
theorem set_cb (l : List Int) (i : Nat) (n : Int) : setI ((l.map (Value.int .i64 ·)).toArray) i (.int .i64 n) = ((l.set i n).map (Value.int .i64 ·)).toArray := by
  simp [setI, List.map_set]
/-- A digit more. -/
theorem cb_dig {g : List Int} {n d : Int} (h : g.length < 16) : setI (cbF (g ++ [n])) g.length (.int .i64 (dig n d)) = cbF (g ++ [dig n d]) := by
  rw [set_cb]
  refine congrArg (fun l : List Int => (l.map (Value.int .i64 ·)).toArray) (list_ext16 (by rw [List.length_set, buI_len]) (buI_len _) (fun k hk => ?_))
  rw [List.getElem?_set]
  by_cases h1 : g.length = k
  · subst h1
    rw [if_pos rfl, if_pos (by rw [buI_len]; omega), buI_at h (by simp)]
    simp
  · rw [if_neg h1]
    by_cases h2 : k = 16
    · subst h2
      rw [buI_16, buI_16]
      simp
    · rcases Nat.lt_or_ge k (g.length + 1) with h3 | h3
      · rw [buI_at (by omega) (by simp; omega), buI_at (by omega) (by simp; omega), List.getElem?_append_left (by omega), List.getElem?_append_left (by omega)]
      · rw [buI_zero (by omega) (by simp; omega), buI_zero (by omega) (by simp; omega)]
/-- A digit of a number that is not kept. -/
theorem cb_same {g : List Int} {n m : Int} (h : 16 ≤ g.length) : cbF (g ++ [n]) = cbF (g ++ [m]) := by
  refine congrArg (fun l : List Int => (l.map (Value.int .i64 ·)).toArray) ?_
  unfold buI
  rw [List.take_append_of_le_length h, List.take_append_of_le_length h]
  simp
/-- A semicolon behind which one more is kept. -/
theorem cb_semi {f : List Int} (h : f.length < 16) : setI (setI (cbF f) f.length (.int .i64 (-1))) 16 (.int .i64 ((f.length : Nat) + 1)) = cbF (f ++ [-1]) := by
  rw [set_cb, set_cb]
  refine congrArg (fun l : List Int => (l.map (Value.int .i64 ·)).toArray) (list_ext16 (by rw [List.length_set, List.length_set, buI_len]) (buI_len _) (fun k hk => ?_))
  rw [List.getElem?_set]
  by_cases h2 : 16 = k
  · subst h2
    rw [if_pos rfl, if_pos (by rw [List.length_set, buI_len]; omega), buI_16]
    simp
    omega
  · rw [if_neg h2, List.getElem?_set]
    by_cases h1 : f.length = k
    · subst h1
      rw [if_pos rfl, if_pos (by rw [buI_len]; omega), buI_at h (by simp)]
      simp
    · rw [if_neg h1]
      rcases Nat.lt_or_ge k f.length with h3 | h3
      · rw [buI_at (by omega) h3, buI_at (by omega) (by simp; omega), List.getElem?_append_left (by omega)]
      · rw [buI_zero (by omega) h3, buI_zero (by omega) (by simp; omega)]
/-- A semicolon behind which no more is kept. -/
theorem cb_semi2 {f : List Int} (h : 16 ≤ f.length) : setI (cbF f) 16 (.int .i64 17) = cbF (f ++ [-1]) := by
  rw [set_cb]
  refine congrArg (fun l : List Int => (l.map (Value.int .i64 ·)).toArray) (list_ext16 (by rw [List.length_set, buI_len]) (buI_len _) (fun k hk => ?_))
  rw [List.getElem?_set]
  by_cases h2 : 16 = k
  · subst h2
    rw [if_pos rfl, if_pos (by rw [buI_len]; omega), buI_16]
    simp
    omega
  · rw [if_neg h2, buI_at (by omega) (by omega), buI_at (by omega) (by simp; omega), List.getElem?_append_left (by omega)]
theorem buI_last {g : List Int} {n : Int} (h : g.length < 16) : (buI (g ++ [n]))[g.length]? = some n := by
  rw [buI_at h (by simp)]
  simp
theorem lt_set {f : List Int} {i k : Nat} {v : Value} (h : k < 17) : k < (setI (cbF f) i v).size := by
  simp only [setI, List.size_toArray, List.length_set, List.length_map, buI_len]
  exact h
theorem set_16 {f : List Int} {i : Nat} {v : Value} (h : i < 16) : (setI (cbF f) i v)[16]? = some (.int .i64 ((min f.length 17 : Nat) : Int)) := by
  have := cb_16 f
  rw [← Array.getElem?_toList] at this
  rw [setI, List.getElem?_toArray, List.getElem?_set, if_neg (by omega)]
  exact this
theorem cb_first {f g : List Int} {n : Int} (h : f.length = 0) (hg : nz f = g ++ [n]) : setI (setI (cbF f) 0 (.int .i64 (-1))) 16 (.int .i64 1) = cbF (g ++ [n]) := by
  obtain rfl := List.eq_nil_of_length_eq_zero h
  rw [← hg]
  rfl
theorem cb_semiA {f : List Int} {z : Int} {k : Nat} (h : f.length < 16) (hk : k = f.length) (hz : z = (f.length : Nat) + 1) : setI (setI (cbF f) k (.int .i64 (-1))) 16 (.int .i64 z) = cbF (f ++ [-1]) := by
  subst hk hz
  exact cb_semi h
theorem cb_semiB {f : List Int} {z : Int} (h : 16 ≤ f.length) (hz : z = 17) : setI (cbF f) 16 (.int .i64 z) = cbF (f ++ [-1]) := by
  subst hz
  exact cb_semi2 h
theorem addF_semi {f g : List Int} {n : Int} {c : UInt8} (h : c.toNat = 59) (hg : nz f = g ++ [n]) : addF f c = g ++ [n] ++ [-1] := by
  unfold addF
  rw [if_pos h, hg]
theorem addF_dig {f g : List Int} {n : Int} {c : UInt8} (h : c.toNat ≠ 59) (hg : nz f = g ++ [n]) : addF f c = g ++ [dig n ((c.toNat : Int) - 48)] := by
  unfold addF
  rw [if_neg h, hg, lastF_snoc]
theorem one_ge (l : List Int) (i : Int) : 1 ≤ oneL l i := by unfold oneL; omega
end Go.Proofs.YtpebpjkhkgakfaaDoor
