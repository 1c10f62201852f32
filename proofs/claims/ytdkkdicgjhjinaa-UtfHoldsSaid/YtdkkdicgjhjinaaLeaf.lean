/-
  The walks of the decoder's small functions.
-/
import Derived.Test.YtdkkdicgjhjinaaRows
import Derived.Test.YtdkkdicgjhjinaaBase
import Derived.Test.YtdkkdicgjhjinaaMath
namespace Go.Proofs.Ytdkkdicgjhjinaa
open Go.RowKit

theorem ret_int {k : IntKind} {a b : Int} (h : a = b) : Ending.returned (.int k a) = .returned (.int k b) := by rw [h]
theorem ret_bool {a b : Bool} (h : a = b) : Ending.returned (.bool a) = .returned (.bool b) := by rw [h]

theorem ret_two {a b a' b' : Value} (h : a = a') (h' : b = b') : Ending.returned (.tuple #[a, b]) = .returned (.tuple #[a', b']) := by rw [h, h']

set_option maxHeartbeats 400000 in
theorem length_any (c : Int) (w : World) :
    Calls Try.prog 32 #[.int .u8 c] w fun e w' => e = .returned (.int .i64 (lenI c)) ∧ w = w' := by
  go_enter Try.func32, Try.ntmps32
  go_wp2
  all_goals
    go_ret
    refine ⟨ret_int ?_, rfl⟩
    unfold lenI
    repeat' split
    all_goals omega

set_option maxHeartbeats 400000 in
theorem second_any (c : Int) (w : World) :
    Calls Try.prog 38 #[.int .u8 c] w fun e w' => e = .returned (.tuple #[.int .u8 (secLo c), .int .u8 (secHi c)]) ∧ w = w' := by
  go_enter Try.func38, Try.ntmps38
  go_wp2
  all_goals
    go_ret2
    refine ⟨ret_two ?_ ?_, rfl⟩
    all_goals simp_all [secLo, secHi]

theorem info32 : (Try.prog.info? 21).map (fun i => (i.zero, i.size, i.bytes)) = some (some (.int .i32 0), 1, 4) := by kernel_rfl
theorem info8 : (Try.prog.info? 5).map (fun i => (i.zero, i.size, i.bytes)) = some (some (.int .u8 0), 1, 1) := by kernel_rfl

/-- append of runes onto a row of the call's own -/
theorem app32 {w : World} {ops : Array Oper} {rest : List Oper} {o : Oper} {a : Act} {Q : Exit → Act → World → Prop} (hgd : o.guard = none) (s x : Operand)
    (ho : o.op = .call { callee := .builtin .append, args := #[s, x], argTypes := #[25, 25] })
    (base : Nat) (v : Value) (n : Nat) (xs : List Value) (hs : a.eval s = v) (hown : w.ownsRow base 21 1 v n xs)
    (b : Nat) (A : Option Addr) (m c : Nat) (news : List Value) (hx : a.eval x = .slice A m c) (hr : Rd w b A m news) (h1 : ∀ u ∈ news, u.oneCell' = true)
    (hnm : n + m ≤ 1000000000) (hbase : base ≤ w.heap.size)
    (h : ∀ v' w', w'.ownsRow base 21 1 v' (n + m) (xs ++ news) → w.grownBy w' v.ownBlock → (v'.ownBlock = v.ownBlock ∨ v'.ownBlock = some w.heap.size) → wpList Try.prog ops Q rest (a.put o.dst v') w') : wpList Try.prog ops Q (o :: rest) a w := by
  obtain ⟨i0, hi, hz0, hz1, hz2⟩ := info_parts info32
  exact wpList_append_any w hgd s x 25 ho base 21 i0 (.int .i32 0) 4 Try.underlying25 hi hz0 hz1 hz2 rfl v n xs hs hown b A m c news hx hr h1 (by unfold maxLen; omega) (by omega) hbase h
theorem app8 {w : World} {ops : Array Oper} {rest : List Oper} {o : Oper} {a : Act} {Q : Exit → Act → World → Prop} (hgd : o.guard = none) (s x : Operand)
    (ho : o.op = .call { callee := .builtin .append, args := #[s, x], argTypes := #[22, 22] })
    (base : Nat) (v : Value) (n : Nat) (xs : List Value) (hs : a.eval s = v) (hown : w.ownsRow base 5 1 v n xs)
    (b : Nat) (A : Option Addr) (m c : Nat) (news : List Value) (hx : a.eval x = .slice A m c) (hr : Rd w b A m news) (h1 : ∀ u ∈ news, u.oneCell' = true)
    (hnm : n + m ≤ 1000000000) (hbase : base ≤ w.heap.size)
    (h : ∀ v' w', w'.ownsRow base 5 1 v' (n + m) (xs ++ news) → w.grownBy w' v.ownBlock → (v'.ownBlock = v.ownBlock ∨ v'.ownBlock = some w.heap.size) → wpList Try.prog ops Q rest (a.put o.dst v') w') : wpList Try.prog ops Q (o :: rest) a w := by
  obtain ⟨i0, hi, hz0, hz1, hz2⟩ := info_parts info8
  exact wpList_append_any w hgd s x 22 ho base 5 i0 (.int .u8 0) 1 Try.underlying22 hi hz0 hz1 hz2 rfl v n xs hs hown b A m c news hx hr h1 (by unfold maxLen; omega) (by omega) hbase h

theorem stp32 {w : World} {ops : Array Oper} {o : Oper} {a : Act} {K : Act → World → Prop} {Q : Exit → Act → World → Prop} {E : Prop} (hgd : o.guard = none) (s x : Operand)
    (ho : o.op = .call { callee := .builtin .append, args := #[s, x], argTypes := #[25, 25] })
    (base : Nat) (v : Value) (n : Nat) (xs : List Value) (hs : a.eval s = v) (hown : w.ownsRow base 21 1 v n xs)
    (b : Nat) (A : Option Addr) (m c : Nat) (news : List Value) (hx : a.eval x = .slice A m c) (hr : Rd w b A m news) (h1 : ∀ u ∈ news, u.oneCell' = true)
    (hnm : n + m ≤ 1000000000) (hbase : base ≤ w.heap.size)
    (h : ∀ v' w', w'.ownsRow base 21 1 v' (n + m) (xs ++ news) → w.grownBy w' v.ownBlock → (v'.ownBlock = v.ownBlock ∨ v'.ownBlock = some w.heap.size) → K (a.put o.dst v') w') :
    if Region.wanted o (yielded ops a.tmps) = true then Oper.wp Try.prog o a w K Q else E := by
  obtain ⟨i0, hi, hz0, hz1, hz2⟩ := info_parts info32
  rw [if_pos (by simp [Region.wanted, hgd])]
  exact wp_append_any w s x 25 ho base 21 i0 (.int .i32 0) 4 Try.underlying25 hi hz0 hz1 hz2 rfl v n xs hs hown b A m c news hx hr h1 (by unfold maxLen; omega) (by omega) hbase h
theorem stp8 {w : World} {ops : Array Oper} {o : Oper} {a : Act} {K : Act → World → Prop} {Q : Exit → Act → World → Prop} {E : Prop} (hgd : o.guard = none) (s x : Operand)
    (ho : o.op = .call { callee := .builtin .append, args := #[s, x], argTypes := #[22, 22] })
    (base : Nat) (v : Value) (n : Nat) (xs : List Value) (hs : a.eval s = v) (hown : w.ownsRow base 5 1 v n xs)
    (b : Nat) (A : Option Addr) (m c : Nat) (news : List Value) (hx : a.eval x = .slice A m c) (hr : Rd w b A m news) (h1 : ∀ u ∈ news, u.oneCell' = true)
    (hnm : n + m ≤ 1000000000) (hbase : base ≤ w.heap.size)
    (h : ∀ v' w', w'.ownsRow base 5 1 v' (n + m) (xs ++ news) → w.grownBy w' v.ownBlock → (v'.ownBlock = v.ownBlock ∨ v'.ownBlock = some w.heap.size) → K (a.put o.dst v') w') :
    if Region.wanted o (yielded ops a.tmps) = true then Oper.wp Try.prog o a w K Q else E := by
  obtain ⟨i0, hi, hz0, hz1, hz2⟩ := info_parts info8
  rw [if_pos (by simp [Region.wanted, hgd])]
  exact wp_append_any w s x 22 ho base 5 i0 (.int .u8 0) 1 Try.underlying22 hi hz0 hz1 hz2 rfl v n xs hs hown b A m c news hx hr h1 (by unfold maxLen; omega) (by omega) hbase h

theorem rd_new {w : World} (t : TypeId) (cs : Array Value) (n : Nat) (xs : List Value) (h : xs = cs.toList) (hn : xs.length = n) : Rd (w.alloc (.cells cs t)) w.heap.size (some ⟨w.heap.size, 0, none⟩) n xs :=
  Rd.of_blk (Blk.new w t cs) 0 hn (fun j _ => by subst h; simp)

/-- The cells of a decoder with the pending bytes s. -/
def Dec (w : World) (g : Nat) (s : List Int) : Prop :=
  Blk w g 31 #[.int .u8 (s.getD 0 0), .int .u8 (s.getD 1 0), .int .u8 (s.getD 2 0), .int .u8 (s.getD 3 0), .int .i64 s.length]

section
variable {w : World} {g : Nat} {s : List Int}
theorem Dec.c0 (h : Dec w g s) : w.cell? ⟨g, 0, none⟩ = some (.int .u8 (s.getD 0 0)) := Blk.cell h 0
theorem Dec.c1 (h : Dec w g s) : w.cell? ⟨g, 1, none⟩ = some (.int .u8 (s.getD 1 0)) := Blk.cell h 1
theorem Dec.c2 (h : Dec w g s) : w.cell? ⟨g, 2, none⟩ = some (.int .u8 (s.getD 2 0)) := Blk.cell h 2
theorem Dec.c3 (h : Dec w g s) : w.cell? ⟨g, 3, none⟩ = some (.int .u8 (s.getD 3 0)) := Blk.cell h 3
theorem Dec.c4 (h : Dec w g s) : w.cell? ⟨g, 4, none⟩ = some (.int .i64 s.length) := Blk.cell h 4
theorem Dec.facts (h : Dec w g s) : w.cell? ⟨g, 0, none⟩ = some (.int .u8 (s.getD 0 0)) ∧ w.cell? ⟨g, 1, none⟩ = some (.int .u8 (s.getD 1 0)) ∧ w.cell? ⟨g, 2, none⟩ = some (.int .u8 (s.getD 2 0)) ∧
    w.cell? ⟨g, 3, none⟩ = some (.int .u8 (s.getD 3 0)) ∧ w.cell? ⟨g, 4, none⟩ = some (.int .i64 s.length) ∧
    w.frozen? ⟨g, 0, none⟩ = false ∧ w.frozen? ⟨g, 1, none⟩ = false ∧ w.frozen? ⟨g, 2, none⟩ = false ∧ w.frozen? ⟨g, 3, none⟩ = false ∧ w.frozen? ⟨g, 4, none⟩ = false :=
  ⟨h.c0, h.c1, h.c2, h.c3, h.c4, Blk.frozen h 0, Blk.frozen h 1, Blk.frozen h 2, Blk.frozen h 3, Blk.frozen h 4⟩
end

set_option maxHeartbeats 400000 in
theorem goesOn_any (s : List Int) (c : Int) (g : Nat) (w : World) (h : Dec w g s) :
    Calls Try.prog 30 #[.pointer (some ⟨g, 0, none⟩), .int .u8 c] w fun e w' => e = .returned (.bool (goesB s c)) ∧ w = w' := by
  rcases s with _ | ⟨b, _ | ⟨b', t⟩⟩
  · have h4 : w.cell? ⟨g, 4, none⟩ = some (.int .i64 0) := h.c4
    clear h
    go_enter Try.func30, Try.ntmps30
    go_wp2
    go_ret
    exact ⟨rfl, rfl⟩
  · have h4 : w.cell? ⟨g, 4, none⟩ = some (.int .i64 1) := h.c4
    have h0 : w.cell? ⟨g, 0, none⟩ = some (.int .u8 b) := h.c0
    clear h
    go_enter Try.func30, Try.ntmps30
    go_wp2_with (go_at_call 38; refine (second_any _ _).mono ?_; rintro e w' ⟨rfl, rfl⟩)
    all_goals
      go_ret
      exact ⟨ret_bool (by simp only [goesB]; simp_all <;> omega), rfl⟩
  · have h4 : w.cell? ⟨g, 4, none⟩ = some (.int .i64 ((t.length : Int) + 2)) := by rw [h.c4]; simp; omega
    have n0 : (((t.length : Int) + 2) == 0) = false := by simp; omega
    have n1 : (((t.length : Int) + 2) == 1) = false := by simp; omega
    clear h
    go_enter Try.func30, Try.ntmps30
    go_wp2
    all_goals
      go_ret
      exact ⟨ret_bool (by simp only [goesB]; simp_all <;> omega), rfl⟩

set_option maxHeartbeats 400000 in
theorem keep_any (s : List Int) (c : Int) (g : Nat) (w : World) (h : Dec w g s) (hs : s.length ≤ 3) :
    Calls Try.prog 31 #[.pointer (some ⟨g, 0, none⟩), .int .u8 c] w fun e w' => e = .returned (.tuple #[]) ∧ Dec w' g (s ++ [c]) ∧ Fr (· = g) w w' := by
  rcases s with _ | ⟨b0, _ | ⟨b1, _ | ⟨b2, _ | ⟨b3, t⟩⟩⟩⟩
  · have h4 : w.cell? ⟨g, 4, none⟩ = some (.int .i64 0) := h.c4
    have h0 : w.cell? ⟨g, 0, none⟩ = some (.int .u8 0) := h.c0
    have f4 : w.frozen? ⟨g, 4, none⟩ = false := Blk.frozen h 4
    have f0 : w.frozen? ⟨g, 0, none⟩ = false := Blk.frozen h 0
    have H := Lib.hid h
    clear h
    go_enter Try.func31, Try.ntmps31
    go_wp2
    go_region
    all_goals go_wp2
    go_end0
    refine ⟨rfl, (((Blk.set H.out 0 _).set 4 _).drew), ?_⟩
    refine Fr.drew (Fr.setCell (Fr.setCell (Fr.refl _ _) ?_ _) ?_ _) <;> exact .inl rfl
  · have h4 : w.cell? ⟨g, 4, none⟩ = some (.int .i64 1) := h.c4
    have h0 : w.cell? ⟨g, 1, none⟩ = some (.int .u8 0) := h.c1
    have f4 : w.frozen? ⟨g, 4, none⟩ = false := Blk.frozen h 4
    have f0 : w.frozen? ⟨g, 1, none⟩ = false := Blk.frozen h 1
    have H := Lib.hid h
    clear h
    go_enter Try.func31, Try.ntmps31
    go_wp2
    go_region
    all_goals go_wp2
    go_end0
    refine ⟨rfl, (((Blk.set H.out 1 _).set 4 _).drew), ?_⟩
    refine Fr.drew (Fr.setCell (Fr.setCell (Fr.refl _ _) ?_ _) ?_ _) <;> exact .inl rfl
  · have h4 : w.cell? ⟨g, 4, none⟩ = some (.int .i64 2) := h.c4
    have h0 : w.cell? ⟨g, 2, none⟩ = some (.int .u8 0) := h.c2
    have f4 : w.frozen? ⟨g, 4, none⟩ = false := Blk.frozen h 4
    have f0 : w.frozen? ⟨g, 2, none⟩ = false := Blk.frozen h 2
    have H := Lib.hid h
    clear h
    go_enter Try.func31, Try.ntmps31
    go_wp2
    go_region
    all_goals go_wp2
    go_end0
    refine ⟨rfl, (((Blk.set H.out 2 _).set 4 _).drew), ?_⟩
    refine Fr.drew (Fr.setCell (Fr.setCell (Fr.refl _ _) ?_ _) ?_ _) <;> exact .inl rfl
  · have h4 : w.cell? ⟨g, 4, none⟩ = some (.int .i64 3) := h.c4
    have h0 : w.cell? ⟨g, 3, none⟩ = some (.int .u8 0) := h.c3
    have f4 : w.frozen? ⟨g, 4, none⟩ = false := Blk.frozen h 4
    have f0 : w.frozen? ⟨g, 3, none⟩ = false := Blk.frozen h 3
    have H := Lib.hid h
    clear h
    go_enter Try.func31, Try.ntmps31
    go_wp2
    go_region
    all_goals go_wp2
    go_end0
    refine ⟨rfl, (((Blk.set H.out 3 _).set 4 _).drew), ?_⟩
    refine Fr.drew (Fr.setCell (Fr.setCell (Fr.refl _ _) ?_ _) ?_ _) <;> exact .inl rfl
  · exact absurd hs (by simp)

set_option maxHeartbeats 400000 in
theorem end_none (g : Nat) (v : Value) (w : World) (h : Dec w g []) :
    Calls Try.prog 25 #[.pointer (some ⟨g, 0, none⟩), v] w fun e w' => e = .returned v ∧ w = w' := by
  have h4 : w.cell? ⟨g, 4, none⟩ = some (.int .i64 0) := h.c4
  clear h
  go_enter Try.func25, Try.ntmps25
  go_wp2
  go_ret
  exact ⟨rfl, rfl⟩

theorem fr_reset (w : World) (g : Nat) : Fr (· = g) w (((((w.setCell ⟨g, 0, none⟩ (.int .u8 0)).setCell ⟨g, 1, none⟩ (.int .u8 0)).setCell ⟨g, 2, none⟩ (.int .u8 0)).setCell ⟨g, 3, none⟩ (.int .u8 0)).setCell ⟨g, 4, none⟩ (.int .i64 0)) := by
  refine Fr.setCell (Fr.setCell (Fr.setCell (Fr.setCell (Fr.setCell (Fr.refl _ _) ?_ _) ?_ _) ?_ _) ?_ _) ?_ _ <;> exact .inl rfl
theorem dec_reset {w : World} {g : Nat} {s : List Int} (h : Dec w g s) : Dec (((((w.setCell ⟨g, 0, none⟩ (.int .u8 0)).setCell ⟨g, 1, none⟩ (.int .u8 0)).setCell ⟨g, 2, none⟩ (.int .u8 0)).setCell ⟨g, 3, none⟩ (.int .u8 0)).setCell ⟨g, 4, none⟩ (.int .i64 0)) g [] :=
  ((((Blk.set h 0 _).set 1 _).set 2 _).set 3 _).set 4 _

set_option maxHeartbeats 400000 in
theorem end_some (s : List Int) (hs : s ≠ []) (g : Nat) (w : World) (h : Dec w g s) (v : Value) (n base : Nat) (xs : List Value)
    (hown : w.ownsRow base 21 1 v n xs) (hb : base ≤ w.heap.size) (hn : n ≤ 1000000) :
    Calls Try.prog 25 #[.pointer (some ⟨g, 0, none⟩), v] w fun e w' =>
      ∃ v', e = .returned v' ∧ w'.ownsRow base 21 1 v' (n + 1) (xs ++ [.int .i32 65533]) ∧ Dec w' g [] ∧ Fr (fun k => k = g ∨ v.ownBlock = some k) w w' ∧ ∀ k, v'.ownBlock = some k → v.ownBlock = some k ∨ w.heap.size ≤ k := by
  have h4 : w.cell? ⟨g, 4, none⟩ = some (.int .i64 s.length) := h.c4
  have f4 := Blk.frozen h 4
  have hp : 0 < s.length := List.length_pos_iff.2 hs
  have H := Lib.hid h
  clear h
  go_enter Try.func25, Try.ntmps25
  go_wp2_with (at_builtin; refine app32 rfl _ _ rfl base v n xs rfl (hown.alloc _) w.heap.size _ 1 1 [.int .i32 65533] rfl (rd_new _ _ 1 _ rfl rfl) (by simp [Value.oneCell']) (by omega) (by simp; omega) ?_; intro v1 w1 hown1 hg1 hat; have HA := Lib.hid hat; clear hat; have hd1 : Dec w1 g s := (Blk.alloc H.out _).grown hg1 (own_far hown H.out (by decide)); obtain ⟨c0, c1, c2, c3, c4, g0, g1, g2, g3, g4⟩ := hd1.facts; have HD := Lib.hid hd1; clear hd1; have HO := Lib.hid hown1; clear hown1; have HG := Lib.hid hg1; clear hg1)
  go_ret
  refine ⟨v1, rfl, own_fr HO.out (fr_reset w1 g) ?_, dec_reset HD.out, ?_, ?_⟩
  · exact fun k hk he => own_far HO.out HD.out (by decide) (by rw [hk, he])
  · refine Fr.trans (Fr.grown (Fr.alloc (Fr.refl _ _) _) HG.out (fun k hk => .inl (.inr hk))) (fr_reset w1 g) (fun k _ hk => .inl hk)
  · intro k hk
    rcases HA.out with e | e
    · exact .inl (by rw [← e]; exact hk)
    · right
      rw [e] at hk
      simp at hk
      omega

/-- The slice v, a row of the call's own among the blocks from base on, holds the runes l. -/
def Own32 (w : World) (base : Nat) (v : Value) (l : List Int) : Prop := w.ownsRow base 21 1 v l.length (l.map (.int .i32))
theorem Own32.nil (w : World) (base : Nat) : Own32 w base (.slice none 0 0) [] := World.ownsRow_nil w base 21 1
section
variable {S : Nat → Prop} {w w' : World} {base g : Nat} {v : Value} {l : List Int} {s : List Int}
theorem Own32.fr (h : Own32 w base v l) (hf : Fr S w w') (hn : ∀ k, v.ownBlock = some k → ¬ S k) : Own32 w' base v l := own_fr h hf hn
theorem Own32.far (h : Own32 w base v l) (hd : Dec w g s) : v.ownBlock ≠ some g := own_far h hd (by decide)
theorem Own32.lt (h : Own32 w base v l) {k : Nat} (hk : v.ownBlock = some k) : base ≤ k ∧ k < w.heap.size := World.ownsRow.lt h k hk
theorem Own32.of {t : List Int} {m : Nat} (h : w.ownsRow base 21 1 v (l.length + m) (l.map (.int .i32) ++ t.map (.int .i32))) (hm : t.length = m) : Own32 w base v (l ++ t) := by
  subst hm
  unfold Own32
  rw [List.length_append, List.map_append]
  exact h
theorem Dec.fr (h : Dec w g s) (hf : Fr S w w') (hn : ¬ S g) : Dec w' g s := Blk.fr h hf hn
end

theorem end_any (s : List Int) (g : Nat) (w : World) (h : Dec w g s) (v : Value) (base : Nat) (l : List Int)
    (hown : Own32 w base v l) (hb : base ≤ w.heap.size) (hn : l.length ≤ 1000000) :
    Calls Try.prog 25 #[.pointer (some ⟨g, 0, none⟩), v] w fun e w' =>
      ∃ v', e = .returned v' ∧ Own32 w' base v' (l ++ endI s) ∧ Dec w' g [] ∧ Fr (fun k => k = g ∨ v.ownBlock = some k) w w' ∧ ∀ k, v'.ownBlock = some k → v.ownBlock = some k ∨ w.heap.size ≤ k := by
  by_cases hs : s = []
  · subst hs
    refine (end_none g v w h).mono ?_
    rintro e w' ⟨rfl, rfl⟩
    exact ⟨v, rfl, by simpa [endI] using hown, h, Fr.refl _ _, fun k hk => .inl hk⟩
  · refine (end_some s hs g w h v l.length base _ hown hb hn).mono ?_
    rintro e w' ⟨v', rfl, h1, h2, h3, h4⟩
    refine ⟨v', rfl, ?_, h2, h3, h4⟩
    simpa [Own32, endI, hs] using h1

end Go.Proofs.Ytdkkdicgjhjinaa
