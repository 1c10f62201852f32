/-
  Colors and pens as numbers: which ones there are, their bits and words, and the colors and pens with bits and words.

  The walks of the program's small functions: against, printed, the two closures.
  The walks of the program's small functions on colors.
  Which pens there are.
-/
import Derived.Laws.BitsLemmas
import Derived.Laws.Bits64
import Derived.Test.YtlpjhaghphmbeaaDoorRows
import Derived.Test.YtlpjhaghphmbeaaDoorBase
import Derived.RegionTactic
import Derived.BigRegion
import Derived.BigQuiet
import Derived.Laws.StructEq
import Derived.ChangeKeysEq
import Derived.Deep.RegionHeld3
import Derived.Deep.RegionWith
import Derived.Deep.DeepMust
import Derived.Outline
namespace Go.Proofs.YtlpjhaghphmbeaaDoor

structure Co where
  k : Int
  i : Int
  r : Int
  g : Int
  b : Int
structure Pn where
  fore : Co
  back : Co
  fl : Int

instance : DecidableEq Co := fun a c => decidable_of_iff (a.k = c.k ∧ a.i = c.i ∧ a.r = c.r ∧ a.g = c.g ∧ a.b = c.b) (by cases a; cases c; simp)
instance : DecidableEq Pn := fun a c => decidable_of_iff (a.fore = c.fore ∧ a.back = c.back ∧ a.fl = c.fl) (by cases a; cases c; simp)

/-- The parts are what their types allow. -/
structure Co.Ok (c : Co) : Prop where
  k0 : -9223372036854775808 ≤ c.k
  k1 : c.k ≤ 9223372036854775807
  i0 : 0 ≤ c.i
  i1 : c.i ≤ 255
  r0 : 0 ≤ c.r
  r1 : c.r ≤ 255
  g0 : 0 ≤ c.g
  g1 : c.g ≤ 255
  b0 : 0 ≤ c.b
  b1 : c.b ≤ 255
structure Pn.Ok (p : Pn) : Prop where
  fore : p.fore.Ok
  back : p.back.Ok
  f0 : 0 ≤ p.fl
  f1 : p.fl ≤ 255

abbrev zeroC : Co := ⟨0, 0, 0, 0, 0⟩
abbrev zeroP : Pn := ⟨zeroC, zeroC, 0⟩
theorem zeroC_ok : zeroC.Ok := by constructor <;> decide
theorem zeroP_ok : zeroP.Ok := ⟨zeroC_ok, zeroC_ok, by decide, by decide⟩

def colB (c : Co) : Bool :=
  if c.k = 0 then decide (c.i = 0 ∧ c.r = 0 ∧ c.g = 0 ∧ c.b = 0)
  else if c.k = 1 then decide (c.r = 0 ∧ c.g = 0 ∧ c.b = 0)
  else if c.k = 2 then decide (c.i = 0) else false
def bitsI (c : Co) : Int :=
  if c.k = 1 then 16777216 + c.i else if c.k = 2 then 33554432 + 65536 * c.r + 256 * c.g + c.b else 0
def colW (x : Int) : Co :=
  if x / 16777216 = 1 then ⟨1, x % 256, 0, 0, 0⟩ else if x / 16777216 = 2 then ⟨2, 0, x / 65536 % 256, x / 256 % 256, x % 256⟩ else zeroC
def validB (p : Pn) : Bool := colB p.fore && colB p.back
def wordI (p : Pn) : Int := bitsI p.fore + 67108864 * bitsI p.back + 4503599627370496 * p.fl
def penW (x : Int) : Pn := ⟨colW (x % 67108864), colW (x / 67108864 % 67108864), x / 4503599627370496 % 256⟩

theorem bits_lt {c : Co} (h : c.Ok) : 0 ≤ bitsI c ∧ bitsI c < 67108864 := by
  have := h.i0; have := h.i1; have := h.r0; have := h.r1; have := h.g0; have := h.g1; have := h.b0; have := h.b1
  unfold bitsI
  split
  · omega
  · split <;> omega

end Go.Proofs.YtlpjhaghphmbeaaDoor
/-
  The tables of the chapter, and how many columns a rune has.
-/
namespace Go.Proofs.YtlpjhaghphmbeaaDoor

def marksL : List (Int × Int) := [(768, 879), (1155, 1161), (1425, 1469), (1552, 1562), (1611, 1631), (1750, 1756), (3633, 3633), (3636, 3642), (3655, 3662), (6832, 6911), (7616, 7679), (8203, 8207), (8400, 8447), (12330, 12335), (12441, 12442), (65024, 65039), (65056, 65071), (917760, 917999)]
def wideL : List (Int × Int) := [(4352, 4447), (9001, 9002), (11904, 12329), (12336, 12350), (12353, 12440), (12443, 13311), (13312, 19903), (19968, 42191), (43360, 43391), (44032, 55203), (63744, 64255), (65072, 65135), (65280, 65376), (65504, 65510), (127744, 128591), (128640, 128767), (129280, 129535), (131072, 196605), (196608, 262141)]

def lo (l : List (Int × Int)) (j : Nat) : Int := (l.getD j (0, 0)).1
def hi (l : List (Int × Int)) (j : Nat) : Int := (l.getD j (0, 0)).2

/-- -1 below a range, 0 in it, 1 above it. -/
def agI (r a b : Int) : Int := if r < a then -1 else if b < r then 1 else 0
def inB (l : List (Int × Int)) (r : Int) : Bool := l.any fun x => decide (x.1 ≤ r) && decide (r ≤ x.2)
def printedB (r : Int) : Bool := decide (32 ≤ r) && !(decide (127 ≤ r) && decide (r ≤ 159)) && !(decide (55296 ≤ r) && decide (r ≤ 57343)) && decide (r ≤ 1114111)
def ofI (r : Int) : Int := if printedB r = false then -1 else if inB marksL r then 0 else if inB wideL r then 2 else 1

/-- The ranges stand in increasing order. -/
def Sorted (l : List (Int × Int)) : Prop := ∀ j, j < l.length → lo l j ≤ hi l j ∧ (j + 1 < l.length → hi l j < lo l (j + 1))
instance (l : List (Int × Int)) : Decidable (Sorted l) := by unfold Sorted; infer_instance
theorem marks_sorted : Sorted marksL := by decide
theorem wide_sorted : Sorted wideL := by decide

theorem inB_iff (l : List (Int × Int)) (r : Int) : inB l r = true ↔ ∃ j, j < l.length ∧ agI r (lo l j) (hi l j) = 0 := by
  unfold inB
  rw [List.any_eq_true]
  constructor
  · rintro ⟨x, hx, h⟩
    obtain ⟨j, hj, rfl⟩ := List.getElem_of_mem hx
    refine ⟨j, hj, ?_⟩
    simp at h
    simp only [lo, hi, List.getD, List.getElem?_eq_getElem hj, Option.getD_some, agI]
    rw [if_neg (by omega), if_neg (by omega)]
  · rintro ⟨j, hj, h⟩
    refine ⟨l[j], List.getElem_mem hj, ?_⟩
    simp only [lo, hi, List.getD, List.getElem?_eq_getElem hj, Option.getD_some, agI] at h
    split at h
    · cases h
    · split at h
      · cases h
      · simp; omega

theorem sorted_lt {l : List (Int × Int)} (h : Sorted l) (i k : Nat) (hik : i < k) (hk : k < l.length) : hi l i < lo l k := by
  induction k with
  | zero => omega
  | succ k ih =>
    rcases Nat.lt_or_ge i k with h1 | h1
    · have h2 := ih h1 (by omega)
      have h3 := (h k (by omega)).1
      have h4 := (h k (by omega)).2 hk
      omega
    · obtain rfl : i = k := by omega
      exact (h i (by omega)).2 hk
/-- Above a range: above all ranges before it. -/
theorem ag_up {l : List (Int × Int)} (h : Sorted l) (r : Int) {i k : Nat} (hik : i ≤ k) (hk : k < l.length) (ha : 0 < agI r (lo l k) (hi l k)) : 0 < agI r (lo l i) (hi l i) := by
  rcases Nat.eq_or_lt_of_le hik with rfl | h1
  · exact ha
  · have h2 := sorted_lt h i k h1 hk
    have h3 := (h k hk).1
    have h4 := (h i (by omega)).1
    unfold agI at ha ⊢
    split at ha
    · omega
    · split at ha
      · rw [if_neg (by omega), if_pos (by omega)]; omega
      · omega

end Go.Proofs.YtlpjhaghphmbeaaDoor
namespace Go.Proofs.YtlpjhaghphmbeaaDoor
open Go.RowKit

theorem ret_int {k : IntKind} {a b : Int} (h : a = b) : Ending.returned (.int k a) = .returned (.int k b) := by rw [h]
theorem ret_bool {a b : Bool} (h : a = b) : Ending.returned (.bool a) = .returned (.bool b) := by rw [h]
theorem New.trans {a b c : World} (h : New a b) (k : New b c) : New a c := Fr.trans h k (fun _ _ h => h)
theorem New.alloc {a : World} (o : Obj) : New a (a.alloc o) := Fr.alloc (Fr.refl _ _) _

/-- Block b holds the ranges l. -/
def Rg (w : World) (b : Nat) (l : List (Int × Int)) : Prop :=
  b < w.heap.size ∧ ∀ j, j < l.length → w.cell? ⟨b, j * 2, none⟩ = some (.int .i32 (lo l j)) ∧ w.cell? ⟨b, j * 2 + 1, none⟩ = some (.int .i32 (hi l j))
theorem Rg.new {w w' : World} {b : Nat} {l : List (Int × Int)} (h : Rg w b l) (hf : New w w') : Rg w' b l :=
  ⟨Nat.lt_of_lt_of_le h.1 hf.size, fun j hj => ⟨(hf.cell (p := ⟨b, j * 2, none⟩) h.1 (fun h => h)).trans (h.2 j hj).1, (hf.cell (p := ⟨b, j * 2 + 1, none⟩) h.1 (fun h => h)).trans (h.2 j hj).2⟩⟩
/-- The cells of ranges, one behind the other. -/
def flat : List (Int × Int) → List Value
  | [] => []
  | x :: l => .int .i32 x.1 :: .int .i32 x.2 :: flat l
def arr (l : List (Int × Int)) : Array Value := (flat l).toArray
theorem flat_at (l : List (Int × Int)) (j : Nat) (hj : j < l.length) : (flat l)[j * 2]? = some (.int .i32 (lo l j)) ∧ (flat l)[j * 2 + 1]? = some (.int .i32 (hi l j)) := by
  induction l generalizing j with
  | nil => simp at hj
  | cons x l ih =>
    cases j with
    | zero => simp [flat, lo, hi]
    | succ j =>
      have := ih j (by simpa using hj)
      rw [show (j + 1) * 2 = j * 2 + 1 + 1 by omega]
      simpa [flat, lo, hi] using this
theorem Rg.of_heap {w : World} {b : Nat} {l : List (Int × Int)} {t : TypeId} {f : Nat × Nat} (h : w.heap[b]? = some (.cells (arr l) t f)) : Rg w b l := by
  have hb : b < w.heap.size := by
    rcases Nat.lt_or_ge b w.heap.size with hlt | hge
    · exact hlt
    · rw [Array.getElem?_eq_none hge] at h; cases h
  refine ⟨hb, fun j hj => ?_⟩
  have := flat_at l j hj
  rw [cell_of_row w b _ (arr l) t f h, cell_of_row w b _ (arr l) t f h]
  simpa [arr] using this
/-- Both tables stand in the program's two variables. -/
structure Tab (w : World) : Prop where
  m : ∃ t f, w.heap[0]? = some (.cells (arr marksL) t f)
  w : ∃ t f, w.heap[1]? = some (.cells (arr wideL) t f)
theorem Tab.marks {w : World} (h : Tab w) : Rg w 0 marksL := by obtain ⟨t, f, h⟩ := h.m; exact Rg.of_heap h
theorem Tab.wide {w : World} (h : Tab w) : Rg w 1 wideL := by obtain ⟨t, f, h⟩ := h.w; exact Rg.of_heap h
theorem Tab.new {w w' : World} (h : Tab w) (hf : New w w') : Tab w' := by
  have h0 := h.marks.1
  have h1 := h.wide.1
  obtain ⟨t, f, hm⟩ := h.m
  obtain ⟨s, g, hw⟩ := h.w
  exact ⟨⟨t, f, (hf.block 0 h0 (fun h => h)).trans hm⟩, ⟨s, g, (hf.block 1 h1 (fun h => h)).trans hw⟩⟩

set_option maxHeartbeats 400000 in
theorem against_any (r a b : Int) (w : World) :
    Calls Tryd.prog 99 #[.int .i32 r, .agg #[.int .i32 a, .int .i32 b]] w fun e w' => e = .returned (.int .i64 (agI r a b)) ∧ New w w' := by
  go_enter Tryd.func99, Tryd.ntmps99
  go_wp2
  all_goals
    go_ret
    refine ⟨ret_int ?_, New.alloc _⟩
    unfold agI
    repeat' split
    all_goals omega

set_option maxHeartbeats 400000 in
theorem printed_any (r : Int) (w : World) :
    Calls Tryd.prog 87 #[.int .i32 r] w fun e w' => e = .returned (.bool (printedB r)) ∧ w = w' := by
  go_enter Tryd.func87, Tryd.ntmps87
  go_wp2
  all_goals
    go_ret
    refine ⟨ret_bool ?_, rfl⟩
    unfold printedB
    simp_all <;> omega

set_option maxHeartbeats 400000 in
theorem Printed_any (r : Int) (w : World) :
    Calls Tryd.prog 91 #[.int .i32 r] w fun e w' => e = .returned (.bool (printedB r)) ∧ w = w' := by
  go_enter Tryd.func91, Tryd.ntmps91
  go_wp2
  all_goals
    go_ret
    refine ⟨ret_bool ?_, rfl⟩
    unfold printedB
    first
      | (simp_all <;> omega)
      | (rw [Bool.eq_iff_iff]; simp; omega)

end Go.Proofs.YtlpjhaghphmbeaaDoor
namespace Go.Proofs.YtlpjhaghphmbeaaDoor
open Go.RowKit


theorem Fr.of_drew {S : Nat → Prop} {a b : World} (h : Fr S a.drew b) : Fr S a b := ⟨h.os, h.tape, h.output, h.size, h.block⟩
abbrev Co.v (c : Co) : Value := .agg #[.int .i64 c.k, .int .u8 c.i, .int .u8 c.r, .int .u8 c.g, .int .u8 c.b]
abbrev Pn.v (p : Pn) : Value := .agg #[.int .i64 p.fore.k, .int .u8 p.fore.i, .int .u8 p.fore.r, .int .u8 p.fore.g, .int .u8 p.fore.b, .int .i64 p.back.k, .int .u8 p.back.i, .int .u8 p.back.r, .int .u8 p.back.g, .int .u8 p.back.b, .int .u8 p.fl]

theorem und24 : Tryd.prog.underlying 90 = some (.struct (Tryd.prog.fieldsOf 90)) := by kernel_rfl
theorem und27 : Tryd.prog.underlying 93 = some (.struct (Tryd.prog.fieldsOf 93)) := by kernel_rfl
theorem held24 : Tryd.prog.stoodInHeld 90 = false := by kernel_rfl
theorem held27 : Tryd.prog.stoodInHeld 93 = false := by kernel_rfl
theorem fields24 : (Tryd.prog.fieldsOf 90).toList.map (fun f => (f.name, f.type, f.offset)) = [("Kind", 88, 0), ("Index", 5, 1), ("R", 5, 2), ("G", 5, 3), ("B", 5, 4)] := by kernel_rfl
theorem fields27 : (Tryd.prog.fieldsOf 93).toList.map (fun f => (f.name, f.type, f.offset)) = [("Fore", 90, 0), ("Back", 90, 5), ("Flags", 91, 10)] := by kernel_rfl
theorem cells5 : Tryd.prog.cellsOf 90 = 5 := by kernel_rfl
theorem guard24 : Tryd.prog.eqGuardType Tryd.prog.depth 90 = false := by kernel_rfl
theorem guard27 : Tryd.prog.eqGuardType Tryd.prog.depth 93 = false := by kernel_rfl

section
variable {α β : Type} (g : α → β)
theorem parts5 (l : List α) {b0 b1 b2 b3 b4 : β} (h : l.map g = [b0, b1, b2, b3, b4]) : ∃ a0 a1 a2 a3 a4, l = [a0, a1, a2, a3, a4] ∧ g a0 = b0 ∧ g a1 = b1 ∧ g a2 = b2 ∧ g a3 = b3 ∧ g a4 = b4 := by
  match l, h with
  | [a0, a1, a2, a3, a4], h => simp at h; exact ⟨a0, a1, a2, a3, a4, rfl, h⟩
theorem parts3 (l : List α) {b0 b1 b2 : β} (h : l.map g = [b0, b1, b2]) : ∃ a0 a1 a2, l = [a0, a1, a2] ∧ g a0 = b0 ∧ g a1 = b1 ∧ g a2 = b2 := by
  match l, h with
  | [a0, a1, a2], h => simp at h; exact ⟨a0, a1, a2, rfl, h⟩
end

theorem eqFields_cons (d : Nat) (xs ys : Array Value) (f : Field) (fs : List Field) {n : String} {t o : Nat} (h : (f.name, f.type, f.offset) = (n, t, o)) (hn : n ≠ "_") (a b : Value) (r : Bool) (w : World)
    (ha : (part t xs o).run Tryd.prog w = .ok a w) (hb : (part t ys o).run Tryd.prog w = .ok b w) (he : (Op.equalIn d t a b).run Tryd.prog w = .ok r w) :
    (Op.eqFields d xs ys (f :: fs)).run Tryd.prog w = if r = true then (Op.eqFields d xs ys fs).run Tryd.prog w else .ok false w := by
  simp only [Prod.mk.injEq] at h
  obtain ⟨h1, h2, h3⟩ := h
  simp only [Op.eqFields, h1, h2, h3, ne_eq, hn, not_false_eq_true, if_true, Sem.run_bind, ha, hb, he, Result.andThen_ok]
  cases r <;> simp

theorem part_int {t : Nat} {k : IntKind} (hu : Tryd.prog.underlying t = some (.int k)) (xs : Array Value) (o : Nat) (v : Value) (h : xs[o]? = some v) (w : World) : (part t xs o).run Tryd.prog w = .ok v w := by
  simp [part, isAgg, run_underlying hu, h]

theorem eq_col (n : Nat) (c d : Co) (w : World) : (Op.equalIn (n + 2) 90 c.v d.v).run Tryd.prog w = .ok (decide (c = d)) w := by
  obtain ⟨f0, f1, f2, f3, f4, hl, h0, h1, h2, h3, h4⟩ := parts5 _ _ fields24
  rw [run_equalIn_agg w (n + 1) 90 _ _ und24 held24, hl]
  have pk := fun xs o v h => part_int Tryd.underlying88 xs o v h w
  have pu := fun xs o v h => part_int Tryd.underlying5 xs o v h w
  have ek := fun a b => run_equalIn_int (P := Tryd.prog) w n 88 .i64 .i64 a b Tryd.underlying88
  have eu := fun a b => run_equalIn_int (P := Tryd.prog) w n 5 .u8 .u8 a b Tryd.underlying5
  rw [eqFields_cons _ _ _ f0 _ h0 (by decide) _ _ _ w (pk _ 0 _ rfl) (pk _ 0 _ rfl) (ek _ _),
    eqFields_cons _ _ _ f1 _ h1 (by decide) _ _ _ w (pu _ 1 _ rfl) (pu _ 1 _ rfl) (eu _ _),
    eqFields_cons _ _ _ f2 _ h2 (by decide) _ _ _ w (pu _ 2 _ rfl) (pu _ 2 _ rfl) (eu _ _),
    eqFields_cons _ _ _ f3 _ h3 (by decide) _ _ _ w (pu _ 3 _ rfl) (pu _ 3 _ rfl) (eu _ _),
    eqFields_cons _ _ _ f4 _ h4 (by decide) _ _ _ w (pu _ 4 _ rfl) (pu _ 4 _ rfl) (eu _ _)]
  simp only [Op.eqFields, Sem.run_pure]
  obtain ⟨a0, a1, a2, a3, a4⟩ := c
  obtain ⟨b0, b1, b2, b3, b4⟩ := d
  simp only [Co.mk.injEq, beq_iff_eq]
  split <;> rename_i e0
  · split <;> rename_i e1
    · split <;> rename_i e2
      · split <;> rename_i e3
        · split <;> rename_i e4
          · simp [e0, e1, e2, e3, e4]
          · simp [e4]
        · simp [e3]
      · simp [e2]
    · simp [e1]
  · simp [e0]
theorem isAgg24 (w : World) : (isAgg 90).run Tryd.prog w = .ok true w := by simp [isAgg, run_underlying und24]
theorem part_col (xs : Array Value) (o : Nat) (w : World) : (part 90 xs o).run Tryd.prog w = .ok (.agg (xs.extract o (o + 5))) w := by
  obtain ⟨i, hi⟩ := info_of_underlying und24
  simp only [part, Sem.run_bind, isAgg24, Result.andThen_ok, if_true, run_sizeOf w hi, cells5, Sem.run_pure]
theorem eq_pen (n : Nat) (p q : Pn) (w : World) : (Op.equalIn (n + 3) 93 p.v q.v).run Tryd.prog w = .ok (decide (p = q)) w := by
  obtain ⟨f0, f1, f2, hl, h0, h1, h2⟩ := parts3 _ _ fields27
  rw [run_equalIn_agg w (n + 2) 93 _ _ und27 held27, hl]
  have pu := fun xs o v h => part_int Tryd.underlying91 xs o v h w
  have eu := fun a b => run_equalIn_int (P := Tryd.prog) w (n + 1) 91 .u8 .u8 a b Tryd.underlying91
  have c0 : ∀ p : Pn, (part 90 #[.int .i64 p.fore.k, .int .u8 p.fore.i, .int .u8 p.fore.r, .int .u8 p.fore.g, .int .u8 p.fore.b, .int .i64 p.back.k, .int .u8 p.back.i, .int .u8 p.back.r, .int .u8 p.back.g, .int .u8 p.back.b, .int .u8 p.fl] 0).run Tryd.prog w = .ok p.fore.v w := fun p => part_col _ _ _
  have c5 : ∀ p : Pn, (part 90 #[.int .i64 p.fore.k, .int .u8 p.fore.i, .int .u8 p.fore.r, .int .u8 p.fore.g, .int .u8 p.fore.b, .int .i64 p.back.k, .int .u8 p.back.i, .int .u8 p.back.r, .int .u8 p.back.g, .int .u8 p.back.b, .int .u8 p.fl] 5).run Tryd.prog w = .ok p.back.v w := fun p => part_col _ _ _
  rw [eqFields_cons _ _ _ f0 _ h0 (by decide) _ _ _ w (c0 p) (c0 q) (eq_col n _ _ _),
    eqFields_cons _ _ _ f1 _ h1 (by decide) _ _ _ w (c5 p) (c5 q) (eq_col n _ _ _),
    eqFields_cons _ _ _ f2 _ h2 (by decide) _ _ _ w (pu _ 10 _ rfl) (pu _ 10 _ rfl) (eu _ _)]
  simp only [Op.eqFields, Sem.run_pure]
  obtain ⟨a0, a1, a2⟩ := p
  obtain ⟨b0, b1, b2⟩ := q
  simp only [Pn.mk.injEq, beq_iff_eq, decide_eq_true_eq]
  split <;> rename_i e0
  · split <;> rename_i e1
    · split <;> rename_i e2
      · simp [e0, e1, e2]
      · simp [e2]
    · simp [e1]
  · simp [e0]

theorem Blk.eleven {w : World} {g : Nat} {t : TypeId} {a b c d e f h i j k l : Value} (B : Blk w g t #[a, b, c, d, e, f, h, i, j, k, l]) :
    w.cell? ⟨g, 0, none⟩ = some a ∧ w.cell? ⟨g, 1, none⟩ = some b ∧ w.cell? ⟨g, 2, none⟩ = some c ∧ w.cell? ⟨g, 3, none⟩ = some d ∧ w.cell? ⟨g, 4, none⟩ = some e ∧
    w.cell? ⟨g, 5, none⟩ = some f ∧ w.cell? ⟨g, 6, none⟩ = some h ∧ w.cell? ⟨g, 7, none⟩ = some i ∧ w.cell? ⟨g, 8, none⟩ = some j ∧ w.cell? ⟨g, 9, none⟩ = some k ∧ w.cell? ⟨g, 10, none⟩ = some l :=
  ⟨B.cell 0, B.cell 1, B.cell 2, B.cell 3, B.cell 4, B.cell 5, B.cell 6, B.cell 7, B.cell 8, B.cell 9, B.cell 10⟩
theorem Blk.free {w : World} {g : Nat} {t : TypeId} {cs : Array Value} (B : Blk w g t cs) : ∀ i, w.frozen? ⟨g, i, none⟩ = false := fun i => B.frozen i

set_option maxHeartbeats 400000 in
theorem Index_any (n : Int) (w : World) :
    Calls Tryd.prog 95 #[.int .u8 n] w fun e w' => e = .returned (.agg #[.int .i64 1, .int .u8 n, .int .u8 0, .int .u8 0, .int .u8 0]) ∧ New w w' := by
  go_enter Tryd.func95, Tryd.ntmps95
  go_wp2
  refine bodyPost_ret (v := .agg #[.int .i64 1, .int .u8 n, .int .u8 0, .int .u8 0, .int .u8 0]) (by simp [results, Tryd.results95, go_sem]) rfl ?_
  exact ⟨rfl, New.alloc _⟩
set_option maxHeartbeats 400000 in
theorem True_any (r g b : Int) (w : World) :
    Calls Tryd.prog 96 #[.int .u8 r, .int .u8 g, .int .u8 b] w fun e w' => e = .returned (.agg #[.int .i64 2, .int .u8 0, .int .u8 r, .int .u8 g, .int .u8 b]) ∧ New w w' := by
  go_enter Tryd.func96, Tryd.ntmps96
  go_wp2
  refine bodyPost_ret (v := .agg #[.int .i64 2, .int .u8 0, .int .u8 r, .int .u8 g, .int .u8 b]) (by simp [results, Tryd.results96, go_sem]) rfl ?_
  exact ⟨rfl, New.alloc _⟩

set_option maxHeartbeats 400000 in
theorem RColor_any (c : Co) (w : World) :
    Calls Tryd.prog 90 #[c.v] w fun e w' => e = .returned (.bool (colB c)) ∧ New w w' := by
  obtain ⟨k, i, r, g, b⟩ := c
  by_cases hr : r = 0
  · by_cases hg : g = 0
    · by_cases hb : b = 0
      · subst hr hg hb
        by_cases hi : i = 0
        · subst hi
          go_enter Tryd.func90, Tryd.ntmps90
          go_wp2
          all_goals
            go_ret
            refine ⟨ret_bool ?_, New.alloc _⟩
            simp_all [colB] <;> (rw [Bool.eq_iff_iff]; simp)
        · have di : (i == 0) = false := by simpa using hi
          go_enter Tryd.func90, Tryd.ntmps90
          go_wp2
          all_goals
            go_ret
            refine ⟨ret_bool ?_, New.alloc _⟩
            simp_all [colB] <;> (rw [Bool.eq_iff_iff]; simp)
      · have db : (b == 0) = false := by simpa using hb
        subst hr hg
        go_enter Tryd.func90, Tryd.ntmps90
        go_wp2
        all_goals
          go_ret
          refine ⟨ret_bool ?_, New.alloc _⟩
          simp_all [colB] <;> (rw [Bool.eq_iff_iff]; simp)
    · have dg : (g == 0) = false := by simpa using hg
      subst hr
      go_enter Tryd.func90, Tryd.ntmps90
      go_wp2
      all_goals
        go_ret
        refine ⟨ret_bool ?_, New.alloc _⟩
        simp_all [colB] <;> (rw [Bool.eq_iff_iff]; simp)
  · have dr : (r == 0) = false := by simpa using hr
    go_enter Tryd.func90, Tryd.ntmps90
    go_wp2
    all_goals
      go_ret
      refine ⟨ret_bool ?_, New.alloc _⟩
      simp_all [colB] <;> (rw [Bool.eq_iff_iff]; simp)

set_option maxHeartbeats 800000 in
theorem ValidColor_any (c : Co) (w : World) :
    Calls Tryd.prog 86 #[c.v] w fun e w' => e = .returned (.bool (colB c)) ∧ New w w' := by
  have hz : ∀ w, (Op.equalIn 10000 90 (.agg #[.int .i64 c.k, .int .u8 c.i, .int .u8 c.r, .int .u8 c.g, .int .u8 c.b]) (.agg #[.int .i64 0, .int .u8 0, .int .u8 0, .int .u8 0, .int .u8 0])).run Tryd.prog w = .ok (decide (c = zeroC)) w := fun w => eq_col 9998 c zeroC w
  have hi : ∀ w, (Op.equalIn 10000 90 (.agg #[.int .i64 c.k, .int .u8 c.i, .int .u8 c.r, .int .u8 c.g, .int .u8 c.b]) (.agg #[.int .i64 1, .int .u8 c.i, .int .u8 0, .int .u8 0, .int .u8 0])).run Tryd.prog w = .ok (decide (c = ⟨1, c.i, 0, 0, 0⟩)) w := fun w => eq_col 9998 c ⟨1, c.i, 0, 0, 0⟩ w
  have ht : ∀ w, (Op.equalIn 10000 90 (.agg #[.int .i64 c.k, .int .u8 c.i, .int .u8 c.r, .int .u8 c.g, .int .u8 c.b]) (.agg #[.int .i64 2, .int .u8 0, .int .u8 c.r, .int .u8 c.g, .int .u8 c.b])).run Tryd.prog w = .ok (decide (c = ⟨2, 0, c.r, c.g, c.b⟩)) w := fun w => eq_col 9998 c ⟨2, 0, c.r, c.g, c.b⟩ w
  have gd := guard24
  by_cases h0 : c.k = 0
  · have j0 : (c.k == 0) = true := by simpa using h0
    have HK := Lib.hid h0
    clear h0
    go_enter Tryd.func86, Tryd.ntmps86
    go_wp2
    go_ret
    refine ⟨ret_bool ?_, New.alloc _⟩
    have h0 := HK.out
    obtain ⟨k, i, r, g, b⟩ := c
    simp_all [colB]
  · have j0 : (c.k == 0) = false := by simpa using h0
    have HK := Lib.hid h0
    clear h0
    by_cases h1 : c.k = 1
    · have j1 : (c.k == 1) = true := by simpa using h1
      have HK1 := Lib.hid h1
      clear h1
      go_enter Tryd.func86, Tryd.ntmps86
      go_wp2
      have B0 := Blk.new w 90 #[.int .i64 c.k, .int .u8 c.i, .int .u8 c.r, .int .u8 c.g, .int .u8 c.b]
      have N0 : New w (w.alloc (.cells #[.int .i64 c.k, .int .u8 c.i, .int .u8 c.r, .int .u8 c.g, .int .u8 c.b] 90)) := New.alloc _
      generalize w.alloc (.cells #[.int .i64 c.k, .int .u8 c.i, .int .u8 c.r, .int .u8 c.g, .int .u8 c.b] 90) = W at *
      generalize w.heap.size = g at *
      have d0 := B0.cell 0
      have d1 := B0.cell 1
      have d2 := B0.cell 2
      have d3 := B0.cell 3
      have d4 := B0.cell 4
      simp only [List.getElem?_toArray, List.getElem?_cons_zero, List.getElem?_cons_succ] at d0 d1 d2 d3 d4
      have HB := Lib.hid B0
      have HN := Lib.hid N0
      clear B0 N0
      go_region_held3 (fun w' => w'.cell? ⟨g, 0, none⟩ = some (.int .i64 c.k) ∧ w'.cell? ⟨g, 1, none⟩ = some (.int .u8 c.i) ∧ w'.cell? ⟨g, 2, none⟩ = some (.int .u8 c.r) ∧ w'.cell? ⟨g, 3, none⟩ = some (.int .u8 c.g) ∧ w'.cell? ⟨g, 4, none⟩ = some (.int .u8 c.b)) (first | go_keep | exact ⟨d0', d1', d2', d3', d4'⟩) (first | (go_at_call 95; refine ((Index_any c.i _)).mono ?_; rintro e w2 ⟨rfl, hn⟩; have HN2 := Lib.hid hn.of_drew; clear hn; have B2 := HB.out.fr HN2.out (fun h => h); have d0' := B2.cell 0; have d1' := B2.cell 1; have d2' := B2.cell 2; have d3' := B2.cell 3; have d4' := B2.cell 4; clear B2; simp only [List.getElem?_toArray, List.getElem?_cons_zero, List.getElem?_cons_succ] at d0' d1' d2' d3' d4'))
      all_goals
        first | go_wp2 | skip
        go_ret
        exact ⟨ret_bool (by
          have h1 := HK1.out
          obtain ⟨k, i, r, g, b⟩ := c
          simp_all [colB]), HN.out.trans HN2.out⟩
    · have j1 : (c.k == 1) = false := by simpa using h1
      have HK1 := Lib.hid h1
      clear h1
      by_cases h2 : c.k = 2
      · have j2 : (c.k == 2) = true := by simpa using h2
        have HK2 := Lib.hid h2
        clear h2
        go_enter Tryd.func86, Tryd.ntmps86
        go_wp2
        have B0 := Blk.new w 90 #[.int .i64 c.k, .int .u8 c.i, .int .u8 c.r, .int .u8 c.g, .int .u8 c.b]
        have N0 : New w (w.alloc (.cells #[.int .i64 c.k, .int .u8 c.i, .int .u8 c.r, .int .u8 c.g, .int .u8 c.b] 90)) := New.alloc _
        generalize w.alloc (.cells #[.int .i64 c.k, .int .u8 c.i, .int .u8 c.r, .int .u8 c.g, .int .u8 c.b] 90) = W at *
        generalize w.heap.size = g at *
        have d0 := B0.cell 0
        have d1 := B0.cell 1
        have d2 := B0.cell 2
        have d3 := B0.cell 3
        have d4 := B0.cell 4
        simp only [List.getElem?_toArray, List.getElem?_cons_zero, List.getElem?_cons_succ] at d0 d1 d2 d3 d4
        have HB := Lib.hid B0
        have HN := Lib.hid N0
        clear B0 N0
        go_region_held3 (fun w' => w'.cell? ⟨g, 0, none⟩ = some (.int .i64 c.k) ∧ w'.cell? ⟨g, 1, none⟩ = some (.int .u8 c.i) ∧ w'.cell? ⟨g, 2, none⟩ = some (.int .u8 c.r) ∧ w'.cell? ⟨g, 3, none⟩ = some (.int .u8 c.g) ∧ w'.cell? ⟨g, 4, none⟩ = some (.int .u8 c.b)) (first | go_keep | exact ⟨d0', d1', d2', d3', d4'⟩) (first | (go_at_call 96; refine ((True_any c.r c.g c.b _)).mono ?_; rintro e w2 ⟨rfl, hn⟩; have HN2 := Lib.hid hn.of_drew; clear hn; have B2 := HB.out.fr HN2.out (fun h => h); have d0' := B2.cell 0; have d1' := B2.cell 1; have d2' := B2.cell 2; have d3' := B2.cell 3; have d4' := B2.cell 4; clear B2; simp only [List.getElem?_toArray, List.getElem?_cons_zero, List.getElem?_cons_succ] at d0' d1' d2' d3' d4'))
        all_goals
          first | go_wp2 | skip
          go_ret
          exact ⟨ret_bool (by
            have h2 := HK2.out
            obtain ⟨k, i, r, g, b⟩ := c
            simp_all [colB]), HN.out.trans HN2.out⟩
      · have j2 : (c.k == 2) = false := by simpa using h2
        have HK2 := Lib.hid h2
        clear h2
        go_enter Tryd.func86, Tryd.ntmps86
        go_wp2
        go_ret
        refine ⟨ret_bool ?_, New.alloc _⟩
        unfold colB
        rw [if_neg HK.out, if_neg HK1.out, if_neg HK2.out]

end Go.Proofs.YtlpjhaghphmbeaaDoor
namespace Go.Proofs.YtlpjhaghphmbeaaDoor
open Go.RowKit

abbrev Pn.cs (p : Pn) : Array Value := #[.int .i64 p.fore.k, .int .u8 p.fore.i, .int .u8 p.fore.r, .int .u8 p.fore.g, .int .u8 p.fore.b, .int .i64 p.back.k, .int .u8 p.back.i, .int .u8 p.back.r, .int .u8 p.back.g, .int .u8 p.back.b, .int .u8 p.fl]

set_option maxHeartbeats 800000 in
theorem Valid_any (p : Pn) (w : World) :
    Calls Tryd.prog 79 #[p.v] w fun e w' => e = .returned (.bool (validB p)) ∧ New w w' := by
  have h1 := fun w => ValidColor_any p.fore w
  have h2 := fun w => ValidColor_any p.back w
  unfold validB
  cases hf : colB p.fore with
  | false =>
    rw [hf] at h1
    go_enter Tryd.func79, Tryd.ntmps79
    go_wp2_with (go_at_call 86; refine (h1 _).mono ?_; rintro e w1 ⟨rfl, hn⟩; have HN := Lib.hid ((New.alloc _).trans hn); clear hn)
    go_ret
    exact ⟨rfl, HN.out⟩
  | true =>
    rw [hf] at h1
    go_enter Tryd.func79, Tryd.ntmps79
    go_wp2_with fail
    refine (h1 _).mono ?_
    rintro e w1 ⟨rfl, hn⟩
    have HN := Lib.hid ((New.alloc _).trans hn)
    obtain ⟨d0, d1, d2, d3, d4, d5, d6, d7, d8, d9, d10⟩ := ((Blk.new w 93 p.cs).fr hn (fun h => h)).eleven
    clear hn
    go_wp2_with fail
    refine (h2 _).mono ?_
    rintro e w2 ⟨rfl, hn⟩
    have HN2 := Lib.hid (HN.out.trans hn)
    clear hn
    go_wp2_with fail
    go_ret
    exact ⟨rfl, HN2.out⟩

set_option maxHeartbeats 800000 in
theorem RValid_any (p : Pn) (w : World) :
    Calls Tryd.prog 84 #[p.v] w fun e w' => e = .returned (.bool (validB p)) ∧ New w w' := by
  have h1 := fun w => RColor_any p.fore w
  have h2 := fun w => RColor_any p.back w
  unfold validB
  cases hf : colB p.fore with
  | false =>
    rw [hf] at h1
    go_enter Tryd.func84, Tryd.ntmps84
    go_wp2_with (go_at_call 90; refine (h1 _).mono ?_; rintro e w1 ⟨rfl, hn⟩; have HN := Lib.hid ((New.alloc _).trans hn); clear hn)
    go_ret
    exact ⟨rfl, HN.out⟩
  | true =>
    rw [hf] at h1
    go_enter Tryd.func84, Tryd.ntmps84
    go_wp2_with fail
    refine (h1 _).mono ?_
    rintro e w1 ⟨rfl, hn⟩
    have HN := Lib.hid ((New.alloc _).trans hn)
    obtain ⟨d0, d1, d2, d3, d4, d5, d6, d7, d8, d9, d10⟩ := ((Blk.new w 93 p.cs).fr hn (fun h => h)).eleven
    clear hn
    go_wp2_with fail
    refine (h2 _).mono ?_
    rintro e w2 ⟨rfl, hn⟩
    have HN2 := Lib.hid (HN.out.trans hn)
    clear hn
    go_wp2_with fail
    go_ret
    exact ⟨rfl, HN2.out⟩

end Go.Proofs.YtlpjhaghphmbeaaDoor
