/-
  Places, as pure data: which ones are valid, their order, the nearest one, steps, texts; what follows from it. No number of the translation stands here.
-/
import Derived.Lib.ItoaNum
import Derived.Lib.AtoiTie
import Derived.Lib.IndexMore
import Derived.Lib.Small
import Derived.Test.YtijaemfalljdoaaDoorBase
namespace Go.Proofs.YtijaemfalljdoaaDoor
open Go.RowKit

/-- A place. -/
structure Pl where
  l : Int
  c : Int
  deriving DecidableEq
abbrev Pl.cs (p : Pl) : Array Value := #[.int .i64 p.l, .int .i64 p.c]
abbrev Pl.v (p : Pl) : Value := .agg p.cs
theorem pl_eq {p q : Pl} : p = q ↔ p.l = q.l ∧ p.c = q.c := by
  cases p; cases q; simp
abbrev zPl : Pl := ⟨0, 0⟩
/-- What an int holds. -/
def I64 (n : Int) : Prop := -9223372036854775808 ≤ n ∧ n ≤ 9223372036854775807
structure Pl.In (p : Pl) : Prop where
  l : I64 p.l
  c : I64 p.c
theorem i64w {n : Int} (h0 : -9223372036854775808 ≤ n) (h1 : n ≤ 9223372036854775807) : IntKind.i64.wrap n = n := IntWalk.i64_in _ ⟨h0, by omega⟩
theorem u8w {n : Int} (h0 : 0 ≤ n) (h1 : n ≤ 255) : IntKind.u8.wrap n = n := by rw [IntKind.wrap_u8]; omega
theorem beqT {i j : Int} (h : i = j) : (i == j) = true := beq_iff_eq.2 h
theorem beqF {i j : Int} (h : ¬ i = j) : (i == j) = false := by simpa using h
theorem bneT {i j : Int} (h : i = j) : (i != j) = false := by simpa using h
theorem bneF {i j : Int} (h : ¬ i = j) : (i != j) = true := by simpa using h
theorem ndT {p : Prop} [Decidable p] (h : p) : (!decide p) = false := by simp [h]
theorem ndF {p : Prop} [Decidable p] (h : ¬ p) : (!decide p) = true := by simp [h]

abbrev okP (p : Pl) : Prop := 0 ≤ p.l ∧ p.l ≤ 1099511627776 ∧ 0 ≤ p.c ∧ p.c ≤ 1000
abbrev befP (a b : Pl) : Prop := a.l < b.l ∨ a.l = b.l ∧ a.c < b.c
def cmpP (a b : Pl) : Int := if befP a b then -1 else if befP b a then 1 else 0
abbrev colP (n : Int) : Prop := 1 ≤ n ∧ n ≤ 1000
abbrev inP (p : Pl) (n : Int) : Prop := okP p ∧ p.c < n
abbrev argC (f n c : Int) : Prop := f < 0 ∨ n ≤ f ∨ 1099511627777 < n ∨ ¬ colP c
def clampP (p : Pl) (f n c : Int) : Pl × Int :=
  if argC f n c then (zPl, 2) else if p.l < f then (⟨f, 0⟩, 0) else if n ≤ p.l then (⟨n - 1, c - 1⟩, 0) else (⟨p.l, if p.c < 0 then 0 else if c ≤ p.c then c - 1 else p.c⟩, 0)
abbrev idxP (p : Pl) (c : Int) : Int := p.l * c + p.c
def stepP (p : Pl) (n c : Int) : Pl × Int :=
  if ¬ (colP c ∧ inP p c) then (zPl, 2) else if 0 ≤ idxP p c + n ∧ idxP p c + n ≤ 1099511627776 * c + (c - 1) then (⟨(idxP p c + n) / c, (idxP p c + n) % c⟩, 0) else (zPl, 3)
def distP (a b : Pl) (c : Int) : Int × Int := if colP c ∧ inP a c ∧ inP b c then (idxP b c - idxP a c, 0) else (0, 2)

/-! ### Texts -/
abbrev textL (p : Pl) : List UInt8 := Lib.decDigits p.l.toNat ++ 58 :: Lib.decDigits p.c.toNat
def textE (p : Pl) : List UInt8 × Int := if okP p then (textL p, 0) else ([], 2)
theorem digits_big {u : Nat} (h : ¬ u < 10) : Lib.decDigits u = Lib.decDigits (u / 10) ++ [UInt8.ofNat (48 + u % 10)] := by rw [Lib.decDigits, dif_neg h]
theorem digits_ne (u : Nat) : Lib.decDigits u ≠ [] := by
  by_cases h : u < 10
  · rw [Lib.decDigits_one h]; simp
  · rw [digits_big h]; simp
theorem digits_mem (u : Nat) : ∀ c ∈ Lib.decDigits u, 48 ≤ c.toNat ∧ c.toNat ≤ 57 := by
  induction u using Nat.strongRecOn with
  | _ u ih =>
    intro c hc
    by_cases h : u < 10
    · rw [Lib.decDigits_one h, List.mem_singleton] at hc
      subst hc
      rw [UInt8.toNat_ofNat_of_lt' (by show 48 + u < 256; omega)]
      omega
    · rw [digits_big h, List.mem_append, List.mem_singleton] at hc
      rcases hc with hc | rfl
      · exact ih (u / 10) (by omega) c hc
      · rw [UInt8.toNat_ofNat_of_lt' (by show 48 + u % 10 < 256; omega)]
        omega
theorem digits_len (k u : Nat) (h : u < 10 ^ (k + 1)) : (Lib.decDigits u).length ≤ k + 1 := by
  induction k generalizing u with
  | zero => rw [Lib.decDigits_one (by simpa using h)]; simp
  | succ k ih =>
    by_cases h1 : u < 10
    · rw [Lib.decDigits_one h1]; simp
    · rw [digits_big h1, List.length_append, List.length_singleton]
      have := ih (u / 10) (by rw [Nat.pow_succ] at h; omega)
      omega
theorem decFrom_app (a b : List UInt8) : ∀ acc, Lib.decFrom acc (a ++ b) = (Lib.decFrom acc a).bind (fun m => Lib.decFrom m b) := by
  induction a with
  | nil => intro acc; simp [Lib.decFrom]
  | cons x a ih =>
    intro acc
    simp only [List.cons_append, Lib.decFrom]
    cases Lib.digitVal x with
    | none => simp
    | some d => simp [ih]
theorem digitVal_of (d : Nat) (h : d < 10) : Lib.digitVal (UInt8.ofNat (48 + d)) = some d := by
  have h2 : d = 0 ∨ d = 1 ∨ d = 2 ∨ d = 3 ∨ d = 4 ∨ d = 5 ∨ d = 6 ∨ d = 7 ∨ d = 8 ∨ d = 9 := by omega
  rcases h2 with rfl | rfl | rfl | rfl | rfl | rfl | rfl | rfl | rfl | rfl <;> rfl
theorem decFrom_digits (u : Nat) : Lib.decFrom 0 (Lib.decDigits u) = some u := by
  induction u using Nat.strongRecOn with
  | _ u ih =>
    by_cases h : u < 10
    · rw [Lib.decDigits_one h]
      simp only [Lib.decFrom, digitVal_of u h, Nat.zero_mul, Nat.zero_add]
    · rw [digits_big h, decFrom_app, ih (u / 10) (by omega)]
      simp only [Option.bind_some, Lib.decFrom, digitVal_of (u % 10) (by omega)]
      congr 1
      omega
theorem atoiAll_digits (u : Nat) (h : u < 1000000000000000000) : Lib.atoiAll (Lib.decDigits u) = .ok (u : Int) := by
  have hl := digits_len 17 u (by omega)
  rw [Lib.atoiAll_short _ hl]
  have e : Lib.atoi (Lib.decDigits u) = some (u : Int) := by
    have h0 := digits_ne u
    have hm := digits_mem u
    have hd := decFrom_digits u
    generalize Lib.decDigits u = l at h0 hm hd
    cases l with
    | nil => exact absurd rfl h0
    | cons c r =>
      have hc := hm c (List.mem_cons_self ..)
      have h43 : c ≠ 43 := by rintro rfl; exact absurd hc.1 (by decide)
      have h45 : c ≠ 45 := by rintro rfl; exact absurd hc.1 (by decide)
      simp [Lib.atoi, Lib.decNat, h43, h45, hd]
  rw [e]
  rfl
theorem index_app (a r : List UInt8) (h : ∀ c ∈ a, c.toNat ≠ 58) : Lib.index (a ++ 58 :: r) [58] = a.length := by
  induction a with
  | nil => simp [Lib.index, List.isPrefixOf]
  | cons x a ih =>
    have hx : ¬ (58 : UInt8) = x := by rintro rfl; exact h 58 (List.mem_cons_self ..) rfl
    have e := ih (fun c hc => h c (List.mem_cons_of_mem _ hc))
    rw [List.cons_append, Lib.index, e]
    have e1 : ([58] : List UInt8).isPrefixOf (x :: (a ++ 58 :: r)) = false := by simp [List.isPrefixOf, hx]
    rw [e1, if_neg (by simp), if_neg (by simp), List.length_cons]
    omega
theorem cut_app (a r : List UInt8) (h : ∀ c ∈ a, c.toNat ≠ 58) : Lib.cut (a ++ 58 :: r) [58] = (a, r, true) := by
  unfold Lib.cut
  rw [index_app a r h, if_pos (by omega)]
  simp
theorem cut_len (l : List UInt8) : (Lib.cut l [58]).1.length ≤ l.length ∧ (Lib.cut l [58]).2.1.length ≤ l.length := by
  unfold Lib.cut
  split
  · simp only [List.length_take, List.length_drop]
    omega
  · simp
/-- The place with a text, as the program finds it. -/
def parseS (l : List UInt8) : Option Pl :=
  match Lib.atoiAll (Lib.cut l [58]).1, Lib.atoiAll (Lib.cut l [58]).2.1 with
  | .ok a, .ok b => if okP ⟨a, b⟩ ∧ textL ⟨a, b⟩ = l then some ⟨a, b⟩ else none
  | _, _ => none
theorem parseS_iff (l : List UInt8) (p : Pl) : parseS l = some p ↔ okP p ∧ textL p = l := by
  constructor
  · intro h
    unfold parseS at h
    split at h
    · rename_i a b _ _
      split at h
      · rename_i h2
        obtain rfl := Option.some.inj h
        exact h2
      · cases h
    · cases h
  · rintro ⟨h, rfl⟩
    have h10 : ∀ c ∈ Lib.decDigits p.l.toNat, c.toNat ≠ 58 := fun c hc => by have := digits_mem _ c hc; omega
    obtain ⟨g1, g2, g3, g4⟩ := id h
    have e1 := atoiAll_digits p.l.toNat (by omega)
    have e2 := atoiAll_digits p.c.toNat (by omega)
    have hl : ((p.l.toNat : Nat) : Int) = p.l := by omega
    have hc : ((p.c.toNat : Nat) : Int) = p.c := by omega
    rw [hl] at e1
    rw [hc] at e2
    unfold parseS
    rw [cut_app _ _ h10]
    simp only [e1, e2, and_true]
    exact if_pos h
/-- The specification's loop. -/
def scanL : List UInt8 → Nat → Int → Int → Option (Int × Int)
  | [], _, a, b => some (a, b)
  | c :: r, k, a, b =>
    if c.toNat = 58 then (if k = 0 then scanL r 1 a b else none)
    else if c.toNat < 48 ∨ 57 < c.toNat ∨ 1099511627776 < (if k = 0 then a else b) then none
    else if k = 0 then scanL r 0 (10 * a + (c.toNat - 48)) b else scanL r 1 a (10 * b + (c.toNat - 48))
def parseR (l : List UInt8) : Option Pl :=
  match scanL l 0 0 0 with
  | some (a, b) => if okP ⟨a, b⟩ ∧ textL ⟨a, b⟩ = l then some ⟨a, b⟩ else none
  | none => none
theorem digit_nat {d : Nat} (h : d < 10) : (UInt8.ofNat (48 + d)).toNat = 48 + d := UInt8.toNat_ofNat_of_lt' (by show 48 + d < 256; omega)
theorem scan_digits (k u : Nat) (hk : k ≤ 1) (hu : u ≤ 10995116277769) (x : Int) (r : List UInt8) : scanL (Lib.decDigits u ++ r) k (if k = 0 then 0 else x) (if k = 0 then x else 0) = scanL r k (if k = 0 then (u : Int) else x) (if k = 0 then x else u) := by
  induction u using Nat.strongRecOn generalizing r with
  | _ u ih =>
    by_cases h : u < 10
    · rw [Lib.decDigits_one h, List.singleton_append, scanL, digit_nat h, if_neg (by omega), if_neg (by split <;> omega)]
      rcases (show k = 0 ∨ k = 1 by omega) with rfl | rfl
      · simp only [if_true]
        congr 1
        omega
      · simp only [Nat.one_ne_zero, if_false]
        congr 1
        omega
    · rw [digits_big h, List.append_assoc, ih (u / 10) (by omega) (by omega), List.singleton_append, scanL, digit_nat (by omega), if_neg (by omega), if_neg (by split <;> omega)]
      rcases (show k = 0 ∨ k = 1 by omega) with rfl | rfl
      · simp only [if_true]
        congr 1
        omega
      · simp only [Nat.one_ne_zero, if_false]
        congr 1
        omega
theorem scan_text (p : Pl) (h : okP p) : scanL (textL p) 0 0 0 = some (p.l, p.c) := by
  obtain ⟨g1, g2, g3, g4⟩ := h
  have e1 := scan_digits 0 p.l.toNat (by omega) (by omega) 0 (58 :: Lib.decDigits p.c.toNat)
  have e2 := scan_digits 1 p.c.toNat (by omega) (by omega) (p.l.toNat : Int) []
  simp only [if_true, Nat.one_ne_zero, if_false, List.append_nil] at e1 e2
  rw [textL, e1, scanL, if_pos rfl, if_pos rfl, e2, scanL]
  rw [show ((p.l.toNat : Nat) : Int) = p.l by omega, show ((p.c.toNat : Nat) : Int) = p.c by omega]
  exact if_pos rfl
theorem parseR_iff (l : List UInt8) (p : Pl) : parseR l = some p ↔ okP p ∧ textL p = l := by
  constructor
  · intro h
    unfold parseR at h
    split at h
    · rename_i a b _
      split at h
      · rename_i h2
        obtain rfl := Option.some.inj h
        exact h2
      · cases h
    · cases h
  · rintro ⟨h, rfl⟩
    unfold parseR
    rw [scan_text p h]
    exact if_pos ⟨h, rfl⟩
theorem parseS_R (l : List UInt8) : parseS l = parseR l := by
  cases h : parseR l with
  | some p => exact (parseS_iff l p).2 ((parseR_iff l p).1 h)
  | none =>
    cases h2 : parseS l with
    | none => rfl
    | some p => rw [(parseR_iff l p).2 ((parseS_iff l p).1 h2)] at h; cases h
theorem parseS_text (p : Pl) (h : okP p) : parseS (textL p) = some p := (parseS_iff _ p).2 ⟨h, rfl⟩
theorem textL_len (p : Pl) (h : okP p) : (textL p).length ≤ 18 := by
  obtain ⟨g1, g2, g3, g4⟩ := h
  have h1 := digits_len 12 p.l.toNat (by omega)
  have h2 := digits_len 3 p.c.toNat (by omega)
  simp only [textL, List.length_append, List.length_cons]
  omega
end Go.Proofs.YtijaemfalljdoaaDoor
