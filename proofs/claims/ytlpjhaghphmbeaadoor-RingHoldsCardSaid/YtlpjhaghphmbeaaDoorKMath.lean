/-
  Words of cells, cells of words, runs; what follows from it.
-/
import Derived.Test.YtlpjhaghphmbeaaDoorA2
namespace Go.Proofs.YtlpjhaghphmbeaaDoor

structure Wd where
  a : Int
  b : Int
  c : Int
instance : DecidableEq Wd := fun x y => decidable_of_iff (x.a = y.a ∧ x.b = y.b ∧ x.c = y.c) (by cases x; cases y; simp)
structure Wd.Ok (x : Wd) : Prop where
  a0 : 0 ≤ x.a
  a1 : x.a < 18446744073709551616
  b0 : 0 ≤ x.b
  b1 : x.b < 18446744073709551616
  c0 : 0 ≤ x.c
  c1 : x.c < 18446744073709551616
structure Rn where
  n : Int
  w : Wd
instance : DecidableEq Rn := fun x y => decidable_of_iff (x.n = y.n ∧ x.w = y.w) (by cases x; cases y; simp)
structure Rn.Ok (x : Rn) : Prop where
  n0 : -9223372036854775808 ≤ x.n
  n1 : x.n ≤ 9223372036854775807
  w : x.w.Ok
def wordsI (c : Ce) : Wd := ⟨wordI c.p, c.r + 2097152 * c.wd, c.m0 + 2097152 * (c.m1 + 2097152 * c.m2)⟩
def cellI (w : Wd) : Ce := ⟨w.b % 2097152, w.c % 2097152, w.c / 2097152 % 2097152, w.c / 2097152 / 2097152 % 2097152, w.b / 2097152, penW w.a⟩
/-- There is a cell with these words. -/
def goodB (w : Wd) : Bool := cellB (cellI w) && decide (wordsI (cellI w) = w)

structure Ce.In (c : Ce) : Prop where
  r0 : 0 ≤ c.r
  r1 : c.r ≤ 1114111
  a0 : 0 ≤ c.m0
  a1 : c.m0 ≤ 1114111
  b0 : 0 ≤ c.m1
  b1 : c.m1 ≤ 1114111
  c0 : 0 ≤ c.m2
  c1 : c.m2 ≤ 1114111
  w0 : 0 ≤ c.wd
  w1 : c.wd ≤ 2
/-! ### Runs -/
def one (c : Ce) : Rn := ⟨1, wordsI c⟩
/-- One run more, behind one of these words: how many cells, or none if it is not right. -/
def stepR (n : Int) (prev : Option Wd) (r : Rn) : Option Int := if r.n < 1 ∨ 100000 - n < r.n ∨ prev = some r.w ∨ goodB r.w = false then none else some (n + r.n)
end Go.Proofs.YtlpjhaghphmbeaaDoor
