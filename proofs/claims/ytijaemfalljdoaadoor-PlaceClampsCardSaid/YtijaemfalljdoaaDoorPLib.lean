/-
  The library's functions, as the walks call them: comparing, numbers as texts, texts as numbers, strings cut.
-/
import Derived.Test.YtijaemfalljdoaaDoorPOps
import Derived.Test.YtijaemfalljdoaaDoorShelf
namespace Go.Proofs.YtijaemfalljdoaaDoor
open Go.RowKit

theorem cmpI_c (x y : Int) (w : World) : Calls Tryd.prog 30 #[.int .i64 x, .int .i64 y] w fun e w' => e = .returned (.int .i64 (Lib.compareInt x y)) ∧ New w w' :=
  (Tryd.cmp_Compare_int x y w).mono fun _ _ ⟨h1, h2⟩ => ⟨h1, h2 ▸ Fr.refl _ _⟩
theorem new_grow (w : World) (k : Nat) (os : Array Obj) : New w (Sort.grow (w.drewN k) os) :=
  ⟨rfl, rfl, rfl, by simp [Sort.grow, World.drewN], fun i hi _ => by
    show (w.heap ++ os)[i]? = _
    rw [Array.getElem?_append_left hi]⟩
theorem Itoa_c (n : Int) (h0 : 0 ≤ n) (h1 : n ≤ 1099511627776) (w : World) (hT : Tab w) : Calls Tryd.prog 38 #[.int .i64 n] w fun e w' => e = .returned (.string (bs (Lib.decDigits n.toNat))) ∧ New w w' :=
  (Tryd.strconv_Itoa n (by omega) (by omega) w hT.pow).mono fun _ _ ⟨h1, k, os, h2⟩ => ⟨by
    rw [h1]
    unfold Lib.itoa
    rw [if_neg (by omega)], h2 ▸ new_grow w k os⟩
theorem Cut_c (l : List UInt8) (hl : l.length < 4294967281) (w : World) (hT : Tab w) : Calls Tryd.prog 40 #[.string (bs l), .string (bs [58])] w fun e w' => e = .returned (.tuple #[.string (bs (Lib.cut l [58]).1), .string (bs (Lib.cut l [58]).2.1), .bool (Lib.cut l [58]).2.2]) ∧ New w w' := by
  obtain ⟨m, hm⟩ := hT.max
  refine (Tryd.strings_Cut (bs l) (bs [58]) m w (by rw [bs_size]; exact hl) hm).mono ?_
  rintro e w' ⟨rfl, n, rfl⟩
  exact ⟨rfl, (Fr.refl _ _).drewN n⟩
theorem new_bytes (w : World) (t : TypeId) (s : ByteArray) : New w (Lib.bytesWorld w t s) := Fr.of_below _ (Lib.bytesWorld_below _ _ _)
theorem Atoi_yes (l : List UInt8) (hl : l.length ≤ 1000000) (v : Int) (h : Lib.atoiAll l = .ok v) (w : World) : Calls Tryd.prog 41 #[.string (bs l)] w fun e w' => e = .returned (.tuple #[.int .i64 v, .nilIface]) ∧ New w w' := by
  refine (Tryd.strconv_Atoi_ok (bs l) (by rw [bs_size]; omega) v h w).mono ?_
  rintro e w' ⟨rfl, h2⟩
  refine ⟨rfl, ?_⟩
  rcases h2 with rfl | ⟨t, rfl⟩
  · exact Fr.refl _ _
  · exact new_bytes _ _ _
theorem Atoi_no (l : List UInt8) (hl : l.length ≤ 1000000) (h : ¬ ∃ v, Lib.atoiAll l = .ok v) (w : World) (hT : Tab w) : Calls Tryd.prog 41 #[.string (bs l)] w fun e w' => ∃ x N, e = .returned (.tuple #[.int .i64 x, .iface 77 (.pointer (some ⟨N, 0, none⟩))]) ∧ New w w' := by
  have hs := bs_size l
  have hz : (bs l).size ≤ 281474976710656 := by rw [hs]; omega
  cases h1 : Lib.atoiAll l
  · rename_i v
    exact absurd ⟨v, h1⟩ h
  · obtain ⟨tp, p, hv⟩ := hT.syn
    refine (show Calls Tryd.prog 41 #[.string (bs l)] w _ from Any.strconv_Atoi_syntax_var Tryd.laysC172 (bs l) hz h1 tp p w hv).mono ?_
    rintro e w' ⟨N, rfl, -, -, hb⟩
    exact ⟨_, _, rfl, Fr.of_below _ hb⟩
  · obtain ⟨tp, p, hv⟩ := hT.ran
    refine (show Calls Tryd.prog 41 #[.string (bs l)] w _ from Any.strconv_Atoi_range_var Tryd.laysC172 (bs l) hz h1 tp p w hv).mono ?_
    rintro e w' ⟨N, rfl, -, -, hb⟩
    exact ⟨_, _, rfl, Fr.of_below _ hb⟩
section
variable {ρ : Operand → Value} {o : Oper} {x : Operand}
theorem rn_neErr0 (h : o.op = .binOp .neq 68 x (.const .nilIface) 68) (hx : ρ x = .nilIface) (hc : ∀ v, ρ (.const v) = v) (w : World) : (execOp ρ o).run Tryd.prog w = .ok (.value (.bool false)) w := by
  obtain ⟨dst, op, ty, pos, after, guard⟩ := o
  simp only at h
  subst h
  go_simp
theorem rn_neErr1 {t : TypeId} {v : Value} (h : o.op = .binOp .neq 68 x (.const .nilIface) 68) (hx : ρ x = .iface t v) (hc : ∀ v, ρ (.const v) = v) (w : World) : (execOp ρ o).run Tryd.prog w = .ok (.value (.bool true)) w := by
  obtain ⟨dst, op, ty, pos, after, guard⟩ := o
  simp only at h
  subst h
  go_simp
end
end Go.Proofs.YtijaemfalljdoaaDoor
