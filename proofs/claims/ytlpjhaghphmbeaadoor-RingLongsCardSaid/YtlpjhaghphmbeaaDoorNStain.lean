/-
  The specification's Stain: no block turns but that of the row.
-/
import Derived.Test.YtlpjhaghphmbeaaDoorA9
namespace Go.Proofs.YtlpjhaghphmbeaaDoor
open Go.RowKit

set_option maxHeartbeats 3200000 in
theorem StainP_any (n : Nat) (v : Value) (xs : List Value) (base : Nat) (w : World) (ho : w.ownsRow base 95 16 v n xs) (ht : Ty xs n) (hlim : n ≤ 1000000) :
    Calls Tryd.prog 37 #[v] w fun e w' => e = .returned (.tuple #[]) ∧ Fr (fun k => v.ownBlock = some k) w w' := by
  obtain ⟨A, cap, rfl, -, -⟩ := own_slice16 ho
  have HO := Lib.hid ho
  have HTy := Lib.hid ht
  clear ho ht
  go_enter Tryd.func37, Tryd.ntmps37
  go_wp2_with fail
  go_loopw [2] (fun i wr => ∃ (k : Nat) (ys : List Value), k ≤ n ∧ i = .int .i64 k ∧ wr.ownsRow base 95 16 (.slice A n cap) n ys ∧ Ty ys n ∧ Fr (fun k => (Value.slice A n cap).ownBlock = some k) w wr) (fun i _ => n - (intOf i).toNat)
  case atStart => exact ⟨0, xs, by omega, rfl, HO.out, HTy.out, Fr.refl _ _⟩
  case round =>
    obtain ⟨k, ys, hk, rfl, ho, ht, hn⟩ := hrel
    have HO := Lib.hid ho
    have HTy := Lib.hid ht
    have HN := Lib.hid hn
    have HL := Lib.hid ho.1
    clear ho ht hn
    by_cases hkn : k < n
    · obtain ⟨g, hA, -⟩ := own_addr HO.out (by omega)
      subst hA
      obtain ⟨r, d, h1, h2⟩ := HTy.out k hkn
      have c1 := (HO.out.cellAt (k * 16) (by omega)).trans h1
      have c2 := (HO.out.cellAt (k * 16 + 4) (by omega)).trans h2
      have fz : ∀ j, wr.frozen? ⟨g, j, none⟩ = false := fun j => HO.out.frozenAt j
      obtain ⟨z, hz⟩ : ∃ z, IntKind.i32.wrap (r + 1) = z := ⟨_, rfl⟩
      clear h1 h2
      go_upto_region 4 with fail
      have h3 := HO.out.stored (k * 16) (.int .i32 z)
      have HO := Lib.hid h3.1
      have HN := Lib.hid (Fr.grown HN.out h3.2 (fun j hj => by
        injection hj with hj
        subst hj
        exact .inl rfl))
      have HTy := Lib.hid (HTy.out.set0 HL.out hkn z)
      have HL : Hid ((ys.set (k * 16) (.int .i32 z)).length = n * 16) := Lib.hid (by rw [List.length_set]; exact HL.out)
      clear h3 c1 c2 fz hz
      generalize wr.setCell ⟨g, k * 16, none⟩ (.int .i32 z) = w2 at *
      generalize ys.set (k * 16) (.int .i32 z) = zs at *
      obtain ⟨r2, d2, h1, h2⟩ := HTy.out k hkn
      have c2 := (HO.out.cellAt (k * 16 + 4) (by omega)).trans h2
      have fz : ∀ j, w2.frozen? ⟨g, j, none⟩ = false := fun j => HO.out.frozenAt j
      obtain ⟨y, hy⟩ : ∃ y, IntKind.i64.wrap (d2 + 1) = y := ⟨_, rfl⟩
      clear h1 h2
      go_upto_region 2 with fail
      have h3 := HO.out.stored (k * 16 + 4) (.int .i64 y)
      have HO := Lib.hid h3.1
      have HN := Lib.hid (Fr.grown HN.out h3.2 (fun j hj => by
        injection hj with hj
        subst hj
        exact .inl rfl))
      have HTy := Lib.hid (HTy.out.set4 HL.out hkn y)
      clear h3 c2 fz hy
      generalize w2.setCell ⟨g, k * 16 + 4, none⟩ (.int .i64 y) = w3 at *
      go_wp2_with fail
      go_roundw
      case rel => exact ⟨k + 1, _, by omega, by go_num, HO.out, HTy.out, HN.out⟩
      case measure => simp [intOf]; omega
    · go_wp2_with fail
      first | go_end0 | go_ret
      exact ⟨rfl, HN.out⟩

theorem stainP {w : World} {base n c : Nat} {A : Option Addr} {l : List Ce} (h : OwnC w base (.slice A n c) n l) (hn : n ≤ 1000000) :
    Calls Tryd.prog 37 #[.slice A n c] w fun e w' => e = .returned (.tuple #[]) ∧ Fr (fun k => (Value.slice A n c).ownBlock = some k) w w' :=
  StainP_any n _ (flatC l) base w h (ty_flat l n (own_len (R := rC) h)) hn
end Go.Proofs.YtlpjhaghphmbeaaDoor
