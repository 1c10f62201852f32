/-
  The specification's Stain: cells of a row of the call's own are changed.
-/
import Derived.Test.YtjcpdldaimebbaaDoorCFixes
import Derived.Test.YtjcpdldaimebbaaDoorDWith
import Derived.Laws.OwnMore
import Derived.Deep.DeepCutAuto
namespace Go.Proofs.YtjcpdldaimebbaaDoor
open Go.RowKit

/-- The Rune and the Width of each cell are numbers of their kinds. -/
def Ty (xs : List Value) (n : Nat) : Prop := ∀ k, k < n → ∃ r d : Int, xs[k * 16]? = some (.int .i32 r) ∧ xs[k * 16 + 4]? = some (.int .i64 d)
theorem Ty.set0 {xs : List Value} {n : Nat} (h : Ty xs n) (hl : xs.length = n * 16) {k : Nat} (hk : k < n) (a : Int) : Ty (xs.set (k * 16) (.int .i32 a)) n := by
  intro j hj
  obtain ⟨r, d, h1, h2⟩ := h j hj
  by_cases e : k = j
  · subst e
    refine ⟨a, d, ?_, ?_⟩
    · rw [List.getElem?_set, if_pos rfl, if_pos (by omega)]
    · rw [List.getElem?_set, if_neg (by omega), h2]
  · refine ⟨r, d, ?_, ?_⟩
    · rw [List.getElem?_set, if_neg (by omega), h1]
    · rw [List.getElem?_set, if_neg (by omega), h2]
theorem Ty.set4 {xs : List Value} {n : Nat} (h : Ty xs n) (hl : xs.length = n * 16) {k : Nat} (hk : k < n) (a : Int) : Ty (xs.set (k * 16 + 4) (.int .i64 a)) n := by
  intro j hj
  obtain ⟨r, d, h1, h2⟩ := h j hj
  by_cases e : k = j
  · subst e
    refine ⟨r, a, ?_, ?_⟩
    · rw [List.getElem?_set, if_neg (by omega), h1]
    · rw [List.getElem?_set, if_pos rfl, if_pos (by omega)]
  · refine ⟨r, d, ?_, ?_⟩
    · rw [List.getElem?_set, if_neg (by omega), h1]
    · rw [List.getElem?_set, if_neg (by omega), h2]
theorem ty_flat (l : List Ce) (n : Nat) (h : l.length = n) : Ty (flatC l) n := by
  intro k hk
  have h0 := flatC_at l k 0 (by omega) (by omega)
  have h4 := flatC_at l k 4 (by omega) (by omega)
  exact ⟨_, _, h0, h4⟩
theorem own_addr {w : World} {base : Nat} {e : TypeId} {A : Option Addr} {n c : Nat} {xs : List Value} (h : w.ownsRow base e 16 (.slice A n c) n xs) (hn : 0 < n) : ∃ g, A = some ⟨g, 0, none⟩ ∧ base ≤ g := by
  rcases h.2 with ⟨_, h0⟩ | ⟨g, cap, cur, hv, hb, _⟩
  · omega
  · injection hv with hA
    exact ⟨g, hA, hb⟩

set_option maxHeartbeats 3200000 in
theorem Stain_any (n : Nat) (v : Value) (xs : List Value) (base : Nat) (w : World) (ho : w.ownsRow base 60 16 v n xs) (ht : Ty xs n) (hlim : n ≤ 1000000) :
    Calls Tryd.prog 17 #[v] w fun e w' => e = .returned (.tuple #[]) ∧ Fr (fun k => base ≤ k) w w' := by
  obtain ⟨A, cap, rfl, -, -⟩ := own_slice16 ho
  have HO := Lib.hid ho
  have HTy := Lib.hid ht
  clear ho ht
  go_enter Tryd.func17, Tryd.ntmps17
  go_wp2_with fail
  go_loopw [2] (fun i wr => ∃ (k : Nat) (ys : List Value), k ≤ n ∧ i = .int .i64 k ∧ wr.ownsRow base 60 16 (.slice A n cap) n ys ∧ Ty ys n ∧ Fr (fun k => base ≤ k) w wr) (fun i _ => n - (intOf i).toNat)
  case atStart => exact ⟨0, xs, by omega, rfl, HO.out, HTy.out, Fr.refl _ _⟩
  case round =>
    obtain ⟨k, ys, hk, rfl, ho, ht, hn⟩ := hrel
    have HO := Lib.hid ho
    have HTy := Lib.hid ht
    have HN := Lib.hid hn
    have HL := Lib.hid ho.1
    clear ho ht hn
    by_cases hkn : k < n
    · obtain ⟨g, hA, hg⟩ := own_addr HO.out (by omega)
      subst hA
      obtain ⟨r, d, h1, h2⟩ := HTy.out k hkn
      have c1 := (HO.out.cellAt (k * 16) (by omega)).trans h1
      have c2 := (HO.out.cellAt (k * 16 + 4) (by omega)).trans h2
      have fz : ∀ j, wr.frozen? ⟨g, j, none⟩ = false := fun j => HO.out.frozenAt j
      obtain ⟨z, hz⟩ : ∃ z, IntKind.i32.wrap (r + 1) = z := ⟨_, rfl⟩
      clear h1 h2
      go_upto_region 4 with fail
      have h3 := HO.out.stored (k * 16) (.int .i32 z)
      have HO := Lib.hid h3.1
      have HN := Lib.hid (Fr.grown HN.out h3.2 (fun j hj => by
        injection hj with hj
        subst hj
        exact .inl hg))
      have HTy := Lib.hid (HTy.out.set0 HL.out hkn z)
      have HL : Hid ((ys.set (k * 16) (.int .i32 z)).length = n * 16) := Lib.hid (by rw [List.length_set]; exact HL.out)
      clear h3 c1 c2 fz hz
      generalize wr.setCell ⟨g, k * 16, none⟩ (.int .i32 z) = w2 at *
      generalize ys.set (k * 16) (.int .i32 z) = zs at *
      obtain ⟨r2, d2, h1, h2⟩ := HTy.out k hkn
      have c2 := (HO.out.cellAt (k * 16 + 4) (by omega)).trans h2
      have fz : ∀ j, w2.frozen? ⟨g, j, none⟩ = false := fun j => HO.out.frozenAt j
      obtain ⟨y, hy⟩ : ∃ y, IntKind.i64.wrap (d2 + 1) = y := ⟨_, rfl⟩
      clear h1 h2
      go_upto_region 2 with fail
      have h3 := HO.out.stored (k * 16 + 4) (.int .i64 y)
      have HO := Lib.hid h3.1
      have HN := Lib.hid (Fr.grown HN.out h3.2 (fun j hj => by
        injection hj with hj
        subst hj
        exact .inl hg))
      have HTy := Lib.hid (HTy.out.set4 HL.out hkn y)
      clear h3 c2 fz hy
      generalize w2.setCell ⟨g, k * 16 + 4, none⟩ (.int .i64 y) = w3 at *
      go_wp2_with fail
      go_roundw
      case rel => exact ⟨k + 1, _, by omega, by go_num, HO.out, HTy.out, HN.out⟩
      case measure => simp [intOf]; omega
    · go_wp2_with fail
      first | go_end0 | go_ret
      exact ⟨rfl, HN.out⟩

end Go.Proofs.YtjcpdldaimebbaaDoor
