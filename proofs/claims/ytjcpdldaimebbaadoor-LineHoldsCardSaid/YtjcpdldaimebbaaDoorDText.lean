/-
  Text and Texts of package cell.
-/
import Derived.Test.YtjcpdldaimebbaaDoorDWith
import Derived.Deep.DeepCutAuto
namespace Go.Proofs.YtjcpdldaimebbaaDoor
open Go.RowKit

theorem own32_conv {w : World} {base : Nat} {v : Value} {L : List Int} (h : Own32 w base v L) : (convert 74 9 v).run Tryd.prog w = .ok (.string (runesBytes L)) w := by
  obtain ⟨b, A, c, rfl, -, hr⟩ := own_rd h
  exact conv_runes hr c
set_option maxHeartbeats 3200000 in
theorem CTexts_any (l : List Ce) (n b cap : Nat) (A : Option Addr) (w : World) (hr : RdC w b A n l) (hlim : n ≤ 1000000) :
    Calls Tryd.prog 44 #[.slice A n cap] w fun e w' => e = .returned (.string (runesBytes (textsC l))) ∧ New w w' := by
  have HR := Lib.hid hr
  have HL := Lib.hid hr.1
  clear hr
  go_enter Tryd.func44, Tryd.ntmps44
  go_wp2_with fail
  go_loopw [3, 8] (fun v i wr => ∃ k : Nat, k ≤ n ∧ i = .int .i64 k ∧ Own32 wr w.heap.size v (textsC (l.take k)) ∧ New w wr) (fun _ i _ => n - (intOf i).toNat)
  case atStart => exact ⟨0, by omega, rfl, World.ownsRow_nil _ _ _ _, Fr.refl _ _⟩
  case round =>
    obtain ⟨k, hk, rfl, ho, hn⟩ := hrel
    have HN := Lib.hid hn
    have HO := Lib.hid ho
    by_cases hkn : k < n
    · obtain ⟨o, hA⟩ := HR.out.base (by omega)
      subst hA
      have hkl : k < l.length := by rw [HL.out]; exact hkn
      obtain ⟨x, hx⟩ : ∃ x, l[k] = x := ⟨_, rfl⟩
      have HX := Lib.hid hx
      obtain ⟨d0, d1, d2, d3, d4, d5, d6, d7, d8, d9, d10, d11, d12, d13, d14, d15⟩ := hx ▸ (HR.out.new HN.out).at_ hkn
      have C1 : Hid (∀ w1 u, Own32 w1 w.heap.size u (textsC (l.take k)) → w.heap.size ≤ w1.heap.size → Calls Tryd.prog 57 #[u, x.v] w1 (WrSaid w.heap.size (textsC (l.take k) ++ textC x) w1)) := Lib.hid (fun w1 u h hb => withRunes_any x _ u _ w1 h hb (by
        have h1 := textsC_len (l.take k)
        rw [List.length_take] at h1
        omega))
      clear hx ho hn
      go_upto_region 5 with fail
      clear d0 d1 d2 d3 d4 d5 d6 d7 d8 d9 d10 d11 d12 d13 d14 d15
      have HN := Lib.hid (HN.out.trans (New.alloc (.cells x.cs 60)))
      have HO := Lib.hid (own32_fr HO.out (New.alloc (.cells x.cs 60)))
      have HB := Lib.hid (Blk.new wr 60 x.cs)
      generalize wr.alloc (.cells x.cs 60) = W at *
      generalize wr.heap.size = g at *
      obtain ⟨d0, d1, d2, d3, d4, d5, d6, d7, d8, d9, d10, d11, d12, d13, d14, d15⟩ := HB.out.sixteen
      go_wp2_with fail
      refine (C1.out _ _ HO.out HN.out.size).mono ?_
      rintro e w1 ⟨⟨v, rfl, ho⟩, hf⟩
      have HN1 := Lib.hid (new_base HN.out hf (Nat.le_refl _))
      have HO1 : Hid (Own32 w1 w.heap.size v (textsC (l.take (k + 1)))) := Lib.hid (by rw [textsC_step hkl HX.out]; exact ho)
      clear ho hf d0 d1 d2 d3 d4 d5 d6 d7 d8 d9 d10 d11 d12 d13 d14 d15
      go_wp2_with fail
      go_roundw
      case rel => exact ⟨k + 1, by omega, by go_num, HO1.out, HN1.out⟩
      case measure => simp [intOf]; omega
    · obtain rfl : k = n := by omega
      have hcv : (convert 74 9 u3).run Tryd.prog wr = .ok (.string (runesBytes (textsC l))) wr := by
        have h := own32_conv ho
        rwa [List.take_of_length_le (by rw [HL.out]; omega)] at h
      clear ho hn
      go_wp2_with fail
      go_ret
      exact ⟨rfl, HN.out⟩

end Go.Proofs.YtjcpdldaimebbaaDoor
