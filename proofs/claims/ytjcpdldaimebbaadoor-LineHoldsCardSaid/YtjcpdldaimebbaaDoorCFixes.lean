/-
  The specification's Fix.
-/
import Derived.Test.YtjcpdldaimebbaaDoorCMark
import Derived.Test.YtjcpdldaimebbaaDoorHRn
import Derived.Deep.CutBlock
import Derived.Deep.DeepCutAuto
import Derived.Deep.CutRange
namespace Go.Proofs.YtjcpdldaimebbaaDoor
open Go.RowKit

set_option maxRecDepth 20000 in
set_option maxHeartbeats 16000000 in
theorem RFix_any (l : List Ce) (n b cap : Nat) (A : Option Addr) (w : World) (hr : RdC w b A n l) (hlim : n ≤ 1000000) :
    Calls Tryd.prog 51 #[.slice A n cap] w fun e w' => ∃ v, e = .returned v ∧ w'.ownsRow w.heap.size 60 16 v n (flatC (fixL l)) ∧ New w w' := by
  have HR := Lib.hid hr
  have HL := Lib.hid hr.1
  obtain ⟨F, hF⟩ : ∃ F, fixL l = F := ⟨_, rfl⟩
  have hFl : F.length = n := by rw [← hF, ← hr.1]; exact fix_len none l
  have HF := Lib.hid hF
  have HFL := Lib.hid hFl
  rw [hF]
  clear hr hF hFl
  go_enter Tryd.func51, Tryd.ntmps51
  go_wp2_with fail
  go_loopw [3, 4, 5, 6, 7] (fun v i _ _ _ wr => ∃ k : Nat, k ≤ n ∧ i = .int .i64 k ∧ wr.ownsRow w.heap.size 60 16 v k (flatC (F.take k)) ∧ New w wr) (fun _ i _ _ _ _ => n - (intOf i).toNat)
  case atStart => exact ⟨0, by omega, rfl, World.ownsRow_nil _ _ _ _, Fr.refl _ _⟩
  case round =>
    obtain ⟨k, hk, rfl, ho, hn⟩ := hrel
    have HO := Lib.hid ho
    have HN := Lib.hid hn
    clear ho hn
    by_cases hkn : k < n
    · obtain ⟨o, hA⟩ := HR.out.base (by omega)
      subst hA
      have hkl : k < l.length := by rw [HL.out]; exact hkn
      obtain ⟨x, hx⟩ : ∃ x, l[k] = x := ⟨_, rfl⟩
      have hkF : k < F.length := by rw [HFL.out]; exact hkn
      have hrd := own_rdc HO.out (by rw [List.length_take]; omega)
      obtain ⟨b', A', c', hv, -, hrd⟩ := hrd
      subst hv
      have HRD := Lib.hid hrd
      obtain ⟨wb, hwb⟩ : ∃ wb : Bool, (if h : k = 0 then false else decide ((F[k - 1]).wd = 2)) = wb := ⟨_, rfl⟩
      obtain ⟨nb, hnb⟩ : ∃ nb : Bool, headS (l.drop (k + 1)) = nb := ⟨_, rfl⟩
      have HWB := Lib.hid hwb
      have HNB := Lib.hid hnb
      obtain ⟨d0, d1, d2, d3, d4, d5, d6, d7, d8, d9, d10, d11, d12, d13, d14, d15⟩ := hx ▸ (HR.out.new HN.out).at_ hkn
      have HX := Lib.hid hx
      clear hrd hwb hnb hx
      go_upto_region 6 with fail
      have HN1 : Hid (New w (wr.alloc (.cells x.cs 60))) := Lib.hid (HN.out.trans (New.alloc _))
      have HB1 := Lib.hid (Blk.new wr 60 x.cs)
      have HO1 := Lib.hid (World.ownsRow.alloc HO.out (.cells x.cs 60))
      have HRD1 := Lib.hid (HRD.out.new (New.alloc (.cells x.cs 60)))
      have hgw : w.heap.size ≤ wr.heap.size := HN.out.size
      clear d0 d1 d2 d3 d4 d5 d6 d7 d8 d9 d10 d11 d12 d13 d14 d15
      generalize wr.alloc (.cells x.cs 60) = W1 at *
      have HNG : Hid (∀ j, (Value.slice A' k c').ownBlock = some j → ¬ j = wr.heap.size) := Lib.hid (fun j hj => Nat.ne_of_lt (World.ownsRow.lt HO.out j hj).2)
      generalize wr.heap.size = g at *
      have HFk : Hid (F[k] = fixC (if k = 0 then none else if h : 0 < k then wideP (F[k - 1]'(by omega)) else none) x nb) := Lib.hid (by
        have h := fixG_at l none k hkl
        have e := HF.out
        unfold fixL at e
        subst e
        rw [HX.out, HNB.out] at h
        rw [h]
        congr 1
        by_cases h0 : k = 0
        · simp [h0]
        · rw [dif_neg h0, if_neg h0, dif_pos (by omega)])
      go_cut [6] (fun v wx => v = .bool wb ∧ wx = W1)
      case first =>
        by_cases h0 : k = 0
        · have hw := HWB.out
          rw [dif_pos h0] at hw
          subst hw
          have h0' : (k : Int) = 0 := by omega
          go_wp2_with fail
          go_meet
          exact ⟨rfl, rfl⟩
        · have hk0 : 0 < k := by omega
          obtain ⟨o', hA'⟩ := HRD1.out.base hk0
          subst hA'
          obtain ⟨y, hy⟩ : ∃ y, F[k - 1] = y := ⟨_, rfl⟩
          have hy2 : (F.take k)[k - 1]'(by rw [List.length_take]; omega) = y := by rw [List.getElem_take, hy]
          obtain ⟨q0, q1, q2, q3, q4, q5, q6, q7, q8, q9, q10, q11, q12, q13, q14, q15⟩ := hy2 ▸ HRD1.out.at_ (show k - 1 < k by omega)
          have hw := HWB.out
          rw [dif_neg h0, hy] at hw
          have jb : (y.wd == 2) = wb := by rw [← hw]; rfl
          clear hy hy2 hw h0
          cases wb
          all_goals
            go_wp2_with fail
            go_meet
            exact ⟨rfl, rfl⟩
      case rest =>
        obtain ⟨rfl, hw1⟩ := hcut
        subst hw1
        go_upto_region 7 with fail
        go_cut [7] (fun v wx => v = .bool nb ∧ wx = wc)
        case first =>
          have hnb := HNB.out
          rw [headS_drop] at hnb
          by_cases hlast : k + 1 < n
          · rw [dif_pos (by rw [HL.out]; exact hlast)] at hnb
            obtain ⟨s, hs⟩ : ∃ s, l[k + 1]'(by rw [HL.out]; exact hlast) = s := ⟨_, rfl⟩
            obtain ⟨q0, q1, q2, q3, q4, q5, q6, q7, q8, q9, q10, q11, q12, q13, q14, q15⟩ := hs ▸ (HR.out.new HN1.out).at_ hlast
            rw [hs] at hnb
            have jb : (s.wd == 0) = nb := by rw [← hnb]; rfl
            clear hs hnb
            cases nb
            all_goals
              go_wp2_with fail
              go_meet
              exact ⟨rfl, rfl⟩
          · rw [dif_neg (by rw [HL.out]; exact hlast)] at hnb
            subst hnb
            go_wp2_with fail
            go_meet
            exact ⟨rfl, rfl⟩
        case rest =>
          obtain ⟨rfl, hw1⟩ := hcut
          subst hw1
          go_upto_block 2 with fail
          go_cut [43] (fun _ wx => Blk wx g 60 (F[k]).cs ∧ New w wx ∧ wx.ownsRow w.heap.size 60 16 (.slice A' k c') k (flatC (F.take k)))
          case first =>
            by_cases w0 : x.wd = 0
            · have j0 : (x.wd == 0) = true := by simpa using w0
              cases wb with
              | true =>
                have hk0 : 0 < k := by
                  have h := HWB.out
                  by_cases h0 : k = 0
                  · rw [dif_pos h0] at h
                    cases h
                  · omega
                obtain ⟨o', hA'⟩ := HRD1.out.base hk0
                subst hA'
                obtain ⟨y, hy⟩ : ∃ y, F[k - 1] = y := ⟨_, rfl⟩
                have hy2 : (F.take k)[k - 1]'(by rw [List.length_take]; omega) = y := by rw [List.getElem_take, hy]
                have hyw : y.wd = 2 := by
                  have h := HWB.out
                  rw [dif_neg (by omega), hy] at h
                  simpa using h
                have HFk : Hid (F[k] = spaceC y.p) := Lib.hid (by
                  have h := HFk.out
                  rw [if_neg (by omega), dif_pos hk0, hy] at h
                  rw [h]
                  simp [fixC, wideP, hyw, w0])
                obtain ⟨q0, q1, q2, q3, q4, q5, q6, q7, q8, q9, q10, q11, q12, q13, q14, q15⟩ := hy2 ▸ HRD1.out.at_ (show k - 1 < k by omega)
                obtain ⟨d0, d1, d2, d3, d4, d5, d6, d7, d8, d9, d10, d11, d12, d13, d14, d15⟩ := HB1.out.sixteen
                clear hy hy2 hyw w0
                go_wp2_with (refine stC rfl _ _ rfl g x (spaceC y.p) rfl rfl HB1.out ?_)
                intro w9 hb hf _
                have HB2 := Lib.hid hb
                have HN2 := Lib.hid (new_far HN1.out hf hgw)
                have HO2 := Lib.hid (own_fr HO1.out hf HNG.out)
                clear hb hf
                go_wp2_with fail
                go_meet
                exact ⟨by rw [HFk.out]; exact HB2.out, HN2.out, HO2.out⟩
              | false =>
                have HFk : Hid (F[k] = blankC x.p) := Lib.hid (by
                  have h := HFk.out
                  rw [h]
                  by_cases h0 : k = 0
                  · simp [fixC, h0, w0]
                  · have h2 := HWB.out
                    rw [dif_neg h0] at h2
                    have h3 : ¬ (F[k - 1]).wd = 2 := by simpa using h2
                    rw [if_neg h0, dif_pos (by omega)]
                    simp [fixC, wideP, h3, w0])
                obtain ⟨d0, d1, d2, d3, d4, d5, d6, d7, d8, d9, d10, d11, d12, d13, d14, d15⟩ := HB1.out.sixteen
                clear w0
                go_wp2_with (refine stC rfl _ _ rfl g x (blankC x.p) rfl rfl HB1.out ?_)
                intro w9 hb hf _
                have HB2 := Lib.hid hb
                have HN2 := Lib.hid (new_far HN1.out hf hgw)
                have HO2 := Lib.hid (own_fr HO1.out hf HNG.out)
                clear hb hf
                go_wp2_with fail
                go_meet
                exact ⟨by rw [HFk.out]; exact HB2.out, HN2.out, HO2.out⟩
            · have j0 : (x.wd == 0) = false := by simpa using w0
              by_cases w2 : x.wd = 2 ∧ nb = false
              · obtain ⟨w2, hnb⟩ := w2
                subst hnb
                have j2 : (x.wd == 2) = true := by simpa using w2
                have HFk : Hid (F[k] = blankC x.p) := Lib.hid (by
                  have h := HFk.out
                  rw [h]
                  unfold fixC
                  split <;> simp [w2])
                clear w0 w2
                obtain ⟨d0, d1, d2, d3, d4, d5, d6, d7, d8, d9, d10, d11, d12, d13, d14, d15⟩ := HB1.out.sixteen
                go_wp2_with (refine stC rfl _ _ rfl g x (blankC x.p) rfl rfl HB1.out ?_)
                intro w9 hb hf _
                have HB2 := Lib.hid hb
                have HN2 := Lib.hid (new_far HN1.out hf hgw)
                have HO2 := Lib.hid (own_fr HO1.out hf HNG.out)
                clear hb hf
                go_wp2_with fail
                go_meet
                exact ⟨by rw [HFk.out]; exact HB2.out, HN2.out, HO2.out⟩
              · have HFx : Hid (F[k] = x) := Lib.hid (by
                  have h := HFk.out
                  rw [h]
                  have h2 : (x.wd = 2 && !nb) = false := by simpa using w2
                  unfold fixC
                  split <;> simp [w0, h2])
                have j2 : ((x.wd == 2) = true ∧ nb = true) ∨ (x.wd == 2) = false := by
                  by_cases h : x.wd = 2
                  · exact .inl ⟨by simpa using h, by
                      cases nb
                      · exact absurd ⟨h, rfl⟩ w2
                      · rfl⟩
                  · exact .inr (by simpa using h)
                clear w0 w2
                obtain ⟨d0, d1, d2, d3, d4, d5, d6, d7, d8, d9, d10, d11, d12, d13, d14, d15⟩ := HB1.out.sixteen
                rcases j2 with ⟨j2, rfl⟩ | j2
                all_goals
                  go_wp2_with fail
                  go_meet
                  exact ⟨by rw [HFx.out]; exact HB1.out, HN1.out, HO1.out⟩
          case rest =>
            obtain ⟨hb, hn, ho⟩ := hcut
            obtain ⟨z, hz⟩ : ∃ z, F[k] = z := ⟨_, rfl⟩
            rw [hz] at hb
            have HZ := Lib.hid hz
            have HN2 := Lib.hid hn
            have HO2 := Lib.hid ho
            obtain ⟨d0, d1, d2, d3, d4, d5, d6, d7, d8, d9, d10, d11, d12, d13, d14, d15⟩ := hb.sixteen
            clear hb hn ho hz
            rename World => W2
            go_wp2_with (at_builtin; refine appC rfl _ _ rfl w.heap.size _ k (F.take k) rfl (World.ownsRow.alloc HO2.out _) W2.heap.size 0 1 1 [z] rfl (rdc_one W2 _) (by omega) ?c1 ?c2)
            case c1 => have := HN2.out.size; simp; omega
            case c2 =>
            intro v2 w2 hown2 hg2
            have HN3 := Lib.hid (grown_fr (World.ownsRow.alloc HO2.out _) hg2 (HN2.out.trans (New.alloc _)) (Nat.le_refl _))
            have HO3 := Lib.hid hown2
            clear hown2 hg2
            go_wp2_with fail
            go_roundw
            case rel => exact ⟨k + 1, by omega, by go_num, by rw [take_snoc F k hkF, HZ.out]; exact HO3.out, HN3.out⟩
            case measure => simp [intOf]; omega
    · go_wp2_with fail
      go_ret
      obtain rfl : k = n := by omega
      refine ⟨_, rfl, ?_, HN.out⟩
      have h := HO.out
      rwa [List.take_of_length_le (by rw [HFL.out]; omega)] at h

end Go.Proofs.YtjcpdldaimebbaaDoor
