/-
  The specification's Row.
-/
import Derived.Test.YtlpjhaghphmbeaaDoorCValid
import Derived.Test.YtlpjhaghphmbeaaDoorA2
namespace Go.Proofs.YtlpjhaghphmbeaaDoor
open Go.RowKit

theorem row_bad {c : Ce} {t : List Ce} (h : cellB c = false) : rowB (c :: t) = false := by simp [rowB, h]
theorem row_zero {c : Ce} {t : List Ce} (h : c.wd = 0) : rowB (c :: t) = false := by simp [rowB, shB, h]
theorem row_one {c : Ce} {t : List Ce} (hc : cellB c = true) (h : c.wd = 1) : rowB (c :: t) = rowB t := by simp [rowB, shB, wideP, h, hc]
theorem row_last {c : Ce} (h : c.wd = 2) : rowB [c] = false := by simp [rowB, shB, wideP, h]
theorem row_half {c s : Ce} {t : List Ce} (h : c.wd = 2) (hs : s ≠ spaceC c.p) : rowB (c :: s :: t) = false := by simp [rowB, shB, wideP, h, hs]
theorem row_two {c s : Ce} {t : List Ce} (hc : cellB c = true) (h : c.wd = 2) (hs : s = spaceC c.p) : rowB (c :: s :: t) = rowB t := by
  have := cell_space c.p (cell_pen hc)
  simp [rowB, shB, wideP, h, hc, hs, this]
theorem drop_one {l : List Ce} {k : Nat} {c : Ce} (h : k < l.length) (e : l[k] = c) : l.drop k = c :: l.drop (k + 1) := by
  rw [List.drop_eq_getElem_cons h, e]
theorem VC_k (c : Ce) (b : Bool) (h : cellB c = b) (w : World) : Calls Tryd.prog 78 #[c.v] w fun e w' => e = .returned (.bool b) ∧ New w w' := by
  subst h
  exact RValidC_any c w

set_option maxHeartbeats 6400000 in
theorem RRow_any (l : List Ce) (n b cap : Nat) (A : Option Addr) (w : World) (hr : RdC w b A n l) (hlim : n ≤ 1000000) :
    Calls Tryd.prog 72 #[.slice A n cap] w fun e w' => e = .returned (.bool (rowB l)) ∧ New w w' := by
  have HR := Lib.hid hr
  have HL := Lib.hid hr.1
  clear hr
  go_enter Tryd.func72, Tryd.ntmps72
  go_wp2_with fail
  go_loopw [3] (fun i wr => ∃ k : Nat, k ≤ n ∧ i = .int .i64 k ∧ New w wr ∧ rowB l = rowB (l.drop k)) (fun i _ => n - (intOf i).toNat)
  case atStart => exact ⟨0, by omega, rfl, Fr.refl _ _, rfl⟩
  case round =>
    obtain ⟨k, hk, rfl, hn, ht⟩ := hrel
    have HN := Lib.hid hn
    have HT := Lib.hid ht
    clear hn ht
    by_cases hkn : k < n
    · obtain ⟨o, hA⟩ := HR.out.base (by omega)
      subst hA
      have hkl : k < l.length := by rw [HL.out]; exact hkn
      obtain ⟨x, hx⟩ : ∃ x, l[k] = x := ⟨_, rfl⟩
      have HD := Lib.hid (drop_one hkl hx)
      obtain ⟨d0, d1, d2, d3, d4, d5, d6, d7, d8, d9, d10, d11, d12, d13, d14, d15⟩ := hx ▸ (HR.out.new HN.out).at_ hkn
      have HX := Lib.hid hx
      clear hx
      cases hv : cellB x with
      | false =>
        go_wp2_with fail
        refine (VC_k x false hv _).mono ?_
        rintro e w1 ⟨rfl, hn⟩
        have HN1 := Lib.hid (HN.out.trans hn)
        clear hn
        go_wp2_with fail
        go_ret
        exact ⟨ret_bool (by rw [HT.out, HD.out, row_bad hv]), HN1.out⟩
      | true =>
        have hw := cell_wd hv
        have HV := Lib.hid hv
        go_wp2_with fail
        refine (VC_k x true hv _).mono ?_
        rintro e w1 ⟨rfl, hn⟩
        have HN1 := Lib.hid (HN.out.trans hn)
        clear hn hv d0 d1 d2 d3 d4 d5 d6 d7 d8 d9 d10 d11 d12 d13 d14 d15
        obtain ⟨d0, d1, d2, d3, d4, d5, d6, d7, d8, d9, d10, d11, d12, d13, d14, d15⟩ := HX.out ▸ (HR.out.new HN1.out).at_ hkn
        by_cases w0 : x.wd = 0
        · have j0 : (x.wd == 0) = true := by simpa using w0
          have HW := Lib.hid w0
          clear w0 hw
          go_wp2_with fail
          go_ret
          exact ⟨ret_bool (by rw [HT.out, HD.out, row_zero HW.out]), HN1.out⟩
        · have j0 : (x.wd == 0) = false := by simpa using w0
          by_cases w1' : x.wd = 1
          · have j1 : (x.wd == 1) = true := by simpa using w1'
            have HW := Lib.hid w1'
            clear w0 hw w1'
            go_wp2_with fail
            go_roundw
            case rel => exact ⟨k + 1, by omega, by go_num, HN1.out, by rw [HT.out, HD.out, row_one HV.out HW.out]⟩
            case measure => simp [intOf]; omega
          · have j1 : (x.wd == 1) = false := by simpa using w1'
            have w2 : x.wd = 2 := by omega
            have HW := Lib.hid w2
            clear w0 hw w1' w2
            have s1 : IntKind.i64.wrap ((k : Int) + 1) = (k : Int) + 1 := IntWalk.i64_in _ ⟨by omega, by omega⟩
            by_cases hlast : k + 1 < n
            · have hkl2 : k + 1 < l.length := by rw [HL.out]; exact hlast
              obtain ⟨s, hs⟩ : ∃ s, l[k + 1] = s := ⟨_, rfl⟩
              have HD2 := Lib.hid (drop_one hkl2 hs)
              obtain ⟨q0, q1, q2, q3, q4, q5, q6, q7, q8, q9, q10, q11, q12, q13, q14, q15⟩ := hs ▸ (HR.out.new HN1.out).at_ hlast
              obtain ⟨c, hc⟩ : ∃ c, decide (s = spaceC x.p) = c := ⟨_, rfl⟩
              have heq : ∀ w, (Op.equalIn 10000 95 (.agg s.cs) (.agg (Ce.cs (spaceC x.p)))).run Tryd.prog w = .ok c w := eq_cells s (spaceC x.p) c hc
              have gd := guardC
              have HC := Lib.hid hc
              have jl : decide ((n : Int) ≤ (k : Int) + 1) = false := decide_eq_false (by omega)
              have s2 : ((k : Int) + 1).toNat = k + 1 := by omega
              have HK := Lib.hid hlast
              clear hc hs
              cases c
              all_goals
                go_wp2_with fail
                go_quiet (fail)
                clear s1 s2 jl
                go_wp2_with fail
              · go_ret
                exact ⟨ret_bool (by rw [HT.out, HD.out, HD2.out, row_half HW.out (by simpa using HC.out)]), HN1.out.drewN _⟩
              · go_roundw
                case rel => exact ⟨k + 2, by omega, by go_num, HN1.out.drewN _, by rw [HT.out, HD.out, HD2.out, row_two HV.out HW.out (by simpa using HC.out)]⟩
                case measure => simp [intOf]; omega
            · have jl : decide ((n : Int) ≤ (k : Int) + 1) = true := decide_eq_true (by omega)
              have HE : Hid (l.drop (k + 1) = []) := Lib.hid (List.drop_eq_nil_of_le (by rw [HL.out]; omega))
              go_wp2_with fail
              go_quiet (fail)
              clear s1 jl
              go_wp2_with fail
              go_ret
              exact ⟨ret_bool (by rw [HT.out, HD.out, HE.out, row_last HW.out]), HN1.out.drewN _⟩
    · go_wp2_with fail
      go_ret
      exact ⟨ret_bool (by rw [HT.out, List.drop_eq_nil_of_le (by rw [HL.out]; omega)]; rfl), HN.out⟩

end Go.Proofs.YtlpjhaghphmbeaaDoor
