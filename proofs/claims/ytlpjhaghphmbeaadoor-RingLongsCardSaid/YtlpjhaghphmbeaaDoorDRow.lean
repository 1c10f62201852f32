/-
  Package cell's Row.
-/
import Derived.Test.YtlpjhaghphmbeaaDoorDValid
import Derived.Test.YtlpjhaghphmbeaaDoorCRow
import Derived.Deep.DeepCutAuto
import Derived.Deep.CutRange
namespace Go.Proofs.YtlpjhaghphmbeaaDoor
open Go.RowKit

/-- The pen of the wide cell just before place k, if there is one. -/
def pvO (l : List Ce) (k : Nat) : Option Pn := if k = 0 then none else (l[k - 1]?).bind wideP
def restB (l : List Ce) (k : Nat) : Bool := (l.drop k).all cellB && shB (pvO l k) (l.drop k)
theorem rest_zero (l : List Ce) : restB l 0 = rowB l := rfl
theorem pvO_succ {l : List Ce} {k : Nat} {x : Ce} (h : k < l.length) (e : l[k] = x) : pvO l (k + 1) = wideP x := by
  simp [pvO, List.getElem?_eq_getElem h, e]
theorem rest_bad {l : List Ce} {k : Nat} {x : Ce} (h : k < l.length) (e : l[k] = x) (hc : cellB x = false) : restB l k = false := by
  unfold restB
  rw [drop_one h e]
  simp [hc]
theorem rest_none {l : List Ce} {k : Nat} {x : Ce} (h : k < l.length) (e : l[k] = x) (hc : cellB x = true) (hq : pvO l k = none) : restB l k = (decide (x.wd ≠ 0) && restB l (k + 1)) := by
  unfold restB
  rw [pvO_succ h e, drop_one h e, hq]
  simp only [List.all_cons, hc, Bool.true_and, shB]
  cases (l.drop (k + 1)).all cellB <;> cases decide (x.wd ≠ 0) <;> simp
theorem cell_sp {x : Ce} (hc : cellB x = true) (h : x.wd = 0) : x = spaceC x.p := by
  obtain ⟨r, m0, m1, m2, wd, p⟩ := x
  simp only at h
  subst h
  simp only [cellB, okM, nM, Bool.and_eq_true, if_true, decide_eq_true_eq] at hc
  obtain ⟨⟨_, h1⟩, h2, h3⟩ := hc
  by_cases a : m0 = 0
  · simp [a] at h1
    simp [a, h1, h2]
  · rw [if_neg a] at h3
    split at h3
    · omega
    · split at h3 <;> omega
theorem rest_some {l : List Ce} {k : Nat} {x : Ce} {p : Pn} (h : k < l.length) (e : l[k] = x) (hc : cellB x = true) (hq : pvO l k = some p) : restB l k = (decide (x.wd = 0) && decide (x.p = p) && restB l (k + 1)) := by
  unfold restB
  rw [pvO_succ h e, drop_one h e, hq]
  simp only [List.all_cons, hc, Bool.true_and, shB]
  by_cases h0 : x.wd = 0
  · have hs := cell_sp hc h0
    have hw : wideP x = none := by simp [wideP, h0]
    by_cases hp : x.p = p
    · have : x = spaceC p := by rw [← hp]; exact hs
      rw [decide_eq_true this, decide_eq_true h0, decide_eq_true hp, hw]
      simp
    · have : ¬ x = spaceC p := fun h => hp (by rw [h])
      rw [decide_eq_false this, decide_eq_false hp]
      simp
  · have : ¬ x = spaceC p := fun h => h0 (by rw [h])
    rw [decide_eq_false this, decide_eq_false h0]
    simp
theorem rest_end (l : List Ce) : restB l l.length = (pvO l l.length).isNone := by
  unfold restB
  rw [List.drop_length]
  cases pvO l l.length <;> rfl
theorem eq_pens (x y : Pn) (c : Bool) (h : decide (x = y) = c) : ∀ w, (Op.equalIn 10000 93 x.v y.v).run Tryd.prog w = .ok c w := fun w => by
  rw [← h]
  exact eq_pen 9997 x y w

set_option maxRecDepth 20000 in
set_option maxHeartbeats 16000000 in
theorem CRow_any (l : List Ce) (n b cap : Nat) (A : Option Addr) (w : World) (hr : RdC w b A n l) (hlim : n ≤ 1000000) (hT : Tab w) :
    Calls Tryd.prog 66 #[.slice A n cap] w fun e w' => e = .returned (.bool (rowB l)) ∧ New w w' := by
  have HR := Lib.hid hr
  have HL := Lib.hid hr.1
  have HT := Lib.hid hT
  have HW := Lib.hid (rest_zero l)
  clear hr hT
  go_enter Tryd.func66, Tryd.ntmps66
  go_wp2_with fail
  go_loopw [8] (fun i wr => ∃ k : Nat, k ≤ n ∧ i = .int .i64 k ∧ New w wr ∧ restB l k = rowB l) (fun i _ => n - (intOf i).toNat)
  case atStart => exact ⟨0, by omega, rfl, Fr.refl _ _, HW.out⟩
  case round =>
    obtain ⟨k, hk, rfl, hn, ht⟩ := hrel
    have HN := Lib.hid hn
    have HW := Lib.hid ht
    clear hn ht
    by_cases hkn : k < n
    · obtain ⟨o, hA⟩ := HR.out.base (by omega)
      subst hA
      have hkl : k < l.length := by rw [HL.out]; exact hkn
      obtain ⟨x, hx⟩ : ∃ x, l[k] = x := ⟨_, rfl⟩
      obtain ⟨q, hq⟩ : ∃ q, pvO l k = q := ⟨_, rfl⟩
      obtain ⟨wb, hwb⟩ : ∃ wb : Bool, q.isSome = wb := ⟨_, rfl⟩
      have HQ := Lib.hid hq
      have HWB := Lib.hid hwb
      obtain ⟨d0, d1, d2, d3, d4, d5, d6, d7, d8, d9, d10, d11, d12, d13, d14, d15⟩ := hx ▸ (HR.out.new HN.out).at_ hkn
      have HX := Lib.hid hx
      clear hx hq hwb
      go_upto_region 4 with fail
      have HN1 : Hid (New w (wr.alloc (.cells x.cs 95))) := Lib.hid (HN.out.trans (New.alloc _))
      have HB1 := Lib.hid (Blk.new wr 95 x.cs)
      clear d0 d1 d2 d3 d4 d5 d6 d7 d8 d9 d10 d11 d12 d13 d14 d15
      generalize wr.alloc (.cells x.cs 95) = W1 at *
      generalize wr.heap.size = g at *
      go_cut [5] (fun v wx => v = .bool wb ∧ New w wx ∧ Blk wx g 95 x.cs)
      case first =>
        as_aux_lemma =>
          by_cases h0 : k = 0
          · have hw : wb = false := by
              rw [← HWB.out, ← HQ.out]
              simp [pvO, h0]
            subst hw
            have h0' : (k : Int) = 0 := by omega
            go_wp2_with fail
            go_meet
            exact ⟨rfl, HN1.out, HB1.out⟩
          · have hk0 : 0 < k := by omega
            have hk1 : k - 1 < l.length := by omega
            obtain ⟨y, hy⟩ : ∃ y, l[k - 1] = y := ⟨_, rfl⟩
            obtain ⟨q0, q1, q2, q3, q4, q5, q6, q7, q8, q9, q10, q11, q12, q13, q14, q15⟩ := hy ▸ (HR.out.new HN1.out).at_ (show k - 1 < n by omega)
            have jb : (y.wd == 2) = wb := by
              rw [← HWB.out, ← HQ.out]
              unfold pvO
              rw [if_neg h0, List.getElem?_eq_getElem hk1, hy]
              show (y.wd == 2) = (wideP y).isSome
              unfold wideP
              by_cases h2 : y.wd = 2 <;> simp [h2]
            have C := fun w => isWideK y wb jb w
            clear hy jb h0
            go_wp2_with fail
            refine (C _).mono ?_
            rintro e w2 ⟨rfl, hn⟩
            have HN2 := Lib.hid (HN1.out.trans hn)
            have HB2 := Lib.hid (HB1.out.fr hn (fun h => h))
            clear hn q0 q1 q2 q3 q4 q5 q6 q7 q8 q9 q10 q11 q12 q13 q14 q15
            go_wp2_with fail
            go_meet
            exact ⟨rfl, HN2.out, HB2.out⟩
      case rest =>
        obtain ⟨rfl, hn, hb⟩ := hcut
        have HN := Lib.hid hn
        have HB := Lib.hid hb
        clear hn hb
        obtain ⟨d0, d1, d2, d3, d4, d5, d6, d7, d8, d9, d10, d11, d12, d13, d14, d15⟩ := HB.out.sixteen
        cases hv : cellB x with
        | false =>
          as_aux_lemma =>
            have C1 := fun w hT => CValidK x false hv w hT
            have HV : Hid (rowB l = false) := Lib.hid (by rw [← HW.out]; exact rest_bad hkl HX.out hv)
            clear hv
            go_wp2_with fail
            refine (C1 _ (HT.out.new HN.out)).mono ?_
            rintro e w2 ⟨rfl, hn⟩
            have HN := Lib.hid (HN.out.trans hn)
            clear hn d0 d1 d2 d3 d4 d5 d6 d7 d8 d9 d10 d11 d12 d13 d14 d15
            go_wp2_with fail
            go_ret
            exact ⟨ret_bool HV.out.symm, HN.out⟩
        | true =>
          have C1 := fun w hT => CValidK x true hv w hT
          obtain ⟨sb, hsb⟩ : ∃ sb, (x.wd == 0) = sb := ⟨_, rfl⟩
          have C2 := fun w => isSpacerK x sb hsb w
          have HV := Lib.hid hv
          have HSB := Lib.hid hsb
          clear hv hsb
          go_wp2_with fail
          refine (C1 _ (HT.out.new HN.out)).mono ?_
          rintro e w2 ⟨rfl, hn⟩
          have HN := Lib.hid (HN.out.trans hn)
          have HB := Lib.hid (HB.out.fr hn (fun h => h))
          clear hn d0 d1 d2 d3 d4 d5 d6 d7 d8 d9 d10 d11 d12 d13 d14 d15 C1
          obtain ⟨d0, d1, d2, d3, d4, d5, d6, d7, d8, d9, d10, d11, d12, d13, d14, d15⟩ := HB.out.sixteen
          cases q with
          | none =>
            as_aux_lemma =>
              obtain rfl : wb = false := HWB.out.symm
              have HS := Lib.hid (rest_none hkl HX.out HV.out HQ.out)
              cases sb with
              | true =>
                have HE : Hid (rowB l = false) := Lib.hid (by
                  have h : x.wd = 0 := by simpa using HSB.out
                  rw [← HW.out, HS.out, decide_eq_false (by simp [h]), Bool.false_and])
                go_wp2_with fail
                refine (C2 _).mono ?_
                rintro e w3 ⟨rfl, hn⟩
                have HN := Lib.hid (HN.out.trans hn)
                clear hn d0 d1 d2 d3 d4 d5 d6 d7 d8 d9 d10 d11 d12 d13 d14 d15 C2
                go_wp2_with fail
                go_ret
                exact ⟨ret_bool HE.out.symm, HN.out⟩
              | false =>
                have HE : Hid (restB l (k + 1) = rowB l) := Lib.hid (by
                  have h : x.wd ≠ 0 := by simpa using HSB.out
                  rw [← HW.out, HS.out, decide_eq_true h, Bool.true_and])
                go_wp2_with fail
                refine (C2 _).mono ?_
                rintro e w3 ⟨rfl, hn⟩
                have HN := Lib.hid (HN.out.trans hn)
                clear hn d0 d1 d2 d3 d4 d5 d6 d7 d8 d9 d10 d11 d12 d13 d14 d15 C2
                go_wp2_with fail
                go_quiet (fail)
                go_wp2_with fail
                go_roundw
                case rel => exact ⟨k + 1, by omega, by go_num, HN.out.drewN _, HE.out⟩
                case measure => simp [intOf]; omega
          | some p =>
            as_aux_lemma =>
              obtain rfl : wb = true := HWB.out.symm
              have HS := Lib.hid (rest_some hkl HX.out HV.out HQ.out)
              cases sb with
              | false =>
                have HE : Hid (rowB l = false) := Lib.hid (by
                  have h : x.wd ≠ 0 := by simpa using HSB.out
                  rw [← HW.out, HS.out, decide_eq_false h, Bool.false_and, Bool.false_and])
                go_wp2_with fail
                refine (C2 _).mono ?_
                rintro e w3 ⟨rfl, hn⟩
                have HN := Lib.hid (HN.out.trans hn)
                clear hn d0 d1 d2 d3 d4 d5 d6 d7 d8 d9 d10 d11 d12 d13 d14 d15 C2
                go_wp2_with fail
                go_ret
                exact ⟨ret_bool HE.out.symm, HN.out⟩
              | true =>
                have h0 : k ≠ 0 := by
                  intro h
                  have := HQ.out
                  simp [pvO, h] at this
                have hk0 : 0 < k := by omega
                have hk1 : k - 1 < l.length := by omega
                obtain ⟨y, hy⟩ : ∃ y, l[k - 1] = y := ⟨_, rfl⟩
                have HY : Hid (y.p = p) := Lib.hid (by
                  have h := HQ.out
                  unfold pvO at h
                  rw [if_neg h0, List.getElem?_eq_getElem hk1, hy] at h
                  change wideP y = some p at h
                  unfold wideP at h
                  split at h
                  · simpa using h
                  · cases h)
                obtain ⟨eb, heb⟩ : ∃ eb, decide (x.p = y.p) = eb := ⟨_, rfl⟩
                have heq := eq_pens x.p y.p eb heb
                have gd := guard27
                have HEB := Lib.hid heb
                have HYY := Lib.hid hy
                clear heb hy h0
                go_wp2_with fail
                refine (C2 _).mono ?_
                rintro e w3 ⟨rfl, hn⟩
                have HN := Lib.hid (HN.out.trans hn)
                have HB := Lib.hid (HB.out.fr hn (fun h => h))
                clear hn d0 d1 d2 d3 d4 d5 d6 d7 d8 d9 d10 d11 d12 d13 d14 d15 C2
                obtain ⟨d0, d1, d2, d3, d4, d5, d6, d7, d8, d9, d10, d11, d12, d13, d14, d15⟩ := HB.out.sixteen
                obtain ⟨q0, q1, q2, q3, q4, q5, q6, q7, q8, q9, q10, q11, q12, q13, q14, q15⟩ := HYY.out ▸ (HR.out.new HN.out).at_ (show k - 1 < n by omega)
                have s1 : IntKind.i64.wrap ((k : Int) - 1) = (k : Int) - 1 := IntWalk.i64_in _ ⟨by omega, by omega⟩
                have s2 : ((k : Int) - 1).toNat = k - 1 := by omega
                have s3 : (0 : Int) ≤ (k : Int) - 1 := by omega
                have s4 : (k : Int) - 1 < (n : Int) := by omega
                cases eb
                all_goals
                  go_wp2_with fail
                  go_quiet (fail)
                  clear s1 s2 s3 s4
                  go_wp2_with fail
                · go_ret
                  refine ⟨ret_bool ?_, HN.out.drewN _⟩
                  have h : ¬ x.p = p := by rw [← HY.out]; simpa using HEB.out
                  rw [← HW.out, HS.out, decide_eq_false h, Bool.and_false, Bool.false_and]
                · go_roundw
                  case rel =>
                    refine ⟨k + 1, by omega, by go_num, HN.out.drewN _, ?_⟩
                    have h : x.p = p := by rw [← HY.out]; simpa using HEB.out
                    have h2 : x.wd = 0 := by simpa using HSB.out
                    rw [← HW.out, HS.out, decide_eq_true h, decide_eq_true h2, Bool.true_and, Bool.true_and]
                  case measure => simp [intOf]; omega
    · obtain rfl : k = n := by omega
      have HE : Hid (rowB l = (pvO l k).isNone) := Lib.hid (by rw [← HW.out, ← HL.out, rest_end])
      by_cases h0 : k = 0
      · have hE : Hid (rowB l = true) := Lib.hid (by rw [HE.out]; simp [pvO, h0])
        have j0 : ((k : Int) == 0) = true := by simp [h0]
        clear h0
        go_wp2_with fail
        go_ret
        exact ⟨ret_bool hE.out.symm, HN.out⟩
      · have hk0 : 0 < k := by omega
        have hk1 : k - 1 < l.length := by rw [HL.out]; omega
        have j0 : ((k : Int) == 0) = false := by simp [h0]
        obtain ⟨o, hA⟩ := HR.out.base (by omega)
        subst hA
        obtain ⟨y, hy⟩ : ∃ y, l[k - 1] = y := ⟨_, rfl⟩
        obtain ⟨q0, q1, q2, q3, q4, q5, q6, q7, q8, q9, q10, q11, q12, q13, q14, q15⟩ := hy ▸ (HR.out.new HN.out).at_ (show k - 1 < k by omega)
        obtain ⟨yb, hyb⟩ : ∃ yb, (y.wd == 2) = yb := ⟨_, rfl⟩
        have C := fun w => isWideK y yb hyb w
        have hE : Hid (rowB l = !yb) := Lib.hid (by
          rw [HE.out, ← hyb]
          unfold pvO
          rw [if_neg h0, List.getElem?_eq_getElem hk1, hy]
          show (wideP y).isNone = _
          unfold wideP
          by_cases h2 : y.wd = 2 <;> simp [h2])
        clear hy hyb h0
        go_wp2_with fail
        refine (C _).mono ?_
        rintro e w2 ⟨rfl, hn⟩
        have HN2 := Lib.hid (HN.out.trans hn)
        clear hn q0 q1 q2 q3 q4 q5 q6 q7 q8 q9 q10 q11 q12 q13 q14 q15
        go_wp2_with fail
        go_ret
        exact ⟨ret_bool hE.out.symm, HN2.out⟩

end Go.Proofs.YtlpjhaghphmbeaaDoor
