/-
  Package cell's Fix.
-/
import Derived.Test.YtjcpdldaimebbaaDoorDSmall
import Derived.Test.YtjcpdldaimebbaaDoorCFixes
import Derived.Test.YtjcpdldaimebbaaDoorGReg
import Derived.Laws.MakeOwn
import Derived.Laws.OwnMore
import Derived.Deep.DeepCutAuto
import Derived.Deep.CutRange
import Derived.Deep.CutBlock
namespace Go.Proofs.YtjcpdldaimebbaaDoor
open Go.RowKit

/-- What is there after k rounds: the first k cells fixed, the others zero. -/
def mixC (F : List Ce) (k : Nat) : List Ce := F.take k ++ List.replicate (F.length - k) zeroCe
theorem RdC.at0 {w : World} {b n : Nat} {l : List Ce} (h : RdC w b (some ⟨b, 0, none⟩) n l) {i : Nat} (hi : i < n) : At16 w b (i * 16) (l[i]'(by rw [h.1]; exact hi)) := by
  have := h.at_ hi
  rwa [Nat.zero_add] at this
theorem mix_len (F : List Ce) (k : Nat) (h : k ≤ F.length) : (mixC F k).length = F.length := by simp [mixC]; omega
theorem mix_zero (F : List Ce) : mixC F 0 = List.replicate F.length zeroCe := by simp [mixC]
theorem mix_all (F : List Ce) : mixC F F.length = F := by simp [mixC]
theorem mix_at (F : List Ce) (k j : Nat) (h : k ≤ F.length) (hj : j < k) : (mixC F k)[j]'(by rw [mix_len F k h]; omega) = F[j] := by
  unfold mixC
  rw [List.getElem_append_left (by rw [List.length_take]; omega), List.getElem_take]
theorem mix_set (F : List Ce) (k : Nat) (h : k < F.length) : (mixC F k).set k F[k] = mixC F (k + 1) := by
  unfold mixC
  have e : F.length - k = (F.length - (k + 1)) + 1 := by omega
  have hl : (F.take k).length = k := by rw [List.length_take]; omega
  rw [List.set_append_right _ _ (by omega), hl, Nat.sub_self, e, List.replicate_succ, List.set_cons_zero, take_snoc F k h, List.append_assoc]
  rfl
theorem made_cells (n : Nat) : (madeCells (Value.agg zeroCe.cs).cells (n * 16)).toList = flatC (List.replicate n zeroCe) := by
  apply List.ext_getElem?
  intro j
  by_cases hj : j < n * 16
  · have h := flatC_at (List.replicate n zeroCe) (j / 16) (j % 16) (by rw [List.length_replicate]; omega) (by omega)
    rw [show j / 16 * 16 + j % 16 = j by omega, List.getElem_replicate] at h
    rw [h]
    have hm : j % 16 < 16 := by omega
    simp only [madeCells, Array.toList_map, List.getElem?_map, Array.toList_range, List.getElem?_range, hj, Option.map_some]
    show some (zeroCe.cs[j % 16]!) = zeroCe.ls[j % 16]?
    generalize j % 16 = m at hm
    have h16 : m = 0 ∨ m = 1 ∨ m = 2 ∨ m = 3 ∨ m = 4 ∨ m = 5 ∨ m = 6 ∨ m = 7 ∨ m = 8 ∨ m = 9 ∨ m = 10 ∨ m = 11 ∨ m = 12 ∨ m = 13 ∨ m = 14 ∨ m = 15 := by omega
    rcases h16 with h | h | h | h | h | h | h | h | h | h | h | h | h | h | h | h <;> subst h <;> rfl
  · rw [List.getElem?_eq_none (by simp [size_madeCells]; omega), List.getElem?_eq_none (by rw [flatC_len, List.length_replicate]; omega)]
theorem mkC {w : World} {ops : Array Oper} {rest : List Oper} {o : Oper} {a : Act} {Q : Exit → Act → World → Prop} (hgd : o.guard = none) (l c : Operand) (hop : o.op = .makeSlice 22 l c)
    (base n : Nat) (hl : a.eval l = .int .i64 (n : Int)) (hc : a.eval c = .int .i64 (n : Int)) (hn : n ≤ 1000000) (hb : base ≤ w.heap.size)
    (h : ∀ w', w'.ownsRow base 60 16 (.slice (some ⟨w.heap.size, 0, none⟩) n n) n (flatC (List.replicate n zeroCe)) → New w w' → wpList Tryd.prog ops Q rest (a.put o.dst (.slice (some ⟨w.heap.size, 0, none⟩) n n)) w') : wpList Tryd.prog ops Q (o :: rest) a w := by
  obtain ⟨i0, hi, hz0, hz1, hz2⟩ := info_parts infoC
  refine wpList_make_full w hgd l c 22 hop base 60 i0 _ 16 Tryd.underlying22 hi hz0 hz1 .i64 .i64 _ _ n hl hc rfl rfl (by rw [hz2]; omega) (by unfold maxLen; omega) hb (fun w' h1 h2 => h w' ?_ ?_)
  · rw [← made_cells]
    exact h1
  · exact Fr.grown (S := fun _ => False) (Fr.refl _ _) h2 (fun k hk => by cases hk)

set_option maxRecDepth 20000 in
set_option maxHeartbeats 16000000 in
theorem CFix_any (l : List Ce) (n b cap : Nat) (A : Option Addr) (w : World) (hr : RdC w b A n l) (hlim : n ≤ 1000000) :
    Calls Tryd.prog 48 #[.slice A n cap] w fun e w' => ∃ v, e = .returned v ∧ w'.ownsRow w.heap.size 60 16 v n (flatC (fixL l)) ∧ New w w' := by
  have HR := Lib.hid hr
  have HL := Lib.hid hr.1
  obtain ⟨F, hF⟩ : ∃ F, fixL l = F := ⟨_, rfl⟩
  have hFl : F.length = n := by rw [← hF, ← hr.1]; exact fix_len none l
  have HF := Lib.hid hF
  have HFL := Lib.hid hFl
  rw [hF]
  clear hr hF hFl
  go_enter Tryd.func48, Tryd.ntmps48
  go_wp2_with (refine mkC rfl _ _ rfl w.heap.size n rfl rfl hlim (Nat.le_refl _) ?_)
  intro w1 ho1 hn1
  have HO1 : Hid (w1.ownsRow w.heap.size 60 16 (.slice (some ⟨w.heap.size, 0, none⟩) n n) n (flatC (mixC F 0))) := Lib.hid (by
    rw [mix_zero, HFL.out]
    exact ho1)
  have HN1 := Lib.hid hn1
  clear ho1 hn1
  go_wp2_with fail
  go_loopw [13] (fun i wr => ∃ k : Nat, k ≤ n ∧ i = .int .i64 k ∧ wr.ownsRow w.heap.size 60 16 (.slice (some ⟨w.heap.size, 0, none⟩) n n) n (flatC (mixC F k)) ∧ New w wr) (fun i _ => n - (intOf i).toNat)
  case atStart => exact ⟨0, by omega, rfl, HO1.out, HN1.out⟩
  case round =>
    obtain ⟨k, hk, rfl, ho, hn⟩ := hrel
    have HO := Lib.hid ho
    have HN := Lib.hid hn
    clear ho hn
    by_cases hkn : k < n
    · obtain ⟨o, hA⟩ := HR.out.base (by omega)
      subst hA
      have hkl : k < l.length := by rw [HL.out]; exact hkn
      obtain ⟨x, hx⟩ : ∃ x, l[k] = x := ⟨_, rfl⟩
      have hkF : k < F.length := by rw [HFL.out]; exact hkn
      obtain ⟨wb, hwb⟩ : ∃ wb : Bool, (if h : k = 0 then false else decide ((F[k - 1]).wd = 2)) = wb := ⟨_, rfl⟩
      obtain ⟨nb, hnb⟩ : ∃ nb : Bool, headS (l.drop (k + 1)) = nb := ⟨_, rfl⟩
      have HWB := Lib.hid hwb
      have HNB := Lib.hid hnb
      obtain ⟨d0, d1, d2, d3, d4, d5, d6, d7, d8, d9, d10, d11, d12, d13, d14, d15⟩ := hx ▸ (HR.out.new HN.out).at_ hkn
      have HX := Lib.hid hx
      clear hwb hnb hx
      go_upto_region 5 with fail
      have HG : Hid (w.heap.size < wr.heap.size) := Lib.hid ((World.ownsRow.lt HO.out _ rfl).2)
      have HN : Hid (New w (wr.alloc (.cells x.cs 60))) := Lib.hid (HN.out.trans (New.alloc _))
      have HB := Lib.hid (Blk.new wr 60 x.cs)
      have HO := Lib.hid (World.ownsRow.alloc HO.out (.cells x.cs 60))
      clear d0 d1 d2 d3 d4 d5 d6 d7 d8 d9 d10 d11 d12 d13 d14 d15
      generalize wr.alloc (.cells x.cs 60) = W1 at *
      generalize wr.heap.size = g at *
      have HFk : Hid (F[k] = fixC (if k = 0 then none else if h : 0 < k then wideP (F[k - 1]'(by omega)) else none) x nb) := Lib.hid (by
        have h := fixG_at l none k hkl
        have e := HF.out
        unfold fixL at e
        subst e
        rw [HX.out, HNB.out] at h
        rw [h]
        congr 1
        by_cases h0 : k = 0
        · simp [h0]
        · rw [dif_neg h0, if_neg h0, dif_pos (by omega)])
      have HRD : ∀ wx : World, wx.ownsRow w.heap.size 60 16 (.slice (some ⟨w.heap.size, 0, none⟩) n n) n (flatC (mixC F k)) → RdC wx w.heap.size (some ⟨w.heap.size, 0, none⟩) n (mixC F k) := fun wx h => RdC.of_own h (by rw [mix_len F k (by omega), HFL.out]) (fun j hj => by
        simp only [Value.ownBlock, Option.some.injEq] at hj
        exact hj.symm)
      have HRD := Lib.hid HRD
      go_cut [6] (fun v wx => v = .bool wb ∧ New w wx ∧ Blk wx g 60 x.cs ∧ wx.ownsRow w.heap.size 60 16 (.slice (some ⟨w.heap.size, 0, none⟩) n n) n (flatC (mixC F k)))
      case first =>
        as_aux_lemma =>
        by_cases h0 : k = 0
        · have hw := HWB.out
          rw [dif_pos h0] at hw
          subst hw
          have h0' : (k : Int) = 0 := by omega
          go_wp2_with fail
          go_meet
          exact ⟨rfl, HN.out, HB.out, HO.out⟩
        · have hk0 : 0 < k := by omega
          obtain ⟨y, hy⟩ : ∃ y, F[k - 1] = y := ⟨_, rfl⟩
          have hy2 := mix_at F k (k - 1) (by omega) (by omega)
          rw [hy] at hy2
          obtain ⟨q0, q1, q2, q3, q4, q5, q6, q7, q8, q9, q10, q11, q12, q13, q14, q15⟩ := hy2 ▸ (HRD.out _ HO.out).at0 (show k - 1 < n by omega)
          have hw := HWB.out
          rw [dif_neg h0, hy] at hw
          have jb : (y.wd == 2) = wb := by rw [← hw]; rfl
          have CW := fun w => isWideK y wb jb w
          clear hy hy2 hw h0 jb
          go_wp2_with fail
          refine (CW _).mono ?_
          rintro e w2 ⟨rfl, hn⟩
          have HN := Lib.hid (HN.out.trans hn)
          have HB := Lib.hid (HB.out.fr hn (fun h => h))
          have HO := Lib.hid (own_fr HO.out hn (fun _ _ h => h))
          clear hn q0 q1 q2 q3 q4 q5 q6 q7 q8 q9 q10 q11 q12 q13 q14 q15
          go_wp2_with fail
          go_meet
          exact ⟨rfl, HN.out, HB.out, HO.out⟩
      case rest =>
        obtain ⟨rfl, hn, hb, ho⟩ := hcut
        have HN := Lib.hid hn
        have HB := Lib.hid hb
        have HO := Lib.hid ho
        clear hn hb ho
        go_upto_region 6 with fail
        go_cut [7] (fun v wx => v = .bool nb ∧ New w wx ∧ Blk wx g 60 x.cs ∧ wx.ownsRow w.heap.size 60 16 (.slice (some ⟨w.heap.size, 0, none⟩) n n) n (flatC (mixC F k)))
        case first =>
          as_aux_lemma =>
          have hnb := HNB.out
          rw [headS_drop] at hnb
          by_cases hlast : k + 1 < n
          · rw [dif_pos (by rw [HL.out]; exact hlast)] at hnb
            obtain ⟨s, hs⟩ : ∃ s, l[k + 1]'(by rw [HL.out]; exact hlast) = s := ⟨_, rfl⟩
            obtain ⟨q0, q1, q2, q3, q4, q5, q6, q7, q8, q9, q10, q11, q12, q13, q14, q15⟩ := hs ▸ (HR.out.new HN.out).at_ hlast
            rw [hs] at hnb
            have jb : (s.wd == 0) = nb := by rw [← hnb]; rfl
            have CW := fun w => isSpacerK s nb jb w
            clear hs hnb jb
            go_wp2_with fail
            refine (CW _).mono ?_
            rintro e w2 ⟨rfl, hn⟩
            have HN := Lib.hid (HN.out.trans hn)
            have HB := Lib.hid (HB.out.fr hn (fun h => h))
            have HO := Lib.hid (own_fr HO.out hn (fun _ _ h => h))
            clear hn q0 q1 q2 q3 q4 q5 q6 q7 q8 q9 q10 q11 q12 q13 q14 q15
            go_wp2_with fail
            go_meet
            exact ⟨rfl, HN.out, HB.out, HO.out⟩
          · rw [dif_neg (by rw [HL.out]; exact hlast)] at hnb
            subst hnb
            go_wp2_with fail
            go_meet
            exact ⟨rfl, HN.out, HB.out, HO.out⟩
        case rest =>
          obtain ⟨rfl, hn, hb, ho⟩ := hcut
          have HN := Lib.hid hn
          have HB := Lib.hid hb
          have HO := Lib.hid ho
          clear hn hb ho
          by_cases w0 : x.wd = 0
          · have j0 : (x.wd == 0) = true := by simpa using w0
            have CS := fun w => isSpacerK x true j0 w
            cases wb with
            | true =>
              as_aux_lemma =>
              have hk0 : 0 < k := by
                have h := HWB.out
                by_cases h0 : k = 0
                · rw [dif_pos h0] at h
                  cases h
                · omega
              obtain ⟨y, hy⟩ : ∃ y, F[k - 1] = y := ⟨_, rfl⟩
              have hy2 := mix_at F k (k - 1) (by omega) (by omega)
              rw [hy] at hy2
              have hyw : y.wd = 2 := by
                have h := HWB.out
                rw [dif_neg (by omega), hy] at h
                simpa using h
              have HFx : Hid (F[k] = spaceC y.p) := Lib.hid (by
                have h := HFk.out
                rw [if_neg (by omega), dif_pos hk0, hy] at h
                rw [h]
                simp [fixC, wideP, hyw, w0])
              have HY := Lib.hid hy2
              have CP := fun w => SpacerK y.p w
              clear hy hy2 hyw w0 j0
              obtain ⟨d0, d1, d2, d3, d4, d5, d6, d7, d8, d9, d10, d11, d12, d13, d14, d15⟩ := HB.out.sixteen
              go_wp2_with fail
              refine (CS _).mono ?_
              rintro e w2 ⟨rfl, hn⟩
              have HN := Lib.hid (HN.out.trans hn)
              have HB := Lib.hid (HB.out.fr hn (fun h => h))
              have HO := Lib.hid (own_fr HO.out hn (fun _ _ h => h))
              clear hn d0 d1 d2 d3 d4 d5 d6 d7 d8 d9 d10 d11 d12 d13 d14 d15
              obtain ⟨q0, q1, q2, q3, q4, q5, q6, q7, q8, q9, q10, q11, q12, q13, q14, q15⟩ := HY.out ▸ (HRD.out _ HO.out).at0 (show k - 1 < n by omega)
              go_wp2_with fail
              refine (CP _).mono ?_
              rintro e w3 ⟨rfl, hn⟩
              have HN := Lib.hid (HN.out.trans hn)
              have HB := Lib.hid (HB.out.fr hn (fun h => h))
              have HO := Lib.hid (own_fr HO.out hn (fun _ _ h => h))
              clear hn q0 q1 q2 q3 q4 q5 q6 q7 q8 q9 q10 q11 q12 q13 q14 q15
              go_wp2_with (refine stO rfl _ _ rfl w.heap.size w.heap.size n n k (mixC F k) (spaceC y.p) rfl rfl HO.out hkn ?_)
              intro w9 ho hf _
              have HO2 : Hid (w9.ownsRow w.heap.size 60 16 (.slice (some ⟨w.heap.size, 0, none⟩) n n) n (flatC (mixC F (k + 1)))) := Lib.hid (by
                rw [← HFx.out, mix_set F k hkF] at ho
                exact ho)
              have HN2 := Lib.hid (new_far HN.out hf (Nat.le_refl _))
              clear ho hf
              go_wp2_with fail
              go_roundw
              case rel => exact ⟨k + 1, by omega, by go_num, HO2.out, HN2.out⟩
              case measure => simp [intOf]; omega
            | false =>
              as_aux_lemma =>
              have HFx : Hid (F[k] = blankC x.p) := Lib.hid (by
                have h := HFk.out
                rw [h]
                by_cases h0 : k = 0
                · simp [fixC, h0, w0]
                · have h2 := HWB.out
                  rw [dif_neg h0] at h2
                  have h3 : ¬ (F[k - 1]).wd = 2 := by simpa using h2
                  rw [if_neg h0, dif_pos (by omega)]
                  simp [fixC, wideP, h3, w0])
              have CP := fun w => BlankK x.p w
              clear w0 j0
              obtain ⟨d0, d1, d2, d3, d4, d5, d6, d7, d8, d9, d10, d11, d12, d13, d14, d15⟩ := HB.out.sixteen
              go_wp2_with fail
              refine (CS _).mono ?_
              rintro e w2 ⟨rfl, hn⟩
              have HN := Lib.hid (HN.out.trans hn)
              have HB := Lib.hid (HB.out.fr hn (fun h => h))
              have HO := Lib.hid (own_fr HO.out hn (fun _ _ h => h))
              clear hn d0 d1 d2 d3 d4 d5 d6 d7 d8 d9 d10 d11 d12 d13 d14 d15
              obtain ⟨d0, d1, d2, d3, d4, d5, d6, d7, d8, d9, d10, d11, d12, d13, d14, d15⟩ := HB.out.sixteen
              go_wp2_with fail
              refine (CS _).mono ?_
              rintro e w3 ⟨rfl, hn⟩
              have HN := Lib.hid (HN.out.trans hn)
              have HB := Lib.hid (HB.out.fr hn (fun h => h))
              have HO := Lib.hid (own_fr HO.out hn (fun _ _ h => h))
              clear hn d0 d1 d2 d3 d4 d5 d6 d7 d8 d9 d10 d11 d12 d13 d14 d15
              obtain ⟨d0, d1, d2, d3, d4, d5, d6, d7, d8, d9, d10, d11, d12, d13, d14, d15⟩ := HB.out.sixteen
              go_wp2_with fail
              refine (CP _).mono ?_
              rintro e w4 ⟨rfl, hn⟩
              have HN := Lib.hid (HN.out.trans hn)
              have HB := Lib.hid (HB.out.fr hn (fun h => h))
              have HO := Lib.hid (own_fr HO.out hn (fun _ _ h => h))
              clear hn d0 d1 d2 d3 d4 d5 d6 d7 d8 d9 d10 d11 d12 d13 d14 d15
              go_wp2_with (refine stO rfl _ _ rfl w.heap.size w.heap.size n n k (mixC F k) (blankC x.p) rfl rfl HO.out hkn ?_)
              intro w9 ho hf _
              have HO2 : Hid (w9.ownsRow w.heap.size 60 16 (.slice (some ⟨w.heap.size, 0, none⟩) n n) n (flatC (mixC F (k + 1)))) := Lib.hid (by
                rw [← HFx.out, mix_set F k hkF] at ho
                exact ho)
              have HN2 := Lib.hid (new_far HN.out hf (Nat.le_refl _))
              clear ho hf
              go_wp2_with fail
              go_roundw
              case rel => exact ⟨k + 1, by omega, by go_num, HO2.out, HN2.out⟩
              case measure => simp [intOf]; omega
          · have j0 : (x.wd == 0) = false := by simpa using w0
            have CS := fun w => isSpacerK x false j0 w
            by_cases w2 : x.wd = 2 ∧ nb = false
            · as_aux_lemma =>
              obtain ⟨w2, hnb⟩ := w2
              have HFx : Hid (F[k] = blankC x.p) := Lib.hid (by
                have h := HFk.out
                rw [h]
                unfold fixC
                split <;> simp [w2, hnb])
              subst hnb
              have j2 : (x.wd == 2) = true := by simpa using w2
              have CW := fun w => isWideK x true j2 w
              have CP := fun w => BlankK x.p w
              clear w0 w2 j0 j2
              obtain ⟨d0, d1, d2, d3, d4, d5, d6, d7, d8, d9, d10, d11, d12, d13, d14, d15⟩ := HB.out.sixteen
              go_wp2_with fail
              refine (CS _).mono ?_
              rintro e w2 ⟨rfl, hn⟩
              have HN := Lib.hid (HN.out.trans hn)
              have HB := Lib.hid (HB.out.fr hn (fun h => h))
              have HO := Lib.hid (own_fr HO.out hn (fun _ _ h => h))
              clear hn d0 d1 d2 d3 d4 d5 d6 d7 d8 d9 d10 d11 d12 d13 d14 d15
              obtain ⟨d0, d1, d2, d3, d4, d5, d6, d7, d8, d9, d10, d11, d12, d13, d14, d15⟩ := HB.out.sixteen
              go_wp2_with fail
              refine (CS _).mono ?_
              rintro e w3 ⟨rfl, hn⟩
              have HN := Lib.hid (HN.out.trans hn)
              have HB := Lib.hid (HB.out.fr hn (fun h => h))
              have HO := Lib.hid (own_fr HO.out hn (fun _ _ h => h))
              clear hn d0 d1 d2 d3 d4 d5 d6 d7 d8 d9 d10 d11 d12 d13 d14 d15
              obtain ⟨d0, d1, d2, d3, d4, d5, d6, d7, d8, d9, d10, d11, d12, d13, d14, d15⟩ := HB.out.sixteen
              go_wp2_with fail
              refine (CW _).mono ?_
              rintro e w4 ⟨rfl, hn⟩
              have HN := Lib.hid (HN.out.trans hn)
              have HB := Lib.hid (HB.out.fr hn (fun h => h))
              have HO := Lib.hid (own_fr HO.out hn (fun _ _ h => h))
              clear hn d0 d1 d2 d3 d4 d5 d6 d7 d8 d9 d10 d11 d12 d13 d14 d15
              obtain ⟨d0, d1, d2, d3, d4, d5, d6, d7, d8, d9, d10, d11, d12, d13, d14, d15⟩ := HB.out.sixteen
              go_wp2_with fail
              refine (CP _).mono ?_
              rintro e w5 ⟨rfl, hn⟩
              have HN := Lib.hid (HN.out.trans hn)
              have HB := Lib.hid (HB.out.fr hn (fun h => h))
              have HO := Lib.hid (own_fr HO.out hn (fun _ _ h => h))
              clear hn d0 d1 d2 d3 d4 d5 d6 d7 d8 d9 d10 d11 d12 d13 d14 d15
              go_wp2_with (refine stO rfl _ _ rfl w.heap.size w.heap.size n n k (mixC F k) (blankC x.p) rfl rfl HO.out hkn ?_)
              intro w9 ho hf _
              have HO2 : Hid (w9.ownsRow w.heap.size 60 16 (.slice (some ⟨w.heap.size, 0, none⟩) n n) n (flatC (mixC F (k + 1)))) := Lib.hid (by
                rw [← HFx.out, mix_set F k hkF] at ho
                exact ho)
              have HN2 := Lib.hid (new_far HN.out hf (Nat.le_refl _))
              clear ho hf
              go_wp2_with fail
              go_roundw
              case rel => exact ⟨k + 1, by omega, by go_num, HO2.out, HN2.out⟩
              case measure => simp [intOf]; omega
            · as_aux_lemma =>
              have HFx : Hid (F[k] = x) := Lib.hid (by
                have h := HFk.out
                rw [h]
                have h2 : (x.wd = 2 && !nb) = false := by simpa using w2
                unfold fixC
                split <;> simp [w0, h2])
              obtain ⟨yb, hyb⟩ : ∃ yb, (x.wd == 2) = yb := ⟨_, rfl⟩
              have hjn : (yb && !nb) = false := by
                cases yb with
                | false => rfl
                | true =>
                  cases nb with
                  | true => rfl
                  | false => exact absurd ⟨by simpa using hyb, rfl⟩ w2
              have CW := fun w => isWideK x yb hyb w
              clear w0 w2 j0 hyb
              obtain ⟨d0, d1, d2, d3, d4, d5, d6, d7, d8, d9, d10, d11, d12, d13, d14, d15⟩ := HB.out.sixteen
              go_wp2_with fail
              refine (CS _).mono ?_
              rintro e w2 ⟨rfl, hn⟩
              have HN := Lib.hid (HN.out.trans hn)
              have HB := Lib.hid (HB.out.fr hn (fun h => h))
              have HO := Lib.hid (own_fr HO.out hn (fun _ _ h => h))
              clear hn d0 d1 d2 d3 d4 d5 d6 d7 d8 d9 d10 d11 d12 d13 d14 d15
              obtain ⟨d0, d1, d2, d3, d4, d5, d6, d7, d8, d9, d10, d11, d12, d13, d14, d15⟩ := HB.out.sixteen
              go_wp2_with fail
              refine (CS _).mono ?_
              rintro e w3 ⟨rfl, hn⟩
              have HN := Lib.hid (HN.out.trans hn)
              have HB := Lib.hid (HB.out.fr hn (fun h => h))
              have HO := Lib.hid (own_fr HO.out hn (fun _ _ h => h))
              clear hn d0 d1 d2 d3 d4 d5 d6 d7 d8 d9 d10 d11 d12 d13 d14 d15
              obtain ⟨d0, d1, d2, d3, d4, d5, d6, d7, d8, d9, d10, d11, d12, d13, d14, d15⟩ := HB.out.sixteen
              go_wp2_with fail
              refine (CW _).mono ?_
              rintro e w4 ⟨rfl, hn⟩
              have HN := Lib.hid (HN.out.trans hn)
              have HB := Lib.hid (HB.out.fr hn (fun h => h))
              have HO := Lib.hid (own_fr HO.out hn (fun _ _ h => h))
              clear hn d0 d1 d2 d3 d4 d5 d6 d7 d8 d9 d10 d11 d12 d13 d14 d15
              obtain ⟨d0, d1, d2, d3, d4, d5, d6, d7, d8, d9, d10, d11, d12, d13, d14, d15⟩ := HB.out.sixteen
              cases yb
              · clear hjn
                go_wp2_with (refine stO rfl _ _ rfl w.heap.size w.heap.size n n k (mixC F k) x rfl rfl HO.out hkn ?_)
                intro w9 ho hf _
                have HO2 : Hid (w9.ownsRow w.heap.size 60 16 (.slice (some ⟨w.heap.size, 0, none⟩) n n) n (flatC (mixC F (k + 1)))) := Lib.hid (by
                  rw [← HFx.out, mix_set F k hkF] at ho
                  exact ho)
                have HN2 := Lib.hid (new_far HN.out hf (Nat.le_refl _))
                clear ho hf
                go_wp2_with fail
                go_roundw
                case rel => exact ⟨k + 1, by omega, by go_num, HO2.out, HN2.out⟩
                case measure => simp [intOf]; omega
              · obtain rfl : nb = true := by simpa using hjn
                clear hjn
                go_wp2_with (refine stO rfl _ _ rfl w.heap.size w.heap.size n n k (mixC F k) x rfl rfl HO.out hkn ?_)
                intro w9 ho hf _
                have HO2 : Hid (w9.ownsRow w.heap.size 60 16 (.slice (some ⟨w.heap.size, 0, none⟩) n n) n (flatC (mixC F (k + 1)))) := Lib.hid (by
                  rw [← HFx.out, mix_set F k hkF] at ho
                  exact ho)
                have HN2 := Lib.hid (new_far HN.out hf (Nat.le_refl _))
                clear ho hf
                go_wp2_with fail
                go_roundw
                case rel => exact ⟨k + 1, by omega, by go_num, HO2.out, HN2.out⟩
                case measure => simp [intOf]; omega
    · obtain rfl : k = n := by omega
      have HE : Hid (mixC F k = F) := Lib.hid (by
        have := mix_all F
        rwa [HFL.out] at this)
      go_wp2_with fail
      go_ret
      exact ⟨_, rfl, by rw [← HE.out]; exact HO.out, HN.out⟩

end Go.Proofs.YtjcpdldaimebbaaDoor
