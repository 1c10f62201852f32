/-
  CellMarks.
-/
import Derived.Test.YtciifgajnblenaaDoorLKnown
import Derived.Test.YtciifgajnblenaaDoorLSmall
import Derived.Test.YtciifgajnblenaaDoorCMark
import Derived.Test.YtciifgajnblenaaDoorCText
import Derived.Deep.DeepCutAuto
namespace Go.Proofs.YtciifgajnblenaaDoor
open Go.RowKit

theorem rmark_k (c : Ce) (m : Int) (x : Ce) (no : Int) (h : markR c m = (x, no)) (w : World) : MarkSaid c m x no w := by
  have := RMark_any c m w
  rwa [h] at this
set_option maxRecDepth 20000 in
set_option maxHeartbeats 6400000 in
theorem cellMarks_walk (c : Ce) (l : List Int) (n b cap : Nat) (A : Option Addr) (w : World) (hr : Rd w b A n (R32 l)) (hn : n ≤ maxLen) (hT : Tab w) :
    Calls Tryd.prog 5 #[c.v, .slice A n cap] w fun e w' => e = .returned (.bool true) ∧ Below w.heap.size w w' := by
  have HT := Lib.hid hT
  have HR := Lib.hid hr
  have HL : Hid (l.length = n) := Lib.hid (by simpa [R32] using hr.1)
  clear hT hr
  unfold maxLen at hn
  have HN : Hid (New w (w.alloc (.cells c.cs 30))) := Lib.hid (New.alloc _)
  have HB := Lib.hid (Blk.new w 30 c.cs)
  by_cases h8 : 8 < n
  · have j8 : decide ((8 : Int) < (n : Int)) = true := decide_eq_true (by omega)
    go_enter Tryd.func5, Tryd.ntmps5
    go_wp2_with fail
    refine (known_any _ (HT.out.new HN.out)).mono ?_
    rintro e w1 ⟨rfl, hn1⟩
    have HN := Lib.hid (New.trans HN.out hn1)
    clear hn1
    go_wp2_with fail
    go_ret
    exact ⟨rfl, HN.out.new_below⟩
  · have j8 : decide ((8 : Int) < (n : Int)) = false := decide_eq_false (by omega)
    go_enter Tryd.func5, Tryd.ntmps5
    go_wp2_with fail
    generalize w.alloc (.cells c.cs 30) = W at *
    obtain ⟨g, hg⟩ : ∃ g, w.heap.size = g := ⟨_, rfl⟩
    have HG : Hid (w.heap.size ≤ g) := Lib.hid (Nat.le_of_eq hg)
    rw [hg] at HB ⊢
    clear hg j8
    as_aux_lemma =>
      go_loopw [15] (fun i wr => ∃ (k : Nat) (d : Ce), k ≤ n ∧ i = .int .i64 k ∧ New w wr ∧ Blk wr g 30 d.cs) (fun i _ => n - (intOf i).toNat)
      case atStart => exact ⟨0, c, by omega, rfl, HN.out, HB.out⟩
      case round =>
        obtain ⟨k, d, hk, rfl, hn', hb'⟩ := hrel
        have HN := Lib.hid hn'
        have HB := Lib.hid hb'
        clear hn' hb'
        by_cases hkn : k < n
        · obtain ⟨o, hA, hc⟩ := (HR.out.new HN.out).at_ hkn
          subst hA
          obtain ⟨m, hm⟩ : ∃ m, (R32 l)[k]'(by have := HR.out.1; omega) = .int .i32 m := ⟨l[k]'(by rw [HL.out]; exact hkn), by simp [R32]⟩
          rw [hm] at hc
          obtain ⟨x, no, hx⟩ : ∃ x no, markR d m = (x, no) := ⟨_, _, rfl⟩
          have C1 := fun w => rmark_k d m x no hx w
          have C2 := fun w hT => lmark d m x no hx w hT
          obtain ⟨d0, d1, d2, d3, d4, d5, d6, d7, d8, d9, d10, d11, d12, d13, d14, d15⟩ := HB.out.sixteen
          clear hm hx
          go_wp2_with fail
          refine (C1 _).mono ?_
          rintro e w1 ⟨rfl, hn'⟩
          have HN := Lib.hid (New.trans HN.out hn')
          have HB := Lib.hid (HB.out.fr hn' (fun h => h))
          clear hn' hc d0 d1 d2 d3 d4 d5 d6 d7 d8 d9 d10 d11 d12 d13 d14 d15 C1
          as_aux_lemma =>
            go_upto_region 7 with fail
            have HN := Lib.hid (New.trans HN.out (New.alloc (.cells x.cs 30)))
            have HB := Lib.hid (HB.out.alloc (.cells x.cs 30))
            have HX := Lib.hid (Blk.new w1 30 x.cs)
            generalize w1.alloc (.cells x.cs 30) = w2 at *
            generalize w1.heap.size = gx at *
            obtain ⟨d0, d1, d2, d3, d4, d5, d6, d7, d8, d9, d10, d11, d12, d13, d14, d15⟩ := HB.out.sixteen
            obtain ⟨q0, q1, q2, q3, q4, q5, q6, q7, q8, q9, q10, q11, q12, q13, q14, q15⟩ := HX.out.sixteen
            go_wp2_with fail
            refine (C2 _ (HT.out.new HN.out)).mono ?_
            rintro e w3 ⟨rfl, hn'⟩
            have HN := Lib.hid (New.trans HN.out hn')
            have HB := Lib.hid (HB.out.fr hn' (fun h => h))
            have HX := Lib.hid (HX.out.fr hn' (fun h => h))
            clear hn' d0 d1 d2 d3 d4 d5 d6 d7 d8 d9 d10 d11 d12 d13 d14 d15 q0 q1 q2 q3 q4 q5 q6 q7 q8 q9 q10 q11 q12 q13 q14 q15 C2
            as_aux_lemma =>
              by_cases h0 : no = 0
              · have j0 : (no == 0) = true := by simpa using h0
                clear h0
                obtain ⟨q0, q1, q2, q3, q4, q5, q6, q7, q8, q9, q10, q11, q12, q13, q14, q15⟩ := HX.out.sixteen
                go_wp2_with (refine stC rfl _ _ rfl g d x rfl rfl HB.out ?_)
                intro w4 hb hf _
                have HB := Lib.hid hb
                have HN := Lib.hid (new_far HN.out hf HG.out)
                clear hb hf
                go_wp2_with fail
                go_roundw
                case rel => exact ⟨k + 1, x, by omega, by go_num, HN.out, HB.out⟩
                case measure => simp [intOf]; omega
              · have j0 : (no == 0) = false := by simpa using h0
                clear h0
                go_wp2_with fail
                go_roundw
                case rel => exact ⟨k + 1, d, by omega, by go_num, HN.out, HB.out⟩
                case measure => simp [intOf]; omega
        · go_wp2_with fail
          refine (known_any _ (HT.out.new HN.out)).mono ?_
          rintro e w1 ⟨rfl, hn1⟩
          have HN := Lib.hid (New.trans HN.out hn1)
          clear hn1
          go_wp2_with fail
          go_ret
          exact ⟨rfl, HN.out.new_below⟩

end Go.Proofs.YtciifgajnblenaaDoor
