/-
  Pending, Copy, Decode, Encode, Valid; the equality of two lists of runes.
-/
import Derived.Test.YtdkkdicgjhjinaaConv
namespace Go.Proofs.Ytdkkdicgjhjinaa
open Go.RowKit

set_option maxHeartbeats 800000 in
theorem Pending_any (s : List Int) (hs : s.length ≤ 3) (g : Nat) (w : World) (h : Dec w g s) :
    Calls Try.prog 16 #[.pointer (some ⟨g, 0, none⟩)] w fun e w' =>
      ∃ v', e = .returned v' ∧ Own8 w' w.heap.size v' s ∧ New w w' := by
  have c4 := h.c4
  have H := Lib.hid h
  have hR := h.rd (by omega)
  have HR := Lib.hid hR
  have b0 : (0 : Int) ≤ (s.length : Int) := by omega
  have b1 : (s.length : Int) ≤ 4 := by omega
  clear h hR
  go_enter Try.func16, Try.ntmps16
  go_wp2_with fail
  go_region_held3 (fun w' => w'.cell? ⟨g, 4, none⟩ = some (.int .i64 s.length)) (first | go_keep | exact k4)
    ((first
      | (refine stp8 (by rfl) _ _ (by rfl) w.heap.size (.slice none 0 0) 0 [] (by rfl) (World.ownsRow_nil _ _ _ _) g (some ⟨g, 0, none⟩) s.length 4 (B8 s) (by rfl) (HR.out.drewN _) (by simp [B8, Value.oneCell']) (by omega) (by simp) ?_; intro v1 w1 hown1 hg1 _; have k4 : w1.cell? ⟨g, 4, none⟩ = some (.int .i64 s.length) := (Dec.fr H.out ((Fr.drew (Fr.refl (fun _ => False) w)).grown hg1 (by simp [Value.ownBlock])) (fun h => h)).c4; have HO := Lib.hid hown1; have HG := Lib.hid hg1; clear hown1 hg1)))
  go_wp2
  go_ret
  refine ⟨v1, rfl, ?_, (Fr.drew (Fr.refl _ w)).grown HG.out (by simp [Value.ownBlock])⟩
  have := Own8.of (t := []) (u := s) HO.out rfl
  simpa using this

set_option maxHeartbeats 400000 in
theorem Copy_any (s : List Int) (g : Nat) (w : World) (h : Dec w g s) :
    Calls Try.prog 13 #[.pointer (some ⟨g, 0, none⟩)] w fun e w' =>
      ∃ g', e = .returned (.pointer (some ⟨g', 0, none⟩)) ∧ w.heap.size ≤ g' ∧ Dec w' g' s ∧ New w w' := by
  obtain ⟨c0, c1, c2, c3, c4, _⟩ := h.facts
  clear h
  go_enter Try.func13, Try.ntmps13
  go_wp2
  go_ret
  refine ⟨_, rfl, Nat.le_refl _, ?_, Fr.alloc (Fr.refl _ _) _⟩
  have := Blk.new w 31 #[.int .u8 (s.getD 0 0), .int .u8 (s.getD 1 0), .int .u8 (s.getD 2 0), .int .u8 (s.getD 3 0), .int .i64 s.length]
  simp only [List.getD_eq_getElem?_getD] at this
  unfold Dec
  simp only [List.getD_eq_getElem?_getD]
  exact this

set_option maxHeartbeats 400000 in
theorem Decode_any (t : List Int) (ht : Bytes t) (w : World) (b : Nat) (A : Option Addr) (cap : Nat) (hr : Rd w b A t.length (B8 t)) (hlen : t.length ≤ 400000) :
    Calls Try.prog 11 #[.slice A t.length cap] w fun e w' => ∃ v', e = .returned v' ∧ Own32 w' w.heap.size v' (decI t) ∧ New w w' := by
  have HT := Lib.hid ht
  have HR := Lib.hid hr
  have hbl : 0 < t.length → b < w.heap.size := fun h => by obtain ⟨_, _, h, _⟩ := hr.2 h; exact h
  clear ht hr
  go_enter Try.func11, Try.ntmps11
  go_wp2_with (first
    | (go_at_call 22; refine (Feed_any [] t HT.out trivial w.heap.size _ (Blk.new w 31 _) b (fun h => Nat.ne_of_lt (hbl h)) A cap (HR.out.new (Fr.alloc (Fr.refl _ _) _)) hlen).mono ?_; rintro e w1 ⟨v1, rfl, ho, hd, hf⟩; have HO := Lib.hid ho; have HD := Lib.hid hd; have HF := Lib.hid hf; clear ho hd hf)
    | (go_at_call 25; refine (end_any _ w.heap.size w1 HD.out v1 _ _ HO.out HF.out.size (by have := feedI_len t []; omega)).mono ?_; rintro e w2 ⟨v2, rfl, ho, hd, hf, _⟩; have HO2 := Lib.hid ho; have HF2 := Lib.hid hf; clear ho hd hf))
  go_ret
  refine ⟨v2, rfl, HO2.out.low (by simp), ?_⟩
  have f1 : New w w1 := Fr.trans (Fr.alloc (Fr.refl _ w) _) HF.out (fun i hi hk => by omega)
  refine Fr.trans f1 HF2.out (fun i hi hk => ?_)
  rcases hk with hk | hk
  · omega
  · have := (HO.out.lt hk).1
    simp at this
    omega

set_option maxHeartbeats 400000 in
theorem Encode_any (l : List Int) (w : World) (b : Nat) (A : Option Addr) (cap : Nat) (hr : Rd w b A l.length (R32 l)) :
    Calls Try.prog 21 #[.slice A l.length cap] w fun e w' =>
      ∃ c, e = .returned (.slice (some ⟨w.heap.size, 0, none⟩) (runesBytes l).size c) ∧ Rd w' w.heap.size (some ⟨w.heap.size, 0, none⟩) (runesBytes l).size (B8 (nums (runesBytes l))) ∧ New w w' := by
  have h1 := conv_runes hr cap
  obtain ⟨c, w1, h2, h3, h4⟩ := conv_str w (runesBytes l)
  have H3 := Lib.hid h3
  have H4 := Lib.hid h4
  clear h3 h4 hr
  go_enter Try.func21, Try.ntmps21
  go_wp2
  go_ret
  exact ⟨c, rfl, H3.out, H4.out⟩

def validB (r : Int) : Bool := decide (0 ≤ r ∧ r < 55296 ∨ 57343 < r ∧ r ≤ 1114111)
set_option maxHeartbeats 400000 in
theorem Valid_any (r : Int) (w : World) :
    Calls Try.prog 18 #[.int .i32 r] w fun e w' => e = .returned (.bool (validB r)) ∧ w = w' := by
  go_enter Try.func18, Try.ntmps18
  go_wp2
  all_goals
    go_ret
    refine ⟨ret_bool ?_, rfl⟩
    unfold validB
    simp_all <;> omega

set_option maxHeartbeats 800000 in
theorem Same_any (l m : List Int) (w : World) (b1 b2 : Nat) (A1 A2 : Option Addr) (c1 c2 : Nat) (h1 : Rd w b1 A1 l.length (R32 l)) (h2 : Rd w b2 A2 m.length (R32 m)) (hl : l.length ≤ 1000000000) (hm : m.length ≤ 1000000000) :
    Calls Try.prog 10 #[.slice A1 l.length c1, .slice A2 m.length c2] w fun e w' => e = .returned (.bool (decide (l = m))) ∧ ∃ k, w' = w.drewN k := by
  have H1 := Lib.hid h1
  have H2 := Lib.hid h2
  clear h1 h2
  by_cases hne : l.length = m.length
  · have hq : ((l.length : Int) != (m.length : Int)) = false := by simp; omega
    rcases Nat.eq_zero_or_pos l.length with h0 | hpos
    · have e1 : l = [] := List.eq_nil_of_length_eq_zero h0
      have e2 : m = [] := List.eq_nil_of_length_eq_zero (by omega)
      subst e1 e2
      clear h0 hne hq
      go_enter Try.func10, Try.ntmps10
      go_wp2
      refine wp_loop_rounds 1 ?_
      rw [rounds_succ]
      go_wp2
      go_ret
      exact ⟨rfl, 0, rfl⟩
    · obtain ⟨o1, rfl, _, _⟩ := H1.out.2 hpos
      obtain ⟨o2, rfl, _, _⟩ := H2.out.2 (by omega)
      have HN := Lib.hid hne
      have hle : m.length ≤ l.length := by omega
      have hge : l.length ≤ m.length := by omega
      clear hne
      go_enter Try.func10, Try.ntmps10
      go_wp2
      go_loopw [5] (fun i wr => ∃ k : Nat, k ≤ l.length ∧ i = .int .i64 k ∧ Hid (l.take k = m.take k) ∧ Hid (∃ d, wr = w.drewN d)) (fun i _ => l.length - (intOf i).toNat)
      case atStart => exact ⟨0, Nat.zero_le _, rfl, Lib.hid (by simp), Lib.hid ⟨0, rfl⟩⟩
      case round =>
        obtain ⟨k, hk, rfl, HE, HW⟩ := hrel
        by_cases hlt : k < l.length
        · have i1 : (k : Int) < (l.length : Int) := by omega
          have i2 : (k : Int) < (m.length : Int) := by omega
          have i0 : (0 : Int) ≤ (k : Int) := by omega
          have hc1 : wr.cell? ⟨b1, o1 + k, none⟩ = some (.int .i32 l[k]) := by
            obtain ⟨o', e, hc⟩ := H1.out.at_ hlt
            injection e with e
            injection e with _ e
            subst e
            obtain ⟨d, hd⟩ := HW.out
            rw [hd]
            simpa [R32] using hc
          have hc2 : wr.cell? ⟨b2, o2 + k, none⟩ = some (.int .i32 (m[k]'(by omega))) := by
            obtain ⟨o', e, hc⟩ := H2.out.at_ (show k < m.length by omega)
            injection e with e
            injection e with _ e
            subst e
            obtain ⟨d, hd⟩ := HW.out
            rw [hd]
            simpa [R32] using hc
          by_cases hx : l[k] = m[k]'(by omega)
          · have hb : (l[k] != m[k]'(by omega)) = false := by simp [hx]
            have HX := Lib.hid hx
            clear hx
            go_wp2
            go_quiet (fail)
            go_wp2
            go_roundw
            case rel =>
              obtain ⟨d, hd⟩ := HW.out
              refine ⟨k + 1, by omega, by go_num, Lib.hid ?_, Lib.hid ⟨d + nq, by rw [hd, World.drewN_drewN]⟩⟩
              rw [List.take_succ_eq_append_getElem hlt, List.take_succ_eq_append_getElem (show k < m.length by omega), HE.out, HX.out]
            case measure => simp [intOf]; omega
          · have hb : (l[k] != m[k]'(by omega)) = true := by simp [hx]
            have HX := Lib.hid hx
            clear hx
            go_wp2
            go_quiet (fail)
            go_wp2
            go_ret
            obtain ⟨d, hd⟩ := HW.out
            refine ⟨ret_bool ?_, d + nq, by rw [hd, World.drewN_drewN]⟩
            symm
            apply decide_eq_false
            intro e
            subst e
            exact HX.out rfl
        · go_wp2
          go_ret
          refine ⟨ret_bool ?_, HW.out⟩
          symm
          apply decide_eq_true
          have := HE.out
          rw [List.take_of_length_le (by omega), List.take_of_length_le (by omega)] at this
          exact this
  · have hq : ((l.length : Int) != (m.length : Int)) = true := by simp; omega
    go_enter Try.func10, Try.ntmps10
    go_wp2
    go_ret
    refine ⟨ret_bool ?_, 0, rfl⟩
    symm
    apply decide_eq_false
    rintro rfl
    exact hne rfl

end Go.Proofs.Ytdkkdicgjhjinaa
