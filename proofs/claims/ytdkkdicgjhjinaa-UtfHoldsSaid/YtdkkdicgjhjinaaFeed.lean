/-
  Bytes decoded, one after the other; the ends.
-/
import Derived.Test.YtdkkdicgjhjinaaStep
namespace Go.Proofs.Ytdkkdicgjhjinaa
open Go.RowKit

def B8 (t : List Int) : List Value := t.map (.int .u8)
def Bytes (t : List Int) : Prop := ∀ x ∈ t, 0 ≤ x ∧ x < 256

set_option maxHeartbeats 400000 in
theorem Step_nil (c : Int) (w : World) :
    Calls Try.prog 14 #[.pointer none, .int .u8 c] w fun e w' => e = .returned (.slice none 0 0) ∧ w = w' := by
  go_enter Try.func14, Try.ntmps14
  go_wp2
  go_ret
  exact ⟨rfl, rfl⟩
set_option maxHeartbeats 400000 in
theorem End_nil (w : World) :
    Calls Try.prog 17 #[.pointer none] w fun e w' => e = .returned (.slice none 0 0) ∧ w = w' := by
  go_enter Try.func17, Try.ntmps17
  go_wp2
  go_ret
  exact ⟨rfl, rfl⟩
set_option maxHeartbeats 400000 in
theorem Feed_nil (v : Value) (w : World) :
    Calls Try.prog 22 #[.pointer none, v] w fun e w' => e = .returned (.slice none 0 0) ∧ w = w' := by
  go_enter Try.func22, Try.ntmps22
  go_wp2
  go_ret
  exact ⟨rfl, rfl⟩
set_option maxHeartbeats 400000 in
theorem Pending_nil (w : World) :
    Calls Try.prog 16 #[.pointer none] w fun e w' => e = .returned (.slice none 0 0) ∧ w = w' := by
  go_enter Try.func16, Try.ntmps16
  go_wp2
  go_ret
  exact ⟨rfl, rfl⟩
set_option maxHeartbeats 400000 in
theorem Copy_nil (w : World) :
    Calls Try.prog 13 #[.pointer none] w fun e w' => e = .returned (.pointer none) ∧ w = w' := by
  go_enter Try.func13, Try.ntmps13
  go_wp2
  go_ret
  exact ⟨rfl, rfl⟩

set_option maxHeartbeats 400000 in
theorem Step_any (s : List Int) (c : Int) (hc0 : 0 ≤ c) (hs : PV s) (g : Nat) (w : World) (h : Dec w g s) :
    Calls Try.prog 14 #[.pointer (some ⟨g, 0, none⟩), .int .u8 c] w fun e w' =>
      ∃ v', e = .returned v' ∧ Own32 w' w.heap.size v' (stepI s c).2 ∧ Dec w' g (stepI s c).1 ∧ Fr (· = g) w w' := by
  have H := Lib.hid h
  have HS := Lib.hid hs
  clear h hs
  go_enter Try.func14, Try.ntmps14
  go_wp2_with (go_at_call 27; refine (step_any s c hc0 HS.out g _ _ H.out w.heap.size [] (Own32.nil _ _) (Nat.le_refl _) (by simp)).mono ?_; rintro e w1 ⟨v1, rfl, ho, hd, hf⟩; have HO := Lib.hid ho; have HD := Lib.hid hd; have HF := Lib.hid hf; clear ho hd hf)
  go_ret
  refine ⟨v1, rfl, HO.out, HD.out, HF.out.weak fun k _ hk => ?_⟩
  simpa [Value.ownBlock] using hk

set_option maxHeartbeats 400000 in
theorem End_any (s : List Int) (g : Nat) (w : World) (h : Dec w g s) :
    Calls Try.prog 17 #[.pointer (some ⟨g, 0, none⟩)] w fun e w' =>
      ∃ v', e = .returned v' ∧ Own32 w' w.heap.size v' (endI s) ∧ Dec w' g [] ∧ Fr (· = g) w w' := by
  have H := Lib.hid h
  clear h
  go_enter Try.func17, Try.ntmps17
  go_wp2_with (go_at_call 25; refine (end_any s g _ H.out _ w.heap.size [] (Own32.nil _ _) (Nat.le_refl _) (by simp)).mono ?_; rintro e w1 ⟨v1, rfl, ho, hd, hf, _⟩; have HO := Lib.hid ho; have HD := Lib.hid hd; have HF := Lib.hid hf; clear ho hd hf)
  go_ret
  refine ⟨v1, rfl, HO.out, HD.out, HF.out.weak fun k _ hk => ?_⟩
  simpa [Value.ownBlock] using hk

def FeedRel (w : World) (g : Nat) (s t : List Int) (k : Nat) (v : Value) (wr : World) : Prop :=
  Own32 wr w.heap.size v (feedI s (t.take k)).2 ∧ Dec wr g (feedI s (t.take k)).1 ∧ Fr (· = g) w wr

theorem FeedRel.next {w : World} {g : Nat} {s t : List Int} {k : Nat} {v : Value} {wr : World} (h : FeedRel w g s t k v wr) (hg : g < w.heap.size) (hk : k < t.length) {v' : Value} {w' : World}
    (ho : Own32 w' w.heap.size v' ((feedI s (t.take k)).2 ++ (stepI (feedI s (t.take k)).1 t[k]).2)) (hd : Dec w' g (stepI (feedI s (t.take k)).1 t[k]).1) (hf : Fr (fun i => i = g ∨ v.ownBlock = some i) wr w') : FeedRel w g s t (k + 1) v' w' := by
  obtain ⟨h1, h2, h3⟩ := h
  have e : t.take (k + 1) = t.take k ++ [t[k]] := by rw [List.take_succ_eq_append_getElem hk]
  unfold FeedRel
  rw [e, feedI_snoc]
  refine ⟨ho, hd, h3.trans hf ?_⟩
  rintro i hi (rfl | hv)
  · rfl
  · have := (h1.lt hv).1
    omega

set_option maxHeartbeats 800000 in
theorem Feed_any (s t : List Int) (ht : Bytes t) (hs : PV s) (g : Nat) (w : World) (h : Dec w g s) (b : Nat) (hbg : 0 < t.length → b ≠ g) (A : Option Addr) (cap : Nat) (hr : Rd w b A t.length (B8 t)) (hlen : t.length ≤ 400000) :
    Calls Try.prog 22 #[.pointer (some ⟨g, 0, none⟩), .slice A t.length cap] w fun e w' =>
      ∃ v', e = .returned v' ∧ Own32 w' w.heap.size v' (feedI s t).2 ∧ Dec w' g (feedI s t).1 ∧ Fr (· = g) w w' := by
  have hgl : g < w.heap.size := Blk.lt h
  have H0 : FeedRel w g s t 0 (.slice none 0 0) w := ⟨Own32.nil _ _, h, Fr.refl _ _⟩
  have HS := Lib.hid hs
  have HT := Lib.hid ht
  have H := Lib.hid H0
  have HR := Lib.hid hr
  clear hs ht h H0
  have hn : (t.length : Int) ≤ 9223372036854775807 := by omega
  rcases Nat.eq_zero_or_pos t.length with h0 | hpos
  · have ht0 : t = [] := List.eq_nil_of_length_eq_zero h0
    subst ht0
    clear h0 hr
    go_enter Try.func22, Try.ntmps22
    go_wp2
    refine wp_loop_rounds 1 ?_
    rw [rounds_succ]
    go_wp2
    go_ret
    exact ⟨_, rfl, H.out⟩
  · obtain ⟨o, rfl, _, _⟩ := hr.2 hpos
    clear hr
    go_enter Try.func22, Try.ntmps22
    go_wp2
    go_loopw [5, 12] (fun v i wr => ∃ k : Nat, k ≤ t.length ∧ i = .int .i64 k ∧ FeedRel w g s t k v wr) (fun _ i _ => t.length - (intOf i).toNat)
    case atStart => exact ⟨0, Nat.zero_le _, rfl, H.out⟩
    case round =>
      obtain ⟨k, hk, rfl, hrel⟩ := hrel
      have HL := Lib.hid hrel
      clear hrel
      by_cases hlt : k < t.length
      · have hcell : wr.cell? ⟨b, o + k, none⟩ = some (.int .u8 t[k]) := by
          obtain ⟨o', e, hc⟩ := (HR.out.fr HL.out.2.2 (hbg hpos)).at_ hlt
          injection e with e
          injection e with _ e
          subst e
          simpa [B8] using hc
        have hb := HT.out t[k] (List.getElem_mem hlt)
        have hp := feedI_pv (t.take k) HS.out
        have HP := Lib.hid hp
        have hl : (feedI s (t.take k)).2.length ≤ 1000000 := by
          have := feedI_len (t.take k) s
          rw [List.length_take] at this
          omega
        have hz : w.heap.size ≤ wr.heap.size := HL.out.2.2.size
        clear hp
        go_wp2_with (go_at_call 27; refine (step_any _ t[k] hb.1 HP.out g _ _ HL.out.2.1 w.heap.size _ HL.out.1 hz hl).mono ?_; rintro e w1 ⟨v1, rfl, ho, hd, hf⟩; have HN := Lib.hid (HL.out.next hgl hlt ho hd hf); clear ho hd hf)
        go_roundw
        case rel => exact ⟨k + 1, by omega, by go_num, HN.out⟩
        case measure => simp [intOf]; omega
      · have hk' : k = t.length := by omega
        go_wp2
        go_ret
        have := HL.out
        unfold FeedRel at this
        rw [hk', List.take_length] at this
        exact ⟨_, rfl, this⟩

end Go.Proofs.Ytdkkdicgjhjinaa
