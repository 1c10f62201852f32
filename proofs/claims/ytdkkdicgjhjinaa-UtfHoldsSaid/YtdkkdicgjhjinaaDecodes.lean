/-
  The runes of any bytes.
-/
import Derived.Test.YtdkkdicgjhjinaaRFeed
namespace Go.Proofs.Ytdkkdicgjhjinaa
open Go.RowKit

set_option maxHeartbeats 800000 in
theorem decodes_long (A : Option Addr) (n cap : Nat) (hn : 200 < n) (w : World) :
    Calls Try.prog 3 #[.slice A n cap] w fun e w' => e = .returned (.bool true) ∧ New w w' := by
  have h1 : (200 : Int) < (n : Int) := by omega
  go_enter Try.func3, Try.ntmps3
  go_wp2_with (go_at_call 9; refine (known_any _).mono ?_; rintro e w1 ⟨rfl, hk⟩)
  go_ret
  exact ⟨rfl, hk⟩

theorem Decode_n (t : List Int) (ht : Bytes t) (w : World) (b : Nat) (A : Option Addr) (cap : Nat) (hr : Rd w b A t.length (B8 t)) (hlen : t.length ≤ 400000) :
    Calls Try.prog 11 #[.slice A t.length cap] w fun e w' => ∃ b A c, e = .returned (.slice A (decI t).length c) ∧ Rd w' b A (decI t).length (R32 (decI t)) ∧ New w w' := by
  refine (Decode_any t ht w b A cap hr hlen).mono ?_
  rintro e w' ⟨v, rfl, ho, hf⟩
  obtain ⟨b2, A2, c2, rfl, hr2, _⟩ := ho.rdn _ rfl
  exact ⟨b2, A2, c2, rfl, hr2, hf⟩
theorem RDecode_n (t : List Int) (ht : Bytes t) (hlen : t.length ≤ 400000) (w : World) (b : Nat) (A : Option Addr) (cap : Nat) (hr : Rd w b A t.length (B8 t)) :
    Calls Try.prog 12 #[.slice A t.length cap] w fun e w' => ∃ b A c, e = .returned (.slice A (decI t).length c) ∧ Rd w' b A (decI t).length (R32 (decI t)) ∧ New w w' := by
  refine (RDecode_any t ht hlen w b A cap hr).mono ?_
  rintro e w' ⟨v, rfl, ho, hf⟩
  obtain ⟨b2, A2, c2, rfl, hr2, _⟩ := ho.rdn _ rfl
  exact ⟨b2, A2, c2, rfl, hr2, hf⟩

set_option maxHeartbeats 1600000 in
theorem decodes_short (t : List Int) (ht : Bytes t) (A : Option Addr) (b cap : Nat) (w : World) (hr : Rd w b A t.length (B8 t)) (hn : t.length ≤ 200) :
    Calls Try.prog 3 #[.slice A t.length cap] w fun e w' => e = .returned (.bool true) ∧ New w w' := by
  have h1 : ¬ (200 : Int) < (t.length : Int) := by omega
  have HT := Lib.hid ht
  have HR := Lib.hid hr
  have hdl := decI_len t
  clear hr ht
  go_enter Try.func3, Try.ntmps3
  go_wp2_with (first
    | (at_builtin; go_must (refine app8 rfl _ _ rfl w.heap.size (.slice none 0 0) 0 [] rfl (World.ownsRow_nil _ _ _ _) b A t.length cap (B8 t) rfl HR.out (by simp [B8, Value.oneCell']) (by omega) (Nat.le_refl _) ?_); intro v1 w1 hown1 hg1 _; have ho1 := own_of_nil8 hown1; have hn1 : New w w1 := Fr.grown (Fr.refl _ _) hg1 (by simp [Value.ownBlock]); have HN1 := Lib.hid hn1; obtain ⟨b1, A1, c1, rfl, hr1, _⟩ := ho1.rdn _ rfl; have HR1 := Lib.hid hr1; clear hr1 ho1 hown1 hg1 hn1)
    | (go_at_call 11; go_must (refine (Decode_n t HT.out _ b1 A1 c1 HR1.out (by omega)).mono ?_); rintro e w2 ⟨b2, A2, c2, rfl, hr2, hf2⟩; have HR2 := Lib.hid hr2; have HF2 := Lib.hid hf2; clear hr2 hf2)
    | (go_at_call 12; go_must (refine (RDecode_n t HT.out (by omega) _ b A cap (HR.out.new (HN1.out.trans HF2.out))).mono ?_); rintro e w3 ⟨b3, A3, c3, rfl, hr3, hf3⟩; have HR3 := Lib.hid hr3; have HF3 := Lib.hid hf3; clear hr3 hf3)
    | (go_at_call 10; go_must (refine (Same_n (decI t) (decI t) _ _ rfl rfl _ b2 b3 A2 A3 c2 c3 (HR2.out.new HF3.out) HR3.out (by omega) rfl).mono ?_); rintro e w4 ⟨rfl, hf4⟩; have HF4 : Hid (New w w4) := Lib.hid (((HN1.out.trans HF2.out).trans HF3.out).trans hf4); have hcv1 := conv_bytes (((HR1.out.new HF2.out).new HF3.out).new hf4) c1; have hcv2 := conv_bytes (HR.out.new HF4.out) cap; clear hf4)
    | (go_at_call 9; go_must (refine (known_any _).mono ?_); rintro e w5 ⟨rfl, hk5⟩))
  go_ret
  exact ⟨rfl, HF4.out.trans hk5⟩

theorem decodes_walk (a0 : Option Addr) (len0 cap0 : Nat) (z0 : List Int) (w : World) (w0 : RowIn .u8 w a0 len0 cap0 z0) :
    Calls Try.prog 3 #[.slice a0 len0 cap0] w fun e w' => e = .returned (.bool true) ∧ Below w.heap.size w w' := by
  obtain ⟨t, b, rfl, ht, hr⟩ := w0.bytes
  by_cases hn : t.length ≤ 200
  · exact (decodes_short t ht a0 b cap0 w hr hn).mono fun _ _ h => ⟨h.1, h.2.new_below⟩
  · exact (decodes_long a0 t.length cap0 (by omega) w).mono fun _ _ h => ⟨h.1, h.2.new_below⟩

end Go.Proofs.Ytdkkdicgjhjinaa
