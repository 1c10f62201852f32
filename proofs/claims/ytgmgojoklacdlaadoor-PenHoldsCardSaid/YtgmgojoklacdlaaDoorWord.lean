/-
  The statements' questions to Word and ByWord.
-/
import Derived.Test.YtgmgojoklacdlaaDoorNames
namespace Go.Proofs.YtgmgojoklacdlaaDoor
open Go.RowKit

set_option maxHeartbeats 400000 in
theorem word_yes (n : Nat) (hn : n < 8) (f : Int) (hf : f = flagAt n) (s : ByteArray) (hs : wordS n = s) (w : World) (hT : Tab w) :
    Calls Tryd.prog 22 #[.int .u8 f, .string s, .int .i64 0] w fun e w' => e = .returned (.bool true) ∧ w = w' := by
  have C := fun w h => Word_yes n hn f hf w h
  have HT := Lib.hid hT
  rw [hs] at C
  have je : (s.toList == s.toList) = true := by simp
  clear hf hT hs
  go_enter Tryd.func22, Tryd.ntmps22
  go_wp2_with fail
  refine (C _ HT.out).mono ?_
  rintro e w1 ⟨rfl, rfl⟩
  clear C
  go_wp2
  go_ret
  exact ⟨rfl, rfl⟩

set_option maxHeartbeats 400000 in
theorem word_no (f : Int) (h0 : 0 ≤ f) (h1 : f ≤ 255) (hf : flagB f = false) (w : World) :
    Calls Tryd.prog 22 #[.int .u8 f, .string ByteArray.empty, .int .i64 2] w fun e w' => e = .returned (.bool true) ∧ w = w' := by
  have C := fun w => Word_no f h0 h1 hf w
  clear hf
  go_enter Tryd.func22, Tryd.ntmps22
  go_wp2_with fail
  refine (C _).mono ?_
  rintro e w1 ⟨rfl, rfl⟩
  clear C
  go_wp2
  go_ret
  exact ⟨rfl, rfl⟩

set_option maxHeartbeats 400000 in
theorem byWord_yes (n : Nat) (hn : n < 8) (f : Int) (hf : f = flagAt n) (s : ByteArray) (hs : wordS n = s) (w : World) (hT : Tab w) :
    Calls Tryd.prog 21 #[.string s, .int .u8 f, .int .i64 0] w fun e w' => e = .returned (.bool true) ∧ w = w' := by
  have C := fun w h => ByWord_any s n (by omega) (fun j hj e => by
    have := wordS_inj j (by omega) n hn (e.trans hs.symm)
    omega) (fun _ => hs) w h
  rw [if_pos hn, if_pos hn, ← hf] at C
  have HT := Lib.hid hT
  clear hf hT hs
  go_enter Tryd.func21, Tryd.ntmps21
  go_wp2_with fail
  refine (C _ HT.out).mono ?_
  rintro e w1 ⟨rfl, rfl⟩
  clear C
  go_wp2
  go_ret
  exact ⟨rfl, rfl⟩

set_option maxHeartbeats 400000 in
theorem byWord_no (s : ByteArray) (hs : ∀ j, j < 8 → wordS j ≠ s) (w : World) (hT : Tab w) :
    Calls Tryd.prog 21 #[.string s, .int .u8 0, .int .i64 6] w fun e w' => e = .returned (.bool true) ∧ w = w' := by
  have C := fun w h => ByWord_any s 8 (by omega) hs (by omega) w h
  rw [if_neg (by omega), if_neg (by omega)] at C
  have HT := Lib.hid hT
  clear hT hs
  go_enter Tryd.func21, Tryd.ntmps21
  go_wp2_with fail
  refine (C _ HT.out).mono ?_
  rintro e w1 ⟨rfl, rfl⟩
  clear C
  go_wp2
  go_ret
  exact ⟨rfl, rfl⟩

end Go.Proofs.YtgmgojoklacdlaaDoor
