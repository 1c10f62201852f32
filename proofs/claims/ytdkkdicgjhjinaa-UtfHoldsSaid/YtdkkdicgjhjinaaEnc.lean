/-
  The bytes of a rune, as the specification builds them.
-/
import Derived.Test.YtdkkdicgjhjinaaArg
namespace Go.Proofs.Ytdkkdicgjhjinaa
open Go.RowKit

def encOne (r : Int) : List Int :=
  if r < 128 then [r] else if r < 2048 then [192 + r / 64, 128 + r % 64]
  else if r < 65536 then [224 + r / 4096, 128 + r / 64 % 64, 128 + r % 64]
  else [240 + r / 262144, 128 + r / 4096 % 64, 128 + r / 64 % 64, 128 + r % 64]
def encV (r : Int) : List Int := if validB r = true then encOne r else [239, 191, 189]
def encL (l : List Int) : List Int := l.flatMap encV

theorem validB_iff {r : Int} : validB r = true ↔ (0 ≤ r ∧ r < 55296 ∨ 57343 < r ∧ r ≤ 1114111) := by unfold validB; exact decide_eq_true_iff
theorem valid_eq (r : Int) : Utf8.valid r = validB r := by
  rw [Bool.eq_iff_iff, validB_iff]
  simp [Utf8.valid]
  omega
theorem nums_append (a b : ByteArray) : nums (a ++ b) = nums a ++ nums b := by simp [nums]
theorem u8nat (n : Nat) (h : n < 256) : ((UInt8.ofNat n).toNat : Int) = (n : Int) := by simp; omega
theorem nums_encode (r : Int) : nums (Utf8.encode r) = encV r := by
  unfold Utf8.encode encV
  rw [valid_eq]
  by_cases hv : validB r = true
  · have hb := validB_iff.1 hv
    simp only [hv, if_true]
    obtain ⟨n, rfl⟩ := Int.eq_ofNat_of_zero_le (show 0 ≤ r by omega)
    simp only [Int.toNat_natCast]
    unfold encOne
    by_cases h1 : n < 128
    · rw [if_pos (by omega), if_pos (by omega)]
      simp only [nums, List.map_cons, List.map_nil, u8nat n (by omega)]
    · by_cases h2 : n < 2048
      · rw [if_neg (by omega), if_pos (by omega), if_neg (by omega), if_pos (by omega)]
        simp only [nums, List.map_cons, List.map_nil]
        rw [u8nat _ (by omega), u8nat _ (by omega)]
        simp
      · by_cases h3 : n < 65536
        · rw [if_neg (by omega), if_neg (by omega), if_pos (by omega), if_neg (by omega), if_neg (by omega), if_pos (by omega)]
          simp only [nums, List.map_cons, List.map_nil]
          rw [u8nat _ (by omega), u8nat _ (by omega), u8nat _ (by omega)]
          simp
        · rw [if_neg (by omega), if_neg (by omega), if_neg (by omega), if_neg (by omega), if_neg (by omega), if_neg (by omega)]
          simp only [nums, List.map_cons, List.map_nil]
          rw [u8nat _ (by omega), u8nat _ (by omega), u8nat _ (by omega), u8nat _ (by omega)]
          simp
  · have hv' : validB r = false := by simpa using hv
    simp only [hv', Bool.false_eq_true, if_false]
    rfl
theorem nums_foldl (l : List Int) : ∀ s : ByteArray, nums (l.foldl (fun r n => r ++ Utf8.encode n) s) = nums s ++ encL l := by
  induction l with
  | nil => intro s; simp [encL]
  | cons r l ih => intro s; rw [List.foldl_cons, ih, nums_append, nums_encode]; simp [encL]
theorem nums_runes (l : List Int) : nums (runesBytes l) = encL l := by
  unfold runesBytes
  rw [nums_foldl]
  simp [nums]

theorem encV_bytes (r : Int) : Bytes (encV r) := by rw [← nums_encode]; exact nums_bytes _
theorem encL_bytes (l : List Int) : Bytes (encL l) := by rw [← nums_runes]; exact nums_bytes _
theorem encV_len (r : Int) : (encV r).length ≤ 4 := by
  unfold encV encOne
  repeat' split
  all_goals simp

set_option maxHeartbeats 400000 in
theorem RValid_any (r : Int) (w : World) :
    Calls Try.prog 19 #[.int .i32 r] w fun e w' => e = .returned (.bool (validB r)) ∧ w = w' := by
  go_enter Try.func19, Try.ntmps19
  go_wp2
  all_goals
    go_ret
    refine ⟨ret_bool ?_, rfl⟩
    unfold validB
    simp_all <;> omega

set_option maxHeartbeats 800000 in
theorem Bytes_valid (r : Int) (hv : validB r = true) (w : World) :
    Calls Try.prog 20 #[.int .i32 r] w fun e w' => ∃ n, e = .returned (.slice (some ⟨w.heap.size, 0, none⟩) n n) ∧ n = (encV r).length ∧ Rd w' w.heap.size (some ⟨w.heap.size, 0, none⟩) n (B8 (encV r)) ∧ New w w' := by
  have hb := validB_iff.1 hv
  have he : encV r = encOne r := by unfold encV; rw [if_pos hv]
  have r0 : 0 ≤ r := by omega
  have r1 : r ≤ 1114111 := by omega
  rw [he]
  clear he hb
  by_cases h1 : r < 128
  · have he : encOne r = [r] := by unfold encOne; rw [if_pos h1]
    rw [he]
    clear he
    go_enter Try.func20, Try.ntmps20
    go_wp2_with (go_at_call 19; refine (RValid_any _ _).mono ?_; rintro e w' ⟨rfl, rfl⟩)
    go_ret
    exact ⟨1, rfl, rfl, rd_new _ _ 1 _ rfl rfl, New.alloc _⟩
  · by_cases h2 : r < 2048
    · have he : encOne r = [192 + r / 64, 128 + r % 64] := by unfold encOne; rw [if_neg h1, if_pos h2]
      rw [he]
      clear he
      go_enter Try.func20, Try.ntmps20
      go_wp2_with (go_at_call 19; refine (RValid_any _ _).mono ?_; rintro e w' ⟨rfl, rfl⟩)
      go_ret
      exact ⟨2, rfl, rfl, rd_new _ _ 2 _ rfl rfl, New.alloc _⟩
    · by_cases h3 : r < 65536
      · have he : encOne r = [224 + r / 4096, 128 + r / 64 % 64, 128 + r % 64] := by unfold encOne; rw [if_neg h1, if_neg h2, if_pos h3]
        rw [he]
        clear he
        go_enter Try.func20, Try.ntmps20
        go_wp2_with (go_at_call 19; refine (RValid_any _ _).mono ?_; rintro e w' ⟨rfl, rfl⟩)
        go_ret
        exact ⟨3, rfl, rfl, rd_new _ _ 3 _ rfl rfl, New.alloc _⟩
      · have he : encOne r = [240 + r / 262144, 128 + r / 4096 % 64, 128 + r / 64 % 64, 128 + r % 64] := by unfold encOne; rw [if_neg h1, if_neg h2, if_neg h3]
        rw [he]
        clear he
        go_enter Try.func20, Try.ntmps20
        go_wp2_with (go_at_call 19; refine (RValid_any _ _).mono ?_; rintro e w' ⟨rfl, rfl⟩)
        go_ret
        exact ⟨4, rfl, rfl, rd_new _ _ 4 _ rfl rfl, New.alloc _⟩

set_option maxHeartbeats 400000 in
theorem Bytes_any (r : Int) (w : World) :
    Calls Try.prog 20 #[.int .i32 r] w fun e w' => ∃ n, e = .returned (.slice (some ⟨w.heap.size, 0, none⟩) n n) ∧ n = (encV r).length ∧ Rd w' w.heap.size (some ⟨w.heap.size, 0, none⟩) n (B8 (encV r)) ∧ New w w' := by
  by_cases hv : validB r = true
  · exact Bytes_valid r hv w
  · have he : encV r = encV 65533 := by unfold encV; rw [if_neg hv]; rfl
    have hv' : validB r = false := by simpa using hv
    rw [he]
    clear he hv
    go_enter Try.func20, Try.ntmps20
    go_wp2_with (first
      | (go_at_call 19; refine (RValid_any _ _).mono ?_; rintro e w' ⟨rfl, rfl⟩)
      | (go_at_call 20; refine (Bytes_valid 65533 (by decide) _).mono ?_; rintro e w1 ⟨n, rfl, hn, hr, hf⟩; have HN := Lib.hid hn; have HR := Lib.hid hr; have HF := Lib.hid hf; clear hn hr hf))
    go_ret
    exact ⟨n, rfl, HN.out, HR.out, HF.out⟩

end Go.Proofs.Ytdkkdicgjhjinaa
