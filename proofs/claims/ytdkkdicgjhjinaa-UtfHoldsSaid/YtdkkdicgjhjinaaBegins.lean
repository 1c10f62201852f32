/-
  Whether bytes begin a rune: the specification's search.
-/
import Derived.Test.YtdkkdicgjhjinaaVal
namespace Go.Proofs.Ytdkkdicgjhjinaa
open Go.RowKit

def spn (d : Nat) : Int := if d = 0 then 1 else if d = 1 then 64 else if d = 2 then 4096 else 262144
theorem spn_le (d : Nat) : 1 ≤ spn d ∧ spn d ≤ 262144 := by
  unfold spn
  repeat' split
  all_goals omega
theorem spn_succ (d : Nat) (h : d ≤ 2) : spn (d + 1) = spn d * 64 := by
  rcases (by omega : d = 0 ∨ d = 1 ∨ d = 2) with rfl | rfl | rfl <;> rfl
def okR (r : Int) (n : Nat) : Bool := validB r && (rlen r == (n : Int))

set_option maxHeartbeats 800000 in
theorem Begins_none (c : Int) (hc : lenI c = 0) (w : World) (b : Nat) (A : Option Addr) (cap : Nat) (hr : Rd w b A 1 (B8 [c])) :
    Calls Try.prog 28 #[.slice A 1 cap] w fun e w' => e = .returned (.tuple #[.bool false, .bool false]) ∧ New w w' := by
  obtain ⟨o, rfl, h0⟩ := hr.at_ (show 0 < 1 by omega)
  have h1 : w.cell? ⟨b, o, none⟩ = some (.int .u8 c) := by simpa [B8] using h0
  have l0 : (lenI c == 0) = true := by simp [hc]
  clear hr h0 hc
  go_enter Try.func28, Try.ntmps28
  go_wp2_with (go_at_call 34; refine (RSize_any _ _).mono ?_; rintro e w' ⟨rfl, rfl⟩)
  go_ret2
  exact ⟨rfl, Fr.refl _ _⟩

set_option maxHeartbeats 800000 in
theorem Begins_one (c : Int) (hc : lenI c = 1) (w : World) (b : Nat) (A : Option Addr) (cap : Nat) (hr : Rd w b A 1 (B8 [c])) :
    Calls Try.prog 28 #[.slice A 1 cap] w fun e w' => e = .returned (.tuple #[.bool true, .bool true]) ∧ New w w' := by
  obtain ⟨o, rfl, h0⟩ := hr.at_ (show 0 < 1 by omega)
  have h1 : w.cell? ⟨b, o, none⟩ = some (.int .u8 c) := by simpa [B8] using h0
  clear hr h0
  go_enter Try.func28, Try.ntmps28
  go_wp2_with (go_at_call 34; refine (RSize_any _ _).mono ?_; rw [hc]; rintro e w' ⟨rfl, rfl⟩)
  go_ret2
  exact ⟨rfl, Fr.refl _ _⟩

set_option maxHeartbeats 1600000 in
theorem Begins_bad (s : List Int) (c : Int) (n : Nat) (h : Lead s n) (hsn : s.length < n) (hc : furB c = false) (w : World) (b : Nat) (A : Option Addr) (cap : Nat) (hr : Rd w b A (s.length + 1) (B8 (s ++ [c]))) :
    Calls Try.prog 28 #[.slice A ((s.length + 1 : Nat)) cap] w fun e w' => e = .returned (.tuple #[.bool false, .bool false]) ∧ New w w' := by
  obtain ⟨hl1, hln, hn2, hn4, hq1, hq2⟩ := h
  obtain ⟨m, hm⟩ : ∃ m, s.length = m := ⟨_, rfl⟩
  obtain ⟨o, rfl, _, hall⟩ := hr.2 (by omega)
  obtain ⟨x0, hx0⟩ : ∃ x, s.getD 0 0 = x := ⟨_, rfl⟩
  have HC : Hid (∀ j, j < m → w.cell? ⟨b, o + j, none⟩ = some (.int .u8 (s.getD j 0))) := Lib.hid (by
    intro j hj
    have hj' : j < s.length := by omega
    rw [hall j (by omega)]
    unfold B8
    rw [List.map_append, List.getElem?_append_left (by simpa using hj'), List.getElem?_map, List.getElem?_eq_getElem hj']
    simp [List.getD, List.getElem?_eq_getElem hj'])
  have a1 : w.cell? ⟨b, o, none⟩ = some (.int .u8 x0) := by rw [← hx0]; exact HC.out 0 (by omega)
  have a2 : w.cell? ⟨b, o + m, none⟩ = some (.int .u8 c) := by
    rw [hall m (by omega)]
    subst hm
    simp [B8]
  rw [hx0] at hq1
  have HS := Lib.hid hq1
  have HQ := Lib.hid hq2
  rw [hm] at HQ hl1 hln hsn ⊢
  have i1 : (m : Int) + 1 ≤ (n : Int) := by omega
  have i3 : ((m : Int) + 1 == 0) = false := by simp; omega
  have i4 : ((n : Int) == 0) = false := by simp; omega
  have i5 : ((n : Int) == 1) = false := by simp; omega
  clear hr hx0 hq1 hq2 hm hall
  go_enter Try.func28, Try.ntmps28
  go_wp2_with (go_at_call 34; refine (RSize_any _ _).mono ?_; rw [HS.out]; rintro e w' ⟨rfl, rfl⟩)
  go_loop [5] (fun i => ∃ k : Nat, 1 ≤ k ∧ k ≤ m ∧ i = .int .i64 k) (fun i => m + 1 - (intOf i).toNat)
  case atStart => exact ⟨1, by omega, hl1, rfl⟩
  case round =>
    obtain ⟨k, hk1, hkm, rfl⟩ := hrel
    by_cases hlt : k < m
    · have hb := HQ.out k hk1 hlt
      have hcell := HC.out k hlt
      obtain ⟨y, hy⟩ : ∃ y, s.getD k 0 = y := ⟨_, rfl⟩
      rw [hy] at hb hcell
      have hf : furB y = true := by unfold furB; exact decide_eq_true (by omega)
      have j1 : (k : Int) < (m : Int) + 1 := by omega
      clear hy
      go_wp2_with (go_at_call 35; refine (RFurther_any _ _).mono ?_; rintro e w' ⟨rfl, rfl⟩)
      go_round
      case rel => exact ⟨k + 1, by omega, by omega, by go_num⟩
      case measure => simp [intOf]; omega
    · obtain rfl : k = m := by omega
      have j1 : (k : Int) < (k : Int) + 1 := by omega
      go_wp2_with (go_at_call 35; refine (RFurther_any _ _).mono ?_; rintro e w' ⟨rfl, rfl⟩)
      go_ret2
      exact ⟨rfl, Fr.refl _ _⟩

set_option maxHeartbeats 3200000 in
theorem Begins_yes (l : List Int) (n : Nat) (h : Lead l n) (k0 : Nat) (hk0 : (k0 : Int) < spn (n - l.length)) (hk64 : k0 % 64 = 0) (hok : okR (valTo l n (n - 1) + k0) n = true) (w : World) (b : Nat) (A : Option Addr) (cap : Nat) (hr : Rd w b A l.length (B8 l)) :
    Calls Try.prog 28 #[.slice A l.length cap] w fun e w' => e = .returned (.tuple #[.bool true, .bool ((l.length : Int) == (n : Int))]) ∧ New w w' := by
  have HL := Lib.hid h
  have HK := Lib.hid hok
  clear hok
  obtain ⟨hl1, hln, hn2, hn4, hq1, hq2⟩ := h
  obtain ⟨o, rfl, _, hall⟩ := hr.2 (by omega)
  clear hall
  have HR := Lib.hid hr
  have HQ := Lib.hid hq2
  obtain ⟨x0, hx0⟩ : ∃ x, l.getD 0 0 = x := ⟨_, rfl⟩
  have HC : Hid (∀ j, j < l.length → w.cell? ⟨b, o + j, none⟩ = some (.int .u8 (l.getD j 0))) := Lib.hid (by
    intro j hj
    obtain ⟨o', e, hc⟩ := hr.at_ hj
    injection e with e
    injection e with _ e
    subst e
    rw [hc]
    simp [B8, List.getD, List.getElem?_eq_getElem hj])
  have a1 : w.cell? ⟨b, o, none⟩ = some (.int .u8 x0) := by rw [← hx0]; exact HC.out 0 (by omega)
  rw [hx0] at hq1
  have HS := Lib.hid hq1
  have i1 : (l.length : Int) ≤ (n : Int) := by omega
  have i2 : (0 : Int) < (l.length : Int) := by omega
  have i3 : ((l.length : Int) == 0) = false := by rw [beq_eq_false_iff_ne]; omega
  have i4 : ((n : Int) == 0) = false := by simp; omega
  have i5 : ((n : Int) == 1) = false := by simp; omega
  clear hr hx0 hq1 hq2
  go_enter Try.func28, Try.ntmps28
  go_wp2_with (go_at_call 34; refine (RSize_any _ _).mono ?_; rw [HS.out]; rintro e w' ⟨rfl, rfl⟩)
  go_loop [5] (fun i => ∃ k : Nat, 1 ≤ k ∧ k ≤ l.length ∧ i = .int .i64 k) (fun i => l.length - (intOf i).toNat)
  case atStart => exact ⟨1, by omega, hl1, rfl⟩
  case round =>
    obtain ⟨k, hk1, hkm, rfl⟩ := hrel
    by_cases hlt : k < l.length
    · have hb := HQ.out k hk1 hlt
      have hcell := HC.out k hlt
      obtain ⟨y, hy⟩ : ∃ y, l.getD k 0 = y := ⟨_, rfl⟩
      rw [hy] at hb hcell
      have hf : furB y = true := by unfold furB; exact decide_eq_true (by omega)
      have j1 : (k : Int) < (l.length : Int) := by omega
      clear hy
      go_wp2_with (go_at_call 35; refine (RFurther_any _ _).mono ?_; rintro e w' ⟨rfl, rfl⟩)
      go_round
      case rel => exact ⟨k + 1, by omega, by omega, by go_num⟩
      case measure => simp [intOf]; omega
    · obtain rfl : k = l.length := by omega
      go_wp2_with (go_at_call 36; refine (Value_any l n HL.out _ b _ _ HR.out).mono ?_; rintro e w1 ⟨rfl, hf1⟩; have HF := Lib.hid hf1; clear hf1)
      have hv := valTo_small HL.out (show n - 1 ≤ 3 by omega)
      obtain ⟨v, hV⟩ : ∃ v, valTo l n (n - 1) = v := ⟨_, rfl⟩
      rw [hV] at hv HK ⊢
      clear hV
      go_loop [7, 8] (fun p i => ∃ k : Nat, l.length ≤ k ∧ k ≤ n ∧ i = .int .i64 k ∧ p = .int .i64 (spn (k - l.length))) (fun _ i => n - (intOf i).toNat)
      case atStart => exact ⟨l.length, by omega, by omega, rfl, by rw [Nat.sub_self]; rfl⟩
      case round =>
        obtain ⟨k, hk1, hkn, rfl, rfl⟩ := hrel
        by_cases hlt : k < n
        · have hs := spn_le (k - l.length)
          have HE := Lib.hid (spn_succ (k - l.length) (by omega))
          have j1 : (k : Int) < (n : Int) := by omega
          go_wp2
          go_round
          case rel => exact ⟨k + 1, by omega, by omega, by go_num, by rw [show k + 1 - l.length = k - l.length + 1 by omega, HE.out]⟩
          case measure => simp [intOf]; omega
        · obtain rfl : k = n := by omega
          have hs := spn_le (k - l.length)
          obtain ⟨p, hp⟩ : ∃ p, spn (k - l.length) = p := ⟨_, rfl⟩
          rw [hp] at hs hk0 ⊢
          clear hp
          go_wp2
          go_loop [9] (fun i => ∃ j : Nat, j ≤ k0 ∧ (j % 64 = 0 ∨ j % 64 = 63) ∧ i = .int .i64 j) (fun i => k0 - (intOf i).toNat)
          case atStart => exact ⟨0, by omega, .inl rfl, rfl⟩
          case round =>
            obtain ⟨j, hj, hjm, rfl⟩ := hrel
            have j1 : (j : Int) < p := by omega
            by_cases hv1 : validB (v + (j : Int)) = true
            · by_cases hv2 : (rlen (v + (j : Int)) == (k : Int)) = true
              · go_wp2_with (first
                  | (go_at_call 19; refine (RValid_any _ _).mono ?_; rintro e w' ⟨rfl, rfl⟩)
                  | (go_at_call 37; refine (RLength_any _ _).mono ?_; rintro e w' ⟨rfl, rfl⟩))
                go_ret2
                exact ⟨rfl, HF.out⟩
              · have hne : j ≠ k0 := by
                  rintro rfl
                  have := HK.out
                  unfold okR at this
                  rw [hv1] at this
                  exact hv2 (by simpa using this)
                have hv2 : (rlen (v + (j : Int)) == (k : Int)) = false := by simpa using hv2
                by_cases hm : j % 64 = 0
                · have t1 : ((j : Int) % 64 == 0) = true := by simp; omega
                  have t2 : (j : Int) + 64 < p := by omega
                  go_wp2_with (first
                    | (go_at_call 19; refine (RValid_any _ _).mono ?_; rintro e w' ⟨rfl, rfl⟩)
                    | (go_at_call 37; refine (RLength_any _ _).mono ?_; rintro e w' ⟨rfl, rfl⟩))
                  go_round
                  case rel => exact ⟨j + 63, by omega, .inr (by omega), by go_num⟩
                  case measure => simp [intOf]; omega
                · have t1 : ((j : Int) % 64 == 0) = false := by simp; omega
                  go_wp2_with (first
                    | (go_at_call 19; refine (RValid_any _ _).mono ?_; rintro e w' ⟨rfl, rfl⟩)
                    | (go_at_call 37; refine (RLength_any _ _).mono ?_; rintro e w' ⟨rfl, rfl⟩))
                  go_round
                  case rel => exact ⟨j + 1, by omega, .inl (by omega), by go_num⟩
                  case measure => simp [intOf]; omega
            · have hne : j ≠ k0 := by
                rintro rfl
                have := HK.out
                unfold okR at this
                rw [Bool.and_eq_true] at this
                exact hv1 this.1
              have hv1 : validB (v + (j : Int)) = false := by simpa using hv1
              by_cases hm : j % 64 = 0
              · have t1 : ((j : Int) % 64 == 0) = true := by simp; omega
                have t2 : (j : Int) + 64 < p := by omega
                go_wp2_with (first
                  | (go_at_call 19; refine (RValid_any _ _).mono ?_; rintro e w' ⟨rfl, rfl⟩)
                  | (go_at_call 37; refine (RLength_any _ _).mono ?_; rintro e w' ⟨rfl, rfl⟩))
                go_round
                case rel => exact ⟨j + 63, by omega, .inr (by omega), by go_num⟩
                case measure => simp [intOf]; omega
              · have t1 : ((j : Int) % 64 == 0) = false := by simp; omega
                go_wp2_with (first
                  | (go_at_call 19; refine (RValid_any _ _).mono ?_; rintro e w' ⟨rfl, rfl⟩)
                  | (go_at_call 37; refine (RLength_any _ _).mono ?_; rintro e w' ⟨rfl, rfl⟩))
                go_round
                case rel => exact ⟨j + 1, by omega, .inl (by omega), by go_num⟩
                case measure => simp [intOf]; omega

set_option maxHeartbeats 3200000 in
theorem Begins_no (l : List Int) (n : Nat) (h : Lead l n) (hno : ∀ k : Nat, (k : Int) < spn (n - l.length) → okR (valTo l n (n - 1) + k) n = false) (w : World) (b : Nat) (A : Option Addr) (cap : Nat) (hr : Rd w b A l.length (B8 l)) :
    Calls Try.prog 28 #[.slice A l.length cap] w fun e w' => e = .returned (.tuple #[.bool false, .bool false]) ∧ New w w' := by
  have HL := Lib.hid h
  have HK := Lib.hid hno
  clear hno
  obtain ⟨hl1, hln, hn2, hn4, hq1, hq2⟩ := h
  obtain ⟨o, rfl, _, hall⟩ := hr.2 (by omega)
  clear hall
  have HR := Lib.hid hr
  have HQ := Lib.hid hq2
  obtain ⟨x0, hx0⟩ : ∃ x, l.getD 0 0 = x := ⟨_, rfl⟩
  have HC : Hid (∀ j, j < l.length → w.cell? ⟨b, o + j, none⟩ = some (.int .u8 (l.getD j 0))) := Lib.hid (by
    intro j hj
    obtain ⟨o', e, hc⟩ := hr.at_ hj
    injection e with e
    injection e with _ e
    subst e
    rw [hc]
    simp [B8, List.getD, List.getElem?_eq_getElem hj])
  have a1 : w.cell? ⟨b, o, none⟩ = some (.int .u8 x0) := by rw [← hx0]; exact HC.out 0 (by omega)
  rw [hx0] at hq1
  have HS := Lib.hid hq1
  have i1 : (l.length : Int) ≤ (n : Int) := by omega
  have i2 : (0 : Int) < (l.length : Int) := by omega
  have i3 : ((l.length : Int) == 0) = false := by rw [beq_eq_false_iff_ne]; omega
  have i4 : ((n : Int) == 0) = false := by simp; omega
  have i5 : ((n : Int) == 1) = false := by simp; omega
  clear hr hx0 hq1 hq2
  go_enter Try.func28, Try.ntmps28
  go_wp2_with (go_at_call 34; refine (RSize_any _ _).mono ?_; rw [HS.out]; rintro e w' ⟨rfl, rfl⟩)
  go_loop [5] (fun i => ∃ k : Nat, 1 ≤ k ∧ k ≤ l.length ∧ i = .int .i64 k) (fun i => l.length - (intOf i).toNat)
  case atStart => exact ⟨1, by omega, hl1, rfl⟩
  case round =>
    obtain ⟨k, hk1, hkm, rfl⟩ := hrel
    by_cases hlt : k < l.length
    · have hb := HQ.out k hk1 hlt
      have hcell := HC.out k hlt
      obtain ⟨y, hy⟩ : ∃ y, l.getD k 0 = y := ⟨_, rfl⟩
      rw [hy] at hb hcell
      have hf : furB y = true := by unfold furB; exact decide_eq_true (by omega)
      have j1 : (k : Int) < (l.length : Int) := by omega
      clear hy
      go_wp2_with (go_at_call 35; refine (RFurther_any _ _).mono ?_; rintro e w' ⟨rfl, rfl⟩)
      go_round
      case rel => exact ⟨k + 1, by omega, by omega, by go_num⟩
      case measure => simp [intOf]; omega
    · obtain rfl : k = l.length := by omega
      go_wp2_with (go_at_call 36; refine (Value_any l n HL.out _ b _ _ HR.out).mono ?_; rintro e w1 ⟨rfl, hf1⟩; have HF := Lib.hid hf1; clear hf1)
      have hv := valTo_small HL.out (show n - 1 ≤ 3 by omega)
      obtain ⟨v, hV⟩ : ∃ v, valTo l n (n - 1) = v := ⟨_, rfl⟩
      rw [hV] at hv HK ⊢
      clear hV
      go_loop [7, 8] (fun p i => ∃ k : Nat, l.length ≤ k ∧ k ≤ n ∧ i = .int .i64 k ∧ p = .int .i64 (spn (k - l.length))) (fun _ i => n - (intOf i).toNat)
      case atStart => exact ⟨l.length, by omega, by omega, rfl, by rw [Nat.sub_self]; rfl⟩
      case round =>
        obtain ⟨k, hk1, hkn, rfl, rfl⟩ := hrel
        by_cases hlt : k < n
        · have hs := spn_le (k - l.length)
          have HE := Lib.hid (spn_succ (k - l.length) (by omega))
          have j1 : (k : Int) < (n : Int) := by omega
          go_wp2
          go_round
          case rel => exact ⟨k + 1, by omega, by omega, by go_num, by rw [show k + 1 - l.length = k - l.length + 1 by omega, HE.out]⟩
          case measure => simp [intOf]; omega
        · obtain rfl : k = n := by omega
          have hs := spn_le (k - l.length)
          obtain ⟨p, hp⟩ : ∃ p, spn (k - l.length) = p := ⟨_, rfl⟩
          rw [hp] at hs HK ⊢
          clear hp
          go_wp2
          go_loop [9] (fun i => ∃ j : Nat, (j : Int) ≤ p ∧ i = .int .i64 j) (fun i => (p - intOf i).toNat)
          case atStart => exact ⟨0, by omega, rfl⟩
          case round =>
            obtain ⟨j, hj, rfl⟩ := hrel
            by_cases j1 : (j : Int) < p
            · have hn := HK.out j j1
              by_cases hv1 : validB (v + (j : Int)) = true
              · have hv2 : (rlen (v + (j : Int)) == (k : Int)) = false := by
                  unfold okR at hn
                  rw [hv1, Bool.true_and] at hn
                  exact hn
                clear hn
                by_cases hm : j % 64 = 0
                · have t1 : ((j : Int) % 64 == 0) = true := by simp; omega
                  by_cases t2 : (j : Int) + 64 < p
                  · go_wp2_with (first
                      | (go_at_call 19; refine (RValid_any _ _).mono ?_; rintro e w' ⟨rfl, rfl⟩)
                      | (go_at_call 37; refine (RLength_any _ _).mono ?_; rintro e w' ⟨rfl, rfl⟩))
                    go_round
                    case rel => exact ⟨j + 63, by omega, by go_num⟩
                    case measure => simp [intOf]; omega
                  · go_wp2_with (first
                      | (go_at_call 19; refine (RValid_any _ _).mono ?_; rintro e w' ⟨rfl, rfl⟩)
                      | (go_at_call 37; refine (RLength_any _ _).mono ?_; rintro e w' ⟨rfl, rfl⟩))
                    go_round
                    case rel => exact ⟨j + 1, by omega, by go_num⟩
                    case measure => simp [intOf]; omega
                · have t1 : ((j : Int) % 64 == 0) = false := by simp; omega
                  go_wp2_with (first
                    | (go_at_call 19; refine (RValid_any _ _).mono ?_; rintro e w' ⟨rfl, rfl⟩)
                    | (go_at_call 37; refine (RLength_any _ _).mono ?_; rintro e w' ⟨rfl, rfl⟩))
                  go_round
                  case rel => exact ⟨j + 1, by omega, by go_num⟩
                  case measure => simp [intOf]; omega
              · have hv1 : validB (v + (j : Int)) = false := by simpa using hv1
                clear hn
                by_cases hm : j % 64 = 0
                · have t1 : ((j : Int) % 64 == 0) = true := by simp; omega
                  by_cases t2 : (j : Int) + 64 < p
                  · go_wp2_with (first
                      | (go_at_call 19; refine (RValid_any _ _).mono ?_; rintro e w' ⟨rfl, rfl⟩)
                      | (go_at_call 37; refine (RLength_any _ _).mono ?_; rintro e w' ⟨rfl, rfl⟩))
                    go_round
                    case rel => exact ⟨j + 63, by omega, by go_num⟩
                    case measure => simp [intOf]; omega
                  · go_wp2_with (first
                      | (go_at_call 19; refine (RValid_any _ _).mono ?_; rintro e w' ⟨rfl, rfl⟩)
                      | (go_at_call 37; refine (RLength_any _ _).mono ?_; rintro e w' ⟨rfl, rfl⟩))
                    go_round
                    case rel => exact ⟨j + 1, by omega, by go_num⟩
                    case measure => simp [intOf]; omega
                · have t1 : ((j : Int) % 64 == 0) = false := by simp; omega
                  go_wp2_with (first
                    | (go_at_call 19; refine (RValid_any _ _).mono ?_; rintro e w' ⟨rfl, rfl⟩)
                    | (go_at_call 37; refine (RLength_any _ _).mono ?_; rintro e w' ⟨rfl, rfl⟩))
                  go_round
                  case rel => exact ⟨j + 1, by omega, by go_num⟩
                  case measure => simp [intOf]; omega
            · go_wp2
              go_ret2
              exact ⟨rfl, HF.out⟩

end Go.Proofs.Ytdkkdicgjhjinaa
