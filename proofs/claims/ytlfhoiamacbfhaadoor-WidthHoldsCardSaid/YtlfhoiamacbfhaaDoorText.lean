/-
  The columns of some runes; how many fit.
-/
import Derived.Test.YtlfhoiamacbfhaaDoorRef
namespace Go.Proofs.YtlfhoiamacbfhaaDoor
open Go.RowKit

def colI (r : Int) : Int := max (ofI r) 0
def textI : List Int → Int
  | [] => 0
  | r :: l => colI r + textI l
/-- How many runes fit into so many columns. -/
def fitsI : List Int → Int → Nat
  | [], _ => 0
  | r :: l, c => if c < colI r then 0 else fitsI l (c - colI r) + 1

theorem of_bound (r : Int) : -1 ≤ ofI r ∧ ofI r ≤ 2 := by
  unfold ofI
  repeat' split
  all_goals omega
theorem col_bound (r : Int) : 0 ≤ colI r ∧ colI r ≤ 2 := by
  have := of_bound r
  unfold colI
  omega
theorem text_append (a b : List Int) : textI (a ++ b) = textI a + textI b := by
  induction a with
  | nil => simp [textI]
  | cons x a ih => simp only [List.cons_append, textI, ih]; omega
theorem text_bound (l : List Int) : 0 ≤ textI l ∧ textI l ≤ 2 * l.length := by
  induction l with
  | nil => simp [textI]
  | cons x l ih =>
    have := col_bound x
    simp only [textI, List.length_cons]
    omega
theorem text_take (l : List Int) (k : Nat) (hk : k < l.length) : textI (l.take (k + 1)) = textI (l.take k) + colI (l.getD k 0) := by
  rw [List.take_add_one, text_append, List.getElem?_eq_getElem hk]
  simp [textI, List.getD, List.getElem?_eq_getElem hk]
theorem fits_le (l : List Int) (c : Int) : fitsI l c ≤ l.length := by
  induction l generalizing c with
  | nil => simp [fitsI]
  | cons x l ih =>
    unfold fitsI
    split
    · omega
    · have := ih (c - colI x)
      simp only [List.length_cons]
      omega
theorem fits_text (l : List Int) (c : Int) (hc : 0 ≤ c) : textI (l.take (fitsI l c)) ≤ c := by
  induction l generalizing c with
  | nil => simpa [fitsI, textI] using hc
  | cons x l ih =>
    unfold fitsI
    split
    · simpa [textI] using hc
    · have := ih (c - colI x) (by omega)
      simp only [List.take_succ_cons, textI]
      omega
theorem fits_more (l : List Int) (c : Int) (h : fitsI l c < l.length) : c < textI (l.take (fitsI l c + 1)) := by
  induction l generalizing c with
  | nil => simp [fitsI] at h
  | cons x l ih =>
    unfold fitsI at h ⊢
    split
    · next h1 => simp [textI]; omega
    · next h1 =>
      rw [if_neg h1] at h
      have := ih (c - colI x) (by simpa using h)
      simp only [List.take_succ_cons, textI] at this ⊢
      omega
theorem fits_mono (l : List Int) (c d : Int) (h : c ≤ d) : fitsI l c ≤ fitsI l d := by
  induction l generalizing c d with
  | nil => simp [fitsI]
  | cons x l ih =>
    unfold fitsI
    split
    · omega
    · rw [if_neg (by omega)]
      have := ih (c - colI x) (d - colI x) (by omega)
      omega

abbrev R32 (l : List Int) : List Value := l.map (.int .i32)

set_option maxHeartbeats 400000 in
theorem Col_any (r : Int) (w : World) (hT : Tab w) :
    Calls Tryd.prog 22 #[.int .i32 r] w fun e w' => e = .returned (.int .i64 (colI r)) ∧ New w w' := by
  have H := Lib.hid hT
  clear hT
  go_enter Tryd.func22, Tryd.ntmps22
  go_wp2_with (go_at_call 7; refine (Of_any r _ H.out).mono ?_; rintro e w1 ⟨rfl, hn⟩; have HN := Lib.hid hn; clear hn)
  all_goals
    go_ret
    refine ⟨ret_int ?_, HN.out⟩
    unfold colI
    omega

set_option maxHeartbeats 1000000 in
theorem Text_any (l : List Int) (n : Nat) (hn : l.length = n) (hl : n ≤ 1000000) (w : World) (hT : Tab w) (b : Nat) (A : Option Addr) (cap : Nat) (hr : Rd w b A n (R32 l)) :
    Calls Tryd.prog 15 #[.slice A n cap] w fun e w' => e = .returned (.int .i64 (textI l)) ∧ New w w' := by
  have H := Lib.hid hT
  have HL := Lib.hid hn
  have HR := Lib.hid hr
  clear hT hn hr
  go_enter Tryd.func15, Tryd.ntmps15
  go_wp2
  go_loopw [3, 8] (fun v i wr => ∃ k : Nat, k ≤ n ∧ v = .int .i64 (textI (l.take k)) ∧ i = .int .i64 k ∧ New w wr) (fun _ i _ => n - (intOf i).toNat)
  case atStart => exact ⟨0, by omega, by simp [textI], rfl, Fr.refl _ _⟩
  case round =>
    obtain ⟨k, hk, rfl, rfl, hnew⟩ := hrel
    have HW := Lib.hid hnew
    clear hnew
    by_cases hlt : k < n
    · obtain ⟨o, hA, hc⟩ := (HR.out.new HW.out).at_ hlt
      subst hA
      have hx := text_take l k (by rw [HL.out]; exact hlt)
      have hb := text_bound (l.take k)
      have hb2 : (l.take k).length ≤ n := by have := HL.out; simp; omega
      obtain ⟨x, hxe⟩ : ∃ x, l.getD k 0 = x := ⟨_, rfl⟩
      have hc1 : wr.cell? ⟨b, o + k, none⟩ = some (.int .i32 x) := by
        rw [hc, ← hxe]
        simp [R32, List.getD, List.getElem?_eq_getElem (show k < l.length by rw [HL.out]; exact hlt)]
      rw [hxe] at hx
      have hcb := col_bound x
      have HX := Lib.hid hx
      clear hx hc hxe
      obtain ⟨s, hs⟩ : ∃ s, textI (l.take k) = s := ⟨_, rfl⟩
      rw [hs] at hb HX
      have HS := Lib.hid hs
      rw [hs]
      clear hs
      obtain ⟨y, hy⟩ : ∃ y, colI x = y := ⟨_, rfl⟩
      have c1 := fun w h => Col_any x w h
      rw [hy] at c1 hcb HX
      clear hy
      have j1 : (k : Int) < (n : Int) := by omega
      obtain ⟨hb1, hb3⟩ := hb
      obtain ⟨hc2, hc3⟩ := hcb
      have hb4 : s ≤ 2000000 := by omega
      clear hb3 hb2
      go_wp2_with (go_at_call 22; refine (c1 _ (H.out.new HW.out)).mono ?_; rintro e w1 ⟨rfl, hn⟩; have HN := Lib.hid hn; clear hn)
      go_roundw
      case rel => exact ⟨k + 1, by omega, by rw [HX.out], by go_num, HW.out.trans HN.out⟩
      case measure => simp [intOf]; omega
    · have j1 : ¬ (k : Int) < (n : Int) := by omega
      have HK : Hid (textI (l.take k) = textI l) := Lib.hid (by rw [List.take_of_length_le (by have := HL.out; omega)])
      go_wp2
      go_ret
      exact ⟨ret_int HK.out, HW.out⟩


theorem fits_neg (l : List Int) (c : Int) (hc : c < 0) : fitsI l c = 0 := by
  cases l with
  | nil => rfl
  | cons x l => unfold fitsI; rw [if_pos (by have := col_bound x; omega)]

set_option maxHeartbeats 1000000 in
theorem Fits_any (l : List Int) (n : Nat) (hn : l.length = n) (hl : n ≤ 1000000) (c : Int) (hc : -9223372036854775808 ≤ c ∧ c ≤ 9223372036854775807) (w : World) (hT : Tab w) (b : Nat) (A : Option Addr) (cap : Nat) (hr : Rd w b A n (R32 l)) :
    Calls Tryd.prog 16 #[.slice A n cap, .int .i64 c] w fun e w' => e = .returned (.int .i64 (fitsI l c)) ∧ New w w' := by
  have H := Lib.hid hT
  have HL := Lib.hid hn
  have HR := Lib.hid hr
  clear hT hn hr
  obtain ⟨hc1, hc2⟩ := hc
  by_cases hneg : c < 0
  · have HF := Lib.hid (fits_neg l c hneg)
    go_enter Tryd.func16, Tryd.ntmps16
    go_wp2
    go_ret
    exact ⟨ret_int (by rw [HF.out]; rfl), Fr.refl _ _⟩
  · go_enter Tryd.func16, Tryd.ntmps16
    go_wp2
    go_loopw [1, 11] (fun v i wr => ∃ (k : Nat) (d : Int), k ≤ n ∧ v = .int .i64 d ∧ i = .int .i64 k ∧ 0 ≤ d ∧ d ≤ 9223372036854775807 ∧ New w wr ∧ Hid (fitsI l c = k + fitsI (l.drop k) d)) (fun _ i _ => n - (intOf i).toNat)
    case atStart => exact ⟨0, c, by omega, rfl, rfl, by omega, by omega, Fr.refl _ _, Lib.hid (by simp)⟩
    case round =>
      obtain ⟨k, d, hk, rfl, rfl, hd0, hd1, hnew, I⟩ := hrel
      have HW := Lib.hid hnew
      clear hnew
      by_cases hlt : k < n
      · obtain ⟨o, hA, hc⟩ := (HR.out.new HW.out).at_ hlt
        subst hA
        obtain ⟨x, hxe⟩ : ∃ x, l.getD k 0 = x := ⟨_, rfl⟩
        have hkl : k < l.length := by rw [HL.out]; exact hlt
        have hx : l[k] = x := by rw [← hxe]; simp [List.getD, List.getElem?_eq_getElem hkl]
        have hc3 : wr.cell? ⟨b, o + k, none⟩ = some (.int .i32 x) := by
          rw [hc, ← hx]
          simp [R32]
        have hdrop : l.drop k = x :: l.drop (k + 1) := by rw [← hx]; exact List.drop_eq_getElem_cons hkl
        have HD : Hid (fitsI l c = k + (if d < colI x then 0 else fitsI (l.drop (k + 1)) (d - colI x) + 1)) := Lib.hid (by rw [I.out, hdrop]; rfl)
        have hcb := col_bound x
        clear hc hxe hx hkl hdrop
        obtain ⟨y, hy⟩ : ∃ y, colI x = y := ⟨_, rfl⟩
        have c1 := fun w h => Col_any x w h
        rw [hy] at c1 hcb HD
        clear hy
        have j1 : (k : Int) < (n : Int) := by omega
        obtain ⟨hc4, hc5⟩ := hcb
        by_cases hfit : d < y
        · rw [if_pos hfit] at HD
          have j2 : d - y < 0 := by omega
          go_wp2_with (go_at_call 22; refine (c1 _ (H.out.new HW.out)).mono ?_; rintro e w1 ⟨rfl, hn⟩; have HN := Lib.hid hn; clear hn)
          go_ret
          exact ⟨ret_int (by rw [HD.out]; rfl), HW.out.trans HN.out⟩
        · rw [if_neg hfit] at HD
          have j2 : ¬ d - y < 0 := by omega
          go_wp2_with (go_at_call 22; refine (c1 _ (H.out.new HW.out)).mono ?_; rintro e w1 ⟨rfl, hn⟩; have HN := Lib.hid hn; clear hn)
          go_roundw
          case rel => exact ⟨k + 1, d - y, by omega, rfl, by go_num, by omega, by omega, HW.out.trans HN.out, Lib.hid (by rw [HD.out]; omega)⟩
          case measure => simp [intOf]; omega
      · have j1 : ¬ (k : Int) < (n : Int) := by omega
        have HK : Hid (fitsI l c = n) := Lib.hid (by rw [I.out, List.drop_of_length_le (by have := HL.out; omega)]; simp [fitsI]; omega)
        go_wp2
        go_ret
        exact ⟨ret_int (by rw [HK.out]), HW.out⟩

end Go.Proofs.YtlfhoiamacbfhaaDoor
