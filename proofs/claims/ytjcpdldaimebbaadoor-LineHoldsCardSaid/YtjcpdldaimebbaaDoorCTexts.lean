/-
  The text of several cells: the specification's.
-/
import Derived.Test.YtjcpdldaimebbaaDoorCText
import Derived.Test.YtjcpdldaimebbaaDoorCList
namespace Go.Proofs.YtjcpdldaimebbaaDoor
open Go.RowKit

def textsC (l : List Ce) : List Int := l.flatMap textC
theorem textC_len (c : Ce) : (textC c).length ≤ 4 := by
  unfold textC marksI
  split
  · simp
  · split
    · simp
    · simp only [List.length_cons, List.length_append]
      repeat' split
      all_goals simp
theorem textsC_len (l : List Ce) : (textsC l).length ≤ 4 * l.length := by
  induction l with
  | nil => simp [textsC]
  | cons c l ih =>
    have := textC_len c
    simp only [textsC, List.flatMap_cons, List.length_append, List.length_cons] at ih ⊢
    omega
theorem textsC_step {l : List Ce} {k : Nat} {x : Ce} (h : k < l.length) (e : l[k] = x) : textsC (l.take (k + 1)) = textsC (l.take k) ++ textC x := by
  rw [List.take_add_one, List.getElem?_eq_getElem h, e]
  simp [textsC]
theorem texts_size (l : List Ce) (k : Nat) : (runesBytes (textsC (l.take k))).size ≤ 16 * k := by
  have h1 := runesBytes_size_le (textsC (l.take k))
  have h2 := textsC_len (l.take k)
  have h3 : (l.take k).length ≤ k := by rw [List.length_take]; omega
  omega

set_option maxHeartbeats 6400000 in
theorem RTexts_any (l : List Ce) (n b cap : Nat) (A : Option Addr) (w : World) (hr : RdC w b A n l) (hlim : n ≤ 1000000) :
    Calls Tryd.prog 45 #[.slice A n cap] w fun e w' => e = .returned (.string (runesBytes (textsC l))) ∧ New w w' := by
  have HR := Lib.hid hr
  have HL := Lib.hid hr.1
  clear hr
  go_enter Tryd.func45, Tryd.ntmps45
  go_wp2_with fail
  go_loopw [3, 4] (fun v i wr => ∃ (k : Nat) (s : ByteArray), k ≤ n ∧ i = .int .i64 k ∧ v = .string s ∧ s = runesBytes (textsC (l.take k)) ∧ New w wr) (fun _ i _ => n - (intOf i).toNat)
  case atStart => exact ⟨0, _, by omega, rfl, rfl, rfl, Fr.refl _ _⟩
  case round =>
    obtain ⟨k, s, hk, rfl, rfl, hs, hn⟩ := hrel
    have HN := Lib.hid hn
    have HS := Lib.hid hs
    have hsz : s.size ≤ 16 * k := by rw [hs]; exact texts_size l k
    clear hn hs
    by_cases hkn : k < n
    · obtain ⟨o, hA⟩ := HR.out.base (by omega)
      subst hA
      have hkl : k < l.length := by rw [HL.out]; exact hkn
      obtain ⟨x, hx⟩ : ∃ x, l[k] = x := ⟨_, rfl⟩
      have HX := Lib.hid hx
      obtain ⟨d0, d1, d2, d3, d4, d5, d6, d7, d8, d9, d10, d11, d12, d13, d14, d15⟩ := hx ▸ (HR.out.new HN.out).at_ hkn
      obtain ⟨u, hu⟩ : ∃ u, runesBytes (textC x) = u := ⟨_, rfl⟩
      have husz : u.size ≤ 16 := by
        have h1 := runesBytes_size_le (textC x)
        have h2 := textC_len x
        rw [← hu]
        omega
      have C := fun w => RText_any x w
      rw [hu] at C
      have HU := Lib.hid hu
      clear hx hu
      go_wp2_with fail
      refine (C _).mono ?_
      rintro e w1 ⟨rfl, hn⟩
      have HN := Lib.hid (HN.out.trans hn)
      clear hn C
      go_wp2_with fail
      go_roundw
      case rel => exact ⟨k + 1, s ++ u, by omega, by go_num, rfl, by rw [textsC_step hkl HX.out, runesBytes_append, HS.out, HU.out], HN.out⟩
      case measure => simp [intOf]; omega
    · go_wp2_with fail
      go_ret
      obtain rfl : k = n := by omega
      exact ⟨ret_str (by rw [HS.out, List.take_of_length_le (by rw [HL.out]; omega)]), HN.out⟩

end Go.Proofs.YtjcpdldaimebbaaDoor
