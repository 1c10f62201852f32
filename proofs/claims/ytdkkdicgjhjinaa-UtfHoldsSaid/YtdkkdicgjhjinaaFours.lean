/-
  All that four bytes are.
-/
import Derived.Test.YtdkkdicgjhjinaaDecodes
namespace Go.Proofs.Ytdkkdicgjhjinaa
open Go.RowKit

/-- Place k of the list of lists (block B) holds the list l, which lies in block g. -/
def Six (W : World) (B g k : Nat) (l : List Int) : Prop :=
  Bytes l ∧ l.length ≤ 6 ∧ W.cell? ⟨B, k, none⟩ = some (.slice (some ⟨g, 0, none⟩) l.length l.length) ∧ Rd W g (some ⟨g, 0, none⟩) l.length (B8 l)

theorem Six.new {W W' : World} {B g k : Nat} {l : List Int} (h : Six W B g k l) (hf : New W W') : Six W' B g k l :=
  ⟨h.1, h.2.1, (hf.cell (p := ⟨B, k, none⟩) (World.block_lt_of_cell? W _ h.2.2.1) (fun h => h)).trans h.2.2.1, h.2.2.2.new hf⟩
theorem blk_at {w : World} (t : TypeId) (cs : Array Value) (H : Nat) (hH : w.heap.size = H) : Blk (w.alloc (.cells cs t)) H t cs := by
  subst hH
  exact Blk.new w t cs
theorem bytes_cons {x : Int} {l : List Int} (hx : 0 ≤ x ∧ x < 256) (h : Bytes l) : Bytes (x :: l) := by
  intro y hy
  rcases List.mem_cons.1 hy with rfl | hy
  · exact hx
  · exact h y hy
theorem bytes_nil : Bytes [] := fun _ h => by cases h

theorem six_lit (w : World) (a b c d : Int) (ha : 0 ≤ a ∧ a < 256) (hb : 0 ≤ b ∧ b < 256) (hc : 0 ≤ c ∧ c < 256) (hd : 0 ≤ d ∧ d < 256) :
    ∀ k, k < 5 → ∃ g l, Six ((((((w.alloc (.cells #[.int .u8 a] 5)).alloc (.cells #[.int .u8 a, .int .u8 b] 5)).alloc (.cells #[.int .u8 a, .int .u8 b, .int .u8 c] 5)).alloc (.cells #[.int .u8 a, .int .u8 b, .int .u8 c, .int .u8 d] 5)).alloc (.cells #[.int .u8 120, .int .u8 a, .int .u8 b, .int .u8 c, .int .u8 d, .int .u8 121] 5)).alloc (.cells #[.slice (some ⟨w.heap.size, 0, none⟩) 1 1, .slice (some ⟨w.heap.size + 1, 0, none⟩) 2 2, .slice (some ⟨w.heap.size + 1 + 1, 0, none⟩) 3 3, .slice (some ⟨w.heap.size + 1 + 1 + 1, 0, none⟩) 4 4, .slice (some ⟨w.heap.size + 1 + 1 + 1 + 1, 0, none⟩) 6 6] 22)) (w.heap.size + 1 + 1 + 1 + 1 + 1) g k l := by
  have HB := blk_at (w := (((((w.alloc (.cells #[.int .u8 a] 5)).alloc (.cells #[.int .u8 a, .int .u8 b] 5)).alloc (.cells #[.int .u8 a, .int .u8 b, .int .u8 c] 5)).alloc (.cells #[.int .u8 a, .int .u8 b, .int .u8 c, .int .u8 d] 5)).alloc (.cells #[.int .u8 120, .int .u8 a, .int .u8 b, .int .u8 c, .int .u8 d, .int .u8 121] 5))) 22 #[.slice (some ⟨w.heap.size, 0, none⟩) 1 1, .slice (some ⟨w.heap.size + 1, 0, none⟩) 2 2, .slice (some ⟨w.heap.size + 1 + 1, 0, none⟩) 3 3, .slice (some ⟨w.heap.size + 1 + 1 + 1, 0, none⟩) 4 4, .slice (some ⟨w.heap.size + 1 + 1 + 1 + 1, 0, none⟩) 6 6] (w.heap.size + 1 + 1 + 1 + 1 + 1) (by simp)
  intro k hk
  rcases (by omega : k = 0 ∨ k = 1 ∨ k = 2 ∨ k = 3 ∨ k = 4) with rfl | rfl | rfl | rfl | rfl
  · exact ⟨w.heap.size, [a], bytes_cons ha bytes_nil, by simp, HB.cell 0, ((((((rd_new (w := w) _ _ 1 _ rfl rfl)).new (New.alloc _)).new (New.alloc _)).new (New.alloc _)).new (New.alloc _)).new (New.alloc _)⟩
  · exact ⟨w.heap.size + 1, [a, b], bytes_cons ha (bytes_cons hb bytes_nil), by simp, HB.cell 1, (((((rd_at (w := (w.alloc (.cells #[.int .u8 a] 5))) _ _ 2 _ rfl rfl (w.heap.size + 1) (by simp))).new (New.alloc _)).new (New.alloc _)).new (New.alloc _)).new (New.alloc _)⟩
  · exact ⟨w.heap.size + 1 + 1, [a, b, c], bytes_cons ha (bytes_cons hb (bytes_cons hc bytes_nil)), by simp, HB.cell 2, ((((rd_at (w := ((w.alloc (.cells #[.int .u8 a] 5)).alloc (.cells #[.int .u8 a, .int .u8 b] 5))) _ _ 3 _ rfl rfl (w.heap.size + 1 + 1) (by simp))).new (New.alloc _)).new (New.alloc _)).new (New.alloc _)⟩
  · exact ⟨w.heap.size + 1 + 1 + 1, [a, b, c, d], bytes_cons ha (bytes_cons hb (bytes_cons hc (bytes_cons hd bytes_nil))), by simp, HB.cell 3, (((rd_at (w := (((w.alloc (.cells #[.int .u8 a] 5)).alloc (.cells #[.int .u8 a, .int .u8 b] 5)).alloc (.cells #[.int .u8 a, .int .u8 b, .int .u8 c] 5))) _ _ 4 _ rfl rfl (w.heap.size + 1 + 1 + 1) (by simp))).new (New.alloc _)).new (New.alloc _)⟩
  · exact ⟨w.heap.size + 1 + 1 + 1 + 1, [120, a, b, c, d, 121], bytes_cons (by omega) (bytes_cons ha (bytes_cons hb (bytes_cons hc (bytes_cons hd (bytes_cons (by omega) bytes_nil))))), by simp, HB.cell 4, ((rd_at (w := ((((w.alloc (.cells #[.int .u8 a] 5)).alloc (.cells #[.int .u8 a, .int .u8 b] 5)).alloc (.cells #[.int .u8 a, .int .u8 b, .int .u8 c] 5)).alloc (.cells #[.int .u8 a, .int .u8 b, .int .u8 c, .int .u8 d] 5))) _ _ 6 _ rfl rfl (w.heap.size + 1 + 1 + 1 + 1) (by simp))).new (New.alloc _)⟩

set_option maxHeartbeats 1600000 in
theorem fours_walk0 (a b c d : Int) (ha : 0 ≤ a ∧ a < 256) (hb : 0 ≤ b ∧ b < 256) (hc : 0 ≤ c ∧ c < 256) (hd : 0 ≤ d ∧ d < 256) (w : World) :
    Calls Try.prog 5 #[.int .u8 a, .int .u8 b, .int .u8 c, .int .u8 d] w fun e w' => e = .returned (.bool true) ∧ New w w' := by
  have S := six_lit w a b c d ha hb hc hd
  have N : New w ((((((w.alloc (.cells #[.int .u8 a] 5)).alloc (.cells #[.int .u8 a, .int .u8 b] 5)).alloc (.cells #[.int .u8 a, .int .u8 b, .int .u8 c] 5)).alloc (.cells #[.int .u8 a, .int .u8 b, .int .u8 c, .int .u8 d] 5)).alloc (.cells #[.int .u8 120, .int .u8 a, .int .u8 b, .int .u8 c, .int .u8 d, .int .u8 121] 5)).alloc (.cells #[.slice (some ⟨w.heap.size, 0, none⟩) 1 1, .slice (some ⟨w.heap.size + 1, 0, none⟩) 2 2, .slice (some ⟨w.heap.size + 1 + 1, 0, none⟩) 3 3, .slice (some ⟨w.heap.size + 1 + 1 + 1, 0, none⟩) 4 4, .slice (some ⟨w.heap.size + 1 + 1 + 1 + 1, 0, none⟩) 6 6] 22)) := (New.alloc _).trans ((New.alloc _).trans ((New.alloc _).trans ((New.alloc _).trans ((New.alloc _).trans ((New.alloc _))))))
  clear ha hb hc hd
  go_enter Try.func5, Try.ntmps5
  have S := Lib.hid S
  have N := Lib.hid N
  rename_i S0 N0
  clear S0 N0
  go_wp2_with fail
  generalize ((((((w.alloc (.cells #[.int .u8 a] 5)).alloc (.cells #[.int .u8 a, .int .u8 b] 5)).alloc (.cells #[.int .u8 a, .int .u8 b, .int .u8 c] 5)).alloc (.cells #[.int .u8 a, .int .u8 b, .int .u8 c, .int .u8 d] 5)).alloc (.cells #[.int .u8 120, .int .u8 a, .int .u8 b, .int .u8 c, .int .u8 d, .int .u8 121] 5)).alloc (.cells #[.slice (some ⟨w.heap.size, 0, none⟩) 1 1, .slice (some ⟨w.heap.size + 1, 0, none⟩) 2 2, .slice (some ⟨w.heap.size + 1 + 1, 0, none⟩) 3 3, .slice (some ⟨w.heap.size + 1 + 1 + 1, 0, none⟩) 4 4, .slice (some ⟨w.heap.size + 1 + 1 + 1 + 1, 0, none⟩) 6 6] 22)) = W0 at *
  generalize w.heap.size + 1 + 1 + 1 + 1 + 1 = B5 at *
  go_loopw [32] (fun i wr => ∃ k : Nat, k ≤ 5 ∧ i = .int .i64 k ∧ New W0 wr) (fun i _ => 5 - (intOf i).toNat)
  case atStart => exact ⟨0, by omega, rfl, Fr.refl _ _⟩
  case round =>
    obtain ⟨k, hk, rfl, hnew⟩ := hrel
    have HW := Lib.hid hnew
    clear hnew
    by_cases hlt : k < 5
    · obtain ⟨g, l, h6⟩ := S.out k hlt
      obtain ⟨h1, h2, h3, h4⟩ := h6.new HW.out
      have H1 := Lib.hid h1
      have H4 := Lib.hid h4
      have hdl := decI_len l
      have j1 : (k : Int) < 5 := by omega
      clear h1 h4 h6
      go_wp2_with (first
        | (go_at_call 11; go_must (refine (Decode_n l H1.out _ g _ _ H4.out (by omega)).mono ?_); rintro e w2 ⟨b2, A2, c2, rfl, hr2, hf2⟩; have HR2 := Lib.hid hr2; have HF2 := Lib.hid hf2; clear hr2 hf2)
        | (go_at_call 12; go_must (refine (RDecode_n l H1.out (by omega) _ g _ _ (H4.out.new HF2.out)).mono ?_); rintro e w3 ⟨b3, A3, c3, rfl, hr3, hf3⟩; have HR3 := Lib.hid hr3; have HF3 := Lib.hid hf3; clear hr3 hf3)
        | (go_at_call 10; go_must (refine (Same_n (decI l) (decI l) _ _ rfl rfl _ b2 b3 A2 A3 c2 c3 (HR2.out.new HF3.out) HR3.out (by omega) rfl).mono ?_); rintro e w4 ⟨rfl, hf4⟩; have HF4 : Hid (New W0 w4) := Lib.hid (((HW.out.trans HF2.out).trans HF3.out).trans hf4); clear hf4))
      go_roundw
      case rel => exact ⟨k + 1, by omega, by go_num, HF4.out⟩
      case measure => simp [intOf]; omega
    · go_wp2_with (go_at_call 9; go_must (refine (known_any _).mono ?_); rintro e w5 ⟨rfl, hk5⟩)
      go_ret
      exact ⟨rfl, (N.out.trans HW.out).trans hk5⟩

theorem fours_walk (a0 a1 a2 a3 : Int) (w0 : (Lit.int .u8 a0).wf = true) (w1 : (Lit.int .u8 a1).wf = true) (w2 : (Lit.int .u8 a2).wf = true) (w3 : (Lit.int .u8 a3).wf = true) (w : World) :
    Calls Try.prog 5 #[.int .u8 a0, .int .u8 a1, .int .u8 a2, .int .u8 a3] w fun e w' => e = .returned (.bool true) ∧ Below w.heap.size w w' := by
  have h0 := bounds_u8 w0
  have h1 := bounds_u8 w1
  have h2 := bounds_u8 w2
  have h3 := bounds_u8 w3
  exact (fours_walk0 a0 a1 a2 a3 (by omega) (by omega) (by omega) (by omega) w).mono fun _ _ h => ⟨h.1, h.2.new_below⟩

end Go.Proofs.Ytdkkdicgjhjinaa
