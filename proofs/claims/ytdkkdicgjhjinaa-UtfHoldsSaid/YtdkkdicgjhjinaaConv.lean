/-
  Conversions between strings, bytes and runes; Pending, Copy, Decode, Encode, Valid; Same.
-/
import Derived.Test.YtdkkdicgjhjinaaFeed
import Derived.Laws.Cover4
namespace Go.Proofs.Ytdkkdicgjhjinaa
open Go.RowKit

def R32 (l : List Int) : List Value := l.map (.int .i32)
/-- The bytes of a string, as numbers. -/
def nums (s : ByteArray) : List Int := s.data.toList.map fun b => (b.toNat : Int)
theorem nums_size (s : ByteArray) : (nums s).length = s.size := by unfold nums; rw [List.length_map, Array.length_toList]; rfl
theorem nums_bytes (s : ByteArray) : Bytes (nums s) := by
  intro x hx
  simp only [nums, List.mem_map] at hx
  obtain ⟨b, _, rfl⟩ := hx
  have := b.toNat_lt
  omega
theorem str_nums (t : List Int) (ht : Bytes t) : nums (strOfNums t) = t := by
  unfold nums
  rw [strOfNums_data, List.map_map]
  conv => rhs; rw [← List.map_id t]
  apply List.map_congr_left
  intro x hx
  have := ht x hx
  simp only [Function.comp, UInt8.toNat_ofNat', id]
  omega

theorem conv_runes {w : World} {b n : Nat} {A : Option Addr} {l : List Int} (h : Rd w b A n (R32 l)) (c : Nat) :
    (convert 25 9 (.slice A n c)).run Try.prog w = .ok (.string (runesBytes l)) w := by
  have hn : l.length = n := by simpa [R32] using h.1
  rcases Nat.eq_zero_or_pos n with h0 | hp
  · have hl : l = [] := List.eq_nil_of_length_eq_zero (by omega)
    subst hl h0
    rcases A with _ | a
    · exact run_convert_runes_nil w _ _ _ _ _ Try.underlying25 Try.underlying21 Try.underlying9
    · exact run_convert_runes w _ _ _ a 0 c [] (by simp) Try.underlying25 Try.underlying21 Try.underlying9 (by simp)
  · obtain ⟨o, rfl, _, hc⟩ := h.2 hp
    have := run_convert_runes w _ _ _ ⟨b, o, none⟩ n c l (by omega) Try.underlying25 Try.underlying21 Try.underlying9 (fun j hj => by
      rw [addr_add, hc j (by omega)]
      simp [R32, List.getD, List.getElem?_eq_getElem hj])
    rwa [List.take_of_length_le (by omega)] at this

theorem conv_bytes {w : World} {b n : Nat} {A : Option Addr} {t : List Int} (h : Rd w b A n (B8 t)) (c : Nat) :
    (convert 22 9 (.slice A n c)).run Try.prog w = .ok (.string (strOfNums t)) w := by
  have hn : t.length = n := by simpa [B8] using h.1
  rcases Nat.eq_zero_or_pos n with h0 | hp
  · have hl : t = [] := List.eq_nil_of_length_eq_zero (by omega)
    subst hl h0
    rcases A with _ | a
    · exact run_convert_bytes_nil w _ _ Try.underlying22 Try.underlying5 _ _ _ Try.underlying9
    · have := run_convert_bytes_back (P := Try.prog) w 22 9 5 a c [] Try.underlying22 Try.underlying5 Try.underlying9 (by simp)
      simpa [strOfNums] using this
  · obtain ⟨o, rfl, _, hc⟩ := h.2 hp
    exact run_convert_bytes_arg w _ _ Try.underlying22 Try.underlying5 b o n c t hn (fun i hi => by
      rw [hc i hi]
      simp [B8, List.getD, List.getElem?_eq_getElem (show i < t.length by omega)]) _ Try.underlying9

theorem conv_str (w : World) (s : ByteArray) : ∃ c w', (convert 9 22 (.string s)).run Try.prog w = .ok (.slice (some ⟨w.heap.size, 0, none⟩) s.size c) w' ∧
    Rd w' w.heap.size (some ⟨w.heap.size, 0, none⟩) s.size (B8 (nums s)) ∧ New w w' := by
  refine ⟨_, _, run_bytes_of_string w _ _ _ s Try.underlying9 Try.underlying22 Try.underlying5, ⟨by simp [B8, nums_size], fun _ => ⟨0, rfl, by simp, fun j hj => ?_⟩⟩, ?_⟩
  · have := World.cell?_alloc_mark w.drew (bytesRow s (grownCap w s.size 0 5)) 5 ((bytesRow s (grownCap w s.size 0 5)).size, (bytesRow s (grownCap w s.size 0 5)).size + 1) (0 + j)
    refine this.trans ?_
    rw [Nat.zero_add, bytesRow_at s _ j hj]
    have hj' : j < s.data.toList.length := by simpa using hj
    simp [B8, nums, List.getElem?_eq_getElem hj']
  · exact Fr.alloc (Fr.drew (Fr.refl _ _)) _

/-- The slice v, a row of the call's own among the blocks from base on, holds the bytes t. -/
def Own8 (w : World) (base : Nat) (v : Value) (t : List Int) : Prop := w.ownsRow base 5 1 v t.length (B8 t)
theorem Own8.nil (w : World) (base : Nat) : Own8 w base (.slice none 0 0) [] := World.ownsRow_nil w base 5 1
section
variable {S : Nat → Prop} {w w' : World} {base g : Nat} {v : Value} {t : List Int} {s : List Int}
theorem Own8.fr (h : Own8 w base v t) (hf : Fr S w w') (hn : ∀ k, v.ownBlock = some k → ¬ S k) : Own8 w' base v t := own_fr h hf hn
theorem Own8.new (h : Own8 w base v t) (hf : New w w') : Own8 w' base v t := own_fr h hf (fun _ _ h => h)
theorem Own8.far (h : Own8 w base v t) (hd : Dec w g s) : v.ownBlock ≠ some g := own_far h hd (by decide)
theorem Own8.lt (h : Own8 w base v t) {k : Nat} (hk : v.ownBlock = some k) : base ≤ k ∧ k < w.heap.size := World.ownsRow.lt h k hk
theorem Own8.of {u : List Int} {m : Nat} (h : w.ownsRow base 5 1 v (t.length + m) (B8 t ++ B8 u)) (hm : u.length = m) : Own8 w base v (t ++ u) := by
  subst hm
  unfold Own8
  rw [List.length_append, B8, List.map_append]
  exact h
theorem Own8.rd (h : Own8 w base v t) : ∃ b A c, v = .slice A t.length c ∧ Rd w b A t.length (B8 t) ∧ (∀ k, v.ownBlock = some k → k = b) ∧ (0 < t.length → base ≤ b) := by
  obtain ⟨A, c, rfl, _, _⟩ := own_slice h
  rcases A with _ | a
  · refine ⟨0, none, c, rfl, Rd.of_own h (fun k hk => by simp [Value.ownBlock] at hk), fun k hk => by simp [Value.ownBlock] at hk, fun hn => ?_⟩
    obtain ⟨g, cap, hv, _⟩ := World.ownsRow.form h hn
    injection hv with hv
    cases hv
  · exact ⟨a.block, _, c, rfl, Rd.of_own h (fun k hk => by simpa [Value.ownBlock] using hk.symm), fun k hk => by simpa [Value.ownBlock] using hk.symm, fun _ => (h.lt (k := a.block) rfl).1⟩
theorem Own32.new {l : List Int} (h : Own32 w base v l) (hf : New w w') : Own32 w' base v l := own_fr h hf (fun _ _ h => h)
theorem Own32.low {l : List Int} {base' : Nat} (h : Own32 w base v l) (hb : base' ≤ base) : Own32 w base' v l := own_base h (fun _ hk => Nat.le_trans hb (h.lt hk).1)
theorem Own8.low {base' : Nat} (h : Own8 w base v t) (hb : base' ≤ base) : Own8 w base' v t := own_base h (fun _ hk => Nat.le_trans hb (h.lt hk).1)
theorem Own32.rd {l : List Int} (h : Own32 w base v l) : ∃ b A c, v = .slice A l.length c ∧ Rd w b A l.length (R32 l) ∧ (∀ k, v.ownBlock = some k → k = b) ∧ (0 < l.length → base ≤ b) := by
  obtain ⟨A, c, rfl, _, _⟩ := own_slice h
  rcases A with _ | a
  · refine ⟨0, none, c, rfl, Rd.of_own h (fun k hk => by simp [Value.ownBlock] at hk), fun k hk => by simp [Value.ownBlock] at hk, fun hn => ?_⟩
    obtain ⟨g, cap, hv, _⟩ := World.ownsRow.form h hn
    injection hv with hv
    cases hv
  · exact ⟨a.block, _, c, rfl, Rd.of_own h (fun k hk => by simpa [Value.ownBlock] using hk.symm), fun k hk => by simpa [Value.ownBlock] using hk.symm, fun _ => (h.lt (k := a.block) rfl).1⟩
end

theorem Dec.rd {w : World} {g : Nat} {s : List Int} (h : Dec w g s) (hs : s.length ≤ 4) : Rd w g (some ⟨g, 0, none⟩) s.length (B8 s) := by
  refine Rd.of_blk h 0 (by simp [B8]) (fun j hj => ?_)
  match s, hs, j, hj with
  | [_], _, 0, _ => rfl
  | [_, _], _, 0, _ => rfl
  | [_, _], _, 1, _ => rfl
  | [_, _, _], _, 0, _ => rfl
  | [_, _, _], _, 1, _ => rfl
  | [_, _, _], _, 2, _ => rfl
  | [_, _, _, _], _, 0, _ => rfl
  | [_, _, _, _], _, 1, _ => rfl
  | [_, _, _, _], _, 2, _ => rfl
  | [_, _, _, _], _, 3, _ => rfl

end Go.Proofs.Ytdkkdicgjhjinaa
