/-
  The bytes of any runes, and which numbers are runes.
-/
import Derived.Test.YtdkkdicgjhjinaaEnc
import Derived.Deep.RegionWith
import Derived.Deep.DeepMust
namespace Go.Proofs.Ytdkkdicgjhjinaa
open Go.RowKit

set_option maxHeartbeats 800000 in
theorem encodes_long (A : Option Addr) (n cap : Nat) (hn : 100 < n) (w : World) :
    Calls Try.prog 6 #[.slice A n cap] w fun e w' => e = .returned (.bool true) ∧ New w w' := by
  have h1 : (100 : Int) < (n : Int) := by omega
  go_enter Try.func6, Try.ntmps6
  go_wp2_with (go_at_call 9; refine (known_any _).mono ?_; rintro e w1 ⟨rfl, hk⟩)
  go_ret
  exact ⟨rfl, hk⟩

theorem own_of_nil32 {w : World} {base : Nat} {v : Value} {l : List Int} (h : w.ownsRow base 21 1 v (0 + l.length) ([] ++ R32 l)) : Own32 w base v l := by
  rw [Nat.zero_add, List.nil_append] at h
  exact h
theorem own_of_nil8 {w : World} {base : Nat} {v : Value} {l : List Int} (h : w.ownsRow base 5 1 v (0 + l.length) ([] ++ B8 l)) : Own8 w base v l := by
  rw [Nat.zero_add, List.nil_append] at h
  exact h

theorem apart {w : World} {base base' : Nat} {v v' : Value} {l t : List Int} (h : Own32 w base v l) (h' : Own8 w base' v' t) {k : Nat} (hk : v.ownBlock = some k) : v'.ownBlock ≠ some k := by
  rcases h.2 with ⟨rfl, _⟩ | ⟨g, cap, cur, rfl, _, hh, _⟩
  · simp [Value.ownBlock] at hk
  · have hgk : g = k := by simpa [Value.ownBlock] using hk
    subst hgk
    exact own_far h' (g := g) (t := 21) (cs := cur) hh (by decide)

def EncRel (w : World) (l : List Int) (own : Value) (k : Nat) (v : Value) (wr : World) : Prop :=
  Own8 wr w.heap.size v (encL (l.take k)) ∧ Own32 wr w.heap.size own l ∧ New w wr

theorem encL_snoc (l : List Int) (k : Nat) (hk : k < l.length) : encL (l.take (k + 1)) = encL (l.take k) ++ encV l[k] := by
  unfold encL
  rw [List.take_succ_eq_append_getElem hk, List.flatMap_append, List.flatMap_cons, List.flatMap_nil, List.append_nil]
theorem encL_len (l : List Int) : (encL l).length ≤ 4 * l.length := by
  induction l with
  | nil => simp [encL]
  | cons r l ih =>
    have := encV_len r
    simp only [encL, List.flatMap_cons, List.length_append, List.length_cons] at *
    omega

theorem strOf_enc (l : List Int) : strOfNums (encL l) = runesBytes l := by rw [← nums_runes, str_of_nums]
theorem Own8.conv {w : World} {base : Nat} {v : Value} {t : List Int} (h : Own8 w base v t) : (convert 22 9 v).run Try.prog w = .ok (.string (strOfNums t)) w := by
  obtain ⟨b, A, c, rfl, hr, _⟩ := h.rd
  exact conv_bytes hr c
theorem EncRel.drew {w : World} {l : List Int} {own v : Value} {k : Nat} {wr : World} (h : EncRel w l own k v wr) : EncRel w l own k v wr.drew := ⟨h.1, h.2.1, h.2.2.drew⟩
theorem EncRel.done {w : World} {l : List Int} {own v : Value} {wr : World} (h : EncRel w l own l.length v wr) : (convert 22 9 v).run Try.prog wr = .ok (.string (runesBytes l)) wr := by
  have := h.1
  rw [List.take_length] at this
  rw [this.conv, strOf_enc]

theorem EncRel.next {w : World} {l : List Int} {own v v' : Value} {k : Nat} {wr w1 w' : World} (h : EncRel w l own k v wr) (hk : k < l.length) (hf : New wr w1) {n : Nat} (hn : n = (encV l[k]).length)
    (ho : w'.ownsRow w.heap.size 5 1 v' ((encL (l.take k)).length + n) (B8 (encL (l.take k)) ++ B8 (encV l[k]))) (hg : w1.grownBy w' v.ownBlock) : EncRel w l own (k + 1) v' w' := by
  obtain ⟨h1, h2, h3⟩ := h
  refine ⟨?_, ?_, ?_⟩
  · rw [encL_snoc l k hk]
    exact Own8.of ho hn.symm
  · have f : Fr (fun j => v.ownBlock = some j) wr w' := Fr.grown (hf.of_new _) hg (fun j hj => .inl hj)
    exact h2.fr f (fun j hj => apart h2 h1 hj)
  · refine Fr.trans h3 (Fr.grown (S := fun j => v.ownBlock = some j) (hf.of_new _) hg (fun j hj => .inl hj)) (fun i hi hv => ?_)
    have := (h1.lt hv).1
    omega

set_option maxHeartbeats 1600000 in
theorem encodes_short (l : List Int) (A : Option Addr) (b cap : Nat) (w : World) (hr : Rd w b A l.length (R32 l)) (hn : l.length ≤ 100) :
    Calls Try.prog 6 #[.slice A l.length cap] w fun e w' => e = .returned (.bool true) ∧ New w w' := by
  have h1 : ¬ (100 : Int) < (l.length : Int) := by omega
  have HR := Lib.hid hr
  clear hr
  go_enter Try.func6, Try.ntmps6
  go_wp2_with (at_builtin; go_must (refine app32 rfl _ _ rfl w.heap.size (.slice none 0 0) 0 [] rfl (World.ownsRow_nil _ _ _ _) b A l.length cap (R32 l) rfl HR.out (by simp [R32, Value.oneCell']) (by omega) (Nat.le_refl _) ?_); go_must (intro v1 w1 hown1 hg1 _); go_must (have ho1 : Own32 w1 w.heap.size v1 l := own_of_nil32 hown1); have HO := Lib.hid ho1; go_must (have hn1 : New w w1 := Fr.grown (Fr.refl _ _) hg1 (by simp [Value.ownBlock])); have HN := Lib.hid hn1; clear ho1 hown1 hg1 hn1)
  go_loopw [3, 15] (fun v i wr => ∃ k : Nat, k ≤ l.length ∧ i = .int .i64 k ∧ EncRel w l v1 k v wr) (fun _ i _ => l.length - (intOf i).toNat)
  case atStart => exact ⟨0, Nat.zero_le _, rfl, Own8.nil _ _, HO.out, HN.out⟩
  case round =>
    obtain ⟨k, hk, rfl, hrel⟩ := hrel
    have HE := Lib.hid hrel
    clear hrel
    by_cases hlt : k < l.length
    · obtain ⟨o, rfl, hc⟩ := (HR.out.new HE.out.2.2).at_ hlt
      have hc' : wr.cell? ⟨b, o + k, none⟩ = some (.int .i32 l[k]) := by simpa [R32] using hc
      have hle : (encL (l.take k)).length ≤ 400 := by
        have := encL_len (l.take k)
        rw [List.length_take] at this
        omega
      have hl4 := encV_len l[k]
      have hz : w.heap.size ≤ wr.heap.size := HE.out.2.2.size
      clear hc
      go_wp2_with (first
        | (go_at_call 18; refine (Valid_any _ _).mono ?_; rintro e w' ⟨rfl, rfl⟩)
        | (go_at_call 19; refine (RValid_any _ _).mono ?_; rintro e w' ⟨rfl, rfl⟩)
        | (go_at_call 20; refine (Bytes_any _ _).mono ?_; rintro e w2 ⟨n, rfl, hn2, hr2, hf2⟩; have HN2 := Lib.hid hn2; have HR2 := Lib.hid hr2; have HF2 := Lib.hid hf2; have hnb : n ≤ 4 := (by rw [hn2]; exact hl4); clear hn2 hr2 hf2)
        | (at_builtin; go_must (refine app8 rfl _ _ rfl w.heap.size u3 (encL (l.take k)).length (B8 (encL (l.take k))) rfl (HE.out.1.new HF2.out) wr.heap.size _ n n (B8 (encV l[k])) rfl HR2.out (by simp [B8, Value.oneCell']) (by omega) (Nat.le_trans hz HF2.out.size) ?_); intro v3 w3 hown3 hg3 _; have HX := Lib.hid (HE.out.next hlt HF2.out HN2.out hown3 hg3); clear hown3 hg3))
      go_roundw
      case rel => exact ⟨k + 1, by omega, by go_num, HX.out⟩
      case measure => simp [intOf]; omega
    · obtain rfl : k = l.length := by omega
      obtain ⟨b1, A1, c1, rfl, hr1, _⟩ := HE.out.2.1.rd
      have HR1 := Lib.hid hr1
      have hcv : (convert 22 9 u3).run Try.prog wr.drew = .ok (.string (runesBytes l)) wr.drew := EncRel.done HE.out.drew
      clear hr1
      go_wp2_with fail
      go_region_with (first
        | (go_at_call 21; go_must (refine (Encode_any l _ b1 A1 c1 HR1.out.drew).mono ?_); rintro e w5 ⟨c5, rfl, hr5, hf4⟩; have hf5 : New wr w5 := New.trans (Fr.drew (Fr.refl _ wr)) hf4; clear hf4; have hcv5 : (convert 22 9 (.slice (some ⟨wr.heap.size, 0, none⟩) (runesBytes l).size c5)).run Try.prog w5 = .ok (.string (runesBytes l)) w5 := conv_back hr5 c5; have hcv6 : (convert 22 9 u3).run Try.prog w5 = .ok (.string (runesBytes l)) w5 := EncRel.done ⟨HE.out.1.new hf5, HE.out.2.1.new hf5, HE.out.2.2.trans hf5⟩; have HF5 : Hid (New wr w5) := Lib.hid hf5; clear hr5 hf5)
        | (go_at_call 10; go_must (refine (Same_n l l _ _ rfl rfl _ b1 b A1 A c1 cap (HR1.out.new HF5.out) (HR.out.new (HE.out.2.2.trans HF5.out)) (by omega) rfl).mono ?_); rintro e w6 ⟨rfl, hf6⟩; have HF6 := Lib.hid hf6; clear hf6)
        | (go_at_call 9; go_must (refine (known_any _).mono ?_); rintro e w7 ⟨rfl, hf7⟩; have HF7 := Lib.hid hf7; clear hf7))
      all_goals go_wp2
      all_goals
        go_ret
        exact ⟨rfl, ((HE.out.2.2.trans HF5.out).trans HF6.out).trans HF7.out⟩

theorem encodes_walk (a0 : Option Addr) (len0 cap0 : Nat) (z0 : List Int) (w : World) (w0 : RowIn .i32 w a0 len0 cap0 z0) :
    Calls Try.prog 6 #[.slice a0 len0 cap0] w fun e w' => e = .returned (.bool true) ∧ Below w.heap.size w w' := by
  obtain ⟨t, b, rfl, _, hr⟩ := w0.runes
  by_cases hn : t.length ≤ 100
  · exact (encodes_short t a0 b cap0 w hr hn).mono fun _ _ h => ⟨h.1, h.2.new_below⟩
  · exact (encodes_long a0 t.length cap0 (by omega) w).mono fun _ _ h => ⟨h.1, h.2.new_below⟩

end Go.Proofs.Ytdkkdicgjhjinaa
