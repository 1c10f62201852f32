/-
  Colors and pens as numbers: which ones there are, their bits and words, and the colors and pens with bits and words.
-/
import Derived.Laws.BitsLemmas
import Derived.Laws.Bits64
namespace Go.Proofs.YtjcpdldaimebbaaDoor

structure Co where
  k : Int
  i : Int
  r : Int
  g : Int
  b : Int
structure Pn where
  fore : Co
  back : Co
  fl : Int

instance : DecidableEq Co := fun a c => decidable_of_iff (a.k = c.k ∧ a.i = c.i ∧ a.r = c.r ∧ a.g = c.g ∧ a.b = c.b) (by cases a; cases c; simp)
instance : DecidableEq Pn := fun a c => decidable_of_iff (a.fore = c.fore ∧ a.back = c.back ∧ a.fl = c.fl) (by cases a; cases c; simp)

/-- The parts are what their types allow. -/
structure Co.Ok (c : Co) : Prop where
  k0 : -9223372036854775808 ≤ c.k
  k1 : c.k ≤ 9223372036854775807
  i0 : 0 ≤ c.i
  i1 : c.i ≤ 255
  r0 : 0 ≤ c.r
  r1 : c.r ≤ 255
  g0 : 0 ≤ c.g
  g1 : c.g ≤ 255
  b0 : 0 ≤ c.b
  b1 : c.b ≤ 255
structure Pn.Ok (p : Pn) : Prop where
  fore : p.fore.Ok
  back : p.back.Ok
  f0 : 0 ≤ p.fl
  f1 : p.fl ≤ 255

abbrev zeroC : Co := ⟨0, 0, 0, 0, 0⟩
abbrev zeroP : Pn := ⟨zeroC, zeroC, 0⟩
theorem zeroC_ok : zeroC.Ok := by constructor <;> decide
theorem zeroP_ok : zeroP.Ok := ⟨zeroC_ok, zeroC_ok, by decide, by decide⟩

def colB (c : Co) : Bool :=
  if c.k = 0 then decide (c.i = 0 ∧ c.r = 0 ∧ c.g = 0 ∧ c.b = 0)
  else if c.k = 1 then decide (c.r = 0 ∧ c.g = 0 ∧ c.b = 0)
  else if c.k = 2 then decide (c.i = 0) else false
def bitsI (c : Co) : Int :=
  if c.k = 1 then 16777216 + c.i else if c.k = 2 then 33554432 + 65536 * c.r + 256 * c.g + c.b else 0
def colW (x : Int) : Co :=
  if x / 16777216 = 1 then ⟨1, x % 256, 0, 0, 0⟩ else if x / 16777216 = 2 then ⟨2, 0, x / 65536 % 256, x / 256 % 256, x % 256⟩ else zeroC
def validB (p : Pn) : Bool := colB p.fore && colB p.back
def wordI (p : Pn) : Int := bitsI p.fore + 67108864 * bitsI p.back + 4503599627370496 * p.fl
def penW (x : Int) : Pn := ⟨colW (x % 67108864), colW (x / 67108864 % 67108864), x / 4503599627370496 % 256⟩

theorem colB_cases {c : Co} (h : colB c = true) : (c = zeroC) ∨ (c = ⟨1, c.i, 0, 0, 0⟩) ∨ (c = ⟨2, 0, c.r, c.g, c.b⟩) := by
  obtain ⟨k, i, r, g, b⟩ := c
  simp only [colB] at h
  split at h
  · left; simp at h; simp_all
  · split at h
    · right; left; simp at h; simp_all
    · split at h
      · right; right; simp at h; simp_all
      · cases h

theorem bits_lt {c : Co} (h : c.Ok) : 0 ≤ bitsI c ∧ bitsI c < 67108864 := by
  have := h.i0; have := h.i1; have := h.r0; have := h.r1; have := h.g0; have := h.g1; have := h.b0; have := h.b1
  unfold bitsI
  split
  · omega
  · split <;> omega

theorem colW_ok (x : Int) : (colW x).Ok := by
  unfold colW
  split
  · constructor <;> simp <;> omega
  · split
    · constructor <;> simp <;> omega
    · exact zeroC_ok
theorem colB_colW (x : Int) : colB (colW x) = true := by
  unfold colW
  split
  · simp [colB]
  · split
    · simp [colB]
    · decide
theorem penW_ok (x : Int) : (penW x).Ok := ⟨colW_ok _, colW_ok _, by simp only [penW]; omega, by simp only [penW]; omega⟩
theorem validB_penW (x : Int) : validB (penW x) = true := by simp [validB, penW, colB_colW]

theorem colW_bits {c : Co} (h : c.Ok) (hv : colB c = true) : colW (bitsI c) = c := by
  have := h.i0; have := h.i1; have := h.r0; have := h.r1; have := h.g0; have := h.g1; have := h.b0; have := h.b1
  rcases colB_cases hv with e | e | e <;> rw [e]
  · decide
  · have hb : bitsI ⟨1, c.i, 0, 0, 0⟩ = 16777216 + c.i := by simp [bitsI]
    rw [hb]
    unfold colW
    rw [if_pos (by omega)]
    simp only [Co.mk.injEq, and_true, true_and]
    omega
  · have hb : bitsI ⟨2, 0, c.r, c.g, c.b⟩ = 33554432 + 65536 * c.r + 256 * c.g + c.b := by simp [bitsI]
    rw [hb]
    unfold colW
    rw [if_neg (by omega), if_pos (by omega)]
    simp only [Co.mk.injEq, true_and]
    refine ⟨?_, ?_, ?_⟩ <;> omega

theorem penW_word {p : Pn} (h : p.Ok) (hv : validB p = true) : penW (wordI p) = p := by
  obtain ⟨hv1, hv2⟩ := Bool.and_eq_true _ _ ▸ hv
  have b1 := bits_lt h.fore
  have b2 := bits_lt h.back
  have := h.f0; have := h.f1
  have e1 : wordI p % 67108864 = bitsI p.fore := by unfold wordI; omega
  have e2 : wordI p / 67108864 % 67108864 = bitsI p.back := by unfold wordI; omega
  have e3 : wordI p / 4503599627370496 % 256 = p.fl := by unfold wordI; omega
  unfold penW
  rw [e1, e2, e3, colW_bits h.fore hv1, colW_bits h.back hv2]
theorem word_lt {p : Pn} (h : p.Ok) : 0 ≤ wordI p ∧ wordI p < 1152921504606846976 := by
  have b1 := bits_lt h.fore
  have b2 := bits_lt h.back
  have := h.f0; have := h.f1
  unfold wordI
  omega
theorem word_inj {p q : Pn} (hp : p.Ok) (hq : q.Ok) (vp : validB p = true) (vq : validB q = true) (h : wordI p = wordI q) : p = q := by
  rw [← penW_word hp vp, ← penW_word hq vq, h]

theorem u64_wraps (n : Int) (h0 : 0 ≤ n) (h1 : n < 2 ^ 64) : IntKind.u64.wrap n = n := by rw [IntKind.wrap_u64]; omega
theorem or64 (i : Nat) (x y : Int) (hx0 : 0 ≤ x) (hx : x % 2 ^ i = 0) (hx1 : x < 18446744073709551616) (hy0 : 0 ≤ y) (hy : y < 2 ^ i) (hy1 : y < 18446744073709551616) : bits .or .u64 x y = x + y :=
  bits_join .u64 64 (by decide) u64_wraps i x y hx0 hx (by simpa using hx1) hy0 hy (by simpa using hy1)
theorem or64' (i : Nat) (x y : Int) (hx0 : 0 ≤ x) (hx : x % 2 ^ i = 0) (hx1 : x < 18446744073709551616) (hy0 : 0 ≤ y) (hy : y < 2 ^ i) (hy1 : y < 18446744073709551616) : bits .or .u64 y x = y + x := by
  have e : bits .or .u64 y x = bits .or .u64 x y := by simp only [bits, BitVec.or_comm]
  rw [e, or64 i x y hx0 hx hx1 hy0 hy hy1, Int.add_comm]
theorem and64 (i : Nat) (hi : i ≤ 64) (x : Int) (h0 : 0 ≤ x) (h1 : x < 18446744073709551616) : bits .and .u64 x (2 ^ i - 1) = x % 2 ^ i :=
  bits_mask .u64 64 (by decide) u64_wraps i hi x h0 (by simpa using h1)

/-- A flag is one of eight numbers. -/
def flagB (f : Int) : Bool := decide (f = 1 ∨ f = 2 ∨ f = 4 ∨ f = 8 ∨ f = 16 ∨ f = 32 ∨ f = 64 ∨ f = 128)
def flagAt (n : Nat) : Int := 2 ^ n
theorem flag_cases {f : Int} (h : flagB f = true) : ∃ n, n < 8 ∧ f = flagAt n := by
  simp only [flagB, decide_eq_true_eq] at h
  rcases h with h | h | h | h | h | h | h | h <;> subst h
  · exact ⟨0, by decide, rfl⟩
  · exact ⟨1, by decide, rfl⟩
  · exact ⟨2, by decide, rfl⟩
  · exact ⟨3, by decide, rfl⟩
  · exact ⟨4, by decide, rfl⟩
  · exact ⟨5, by decide, rfl⟩
  · exact ⟨6, by decide, rfl⟩
  · exact ⟨7, by decide, rfl⟩

end Go.Proofs.YtjcpdldaimebbaaDoor
