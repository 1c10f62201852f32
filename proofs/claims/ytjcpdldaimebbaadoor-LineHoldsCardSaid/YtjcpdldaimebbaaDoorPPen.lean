/-
  Pens: which ones there are, their words, and the pens with words.
-/
import Derived.Test.YtjcpdldaimebbaaDoorPCol
import Derived.Test.YtjcpdldaimebbaaDoorPValid
namespace Go.Proofs.YtjcpdldaimebbaaDoor
open Go.RowKit




theorem Pn.Ok.word_bounds {p : Pn} (hp : p.Ok) : 0 ≤ bitsI p.fore ∧ bitsI p.fore < 67108864 ∧ 0 ≤ bitsI p.back ∧ bitsI p.back < 67108864 ∧ 0 ≤ p.fl ∧ p.fl ≤ 255 :=
  ⟨(bits_lt hp.fore).1, (bits_lt hp.fore).2, (bits_lt hp.back).1, (bits_lt hp.back).2, hp.f0, hp.f1⟩
theorem word_or {p : Pn} (hp : p.Ok) : bits .or .u64 (bits .or .u64 (bitsI p.fore) (bitsI p.back * 67108864)) (p.fl * 4503599627370496) = wordI p := by
  obtain ⟨a0, a1, b0, b1, c0, c1⟩ := hp.word_bounds
  have e1 : bits .or .u64 (bitsI p.fore) (bitsI p.back * 67108864) = bitsI p.fore + bitsI p.back * 67108864 := or64' 26 _ _ (by omega) (by omega) (by omega) (by omega) (by omega) (by omega)
  rw [e1, or64' 52 _ _ (by omega) (by omega) (by omega) (by omega) (by omega) (by omega)]
  unfold wordI
  omega

theorem ret_pen2 {p q : Pn} {k : IntKind} {a b : Int} (h : p = q) (h2 : a = b) : Ending.returned (.tuple #[p.v, .int k a]) = .returned (.tuple #[q.v, .int k b]) := by rw [h, h2]

theorem zeros (w : World) : Blk (w.alloc (.cells zeroP.cs 58)) w.heap.size 58 zeroP.cs := Blk.new w _ _

end Go.Proofs.YtjcpdldaimebbaaDoor
