/-
  Pens: which ones there are, their words, and the pens with words.
-/
import Derived.Test.YtlpjhaghphmbeaaDoorA1
namespace Go.Proofs.YtlpjhaghphmbeaaDoor
open Go.RowKit




theorem Pn.Ok.word_bounds {p : Pn} (hp : p.Ok) : 0 ≤ bitsI p.fore ∧ bitsI p.fore < 67108864 ∧ 0 ≤ bitsI p.back ∧ bitsI p.back < 67108864 ∧ 0 ≤ p.fl ∧ p.fl ≤ 255 :=
  ⟨(bits_lt hp.fore).1, (bits_lt hp.fore).2, (bits_lt hp.back).1, (bits_lt hp.back).2, hp.f0, hp.f1⟩
end Go.Proofs.YtlpjhaghphmbeaaDoor
