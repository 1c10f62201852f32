/-
  What CellHolds needs of cells with marks and of rows of the call's own.
-/
import Derived.Test.YtciifgajnblenaaDoorHRn
import Derived.Test.YtciifgajnblenaaDoorDMark
import Derived.Test.YtciifgajnblenaaDoorDOf
namespace Go.Proofs.YtciifgajnblenaaDoor
open Go.RowKit

theorem Env.wantU {N : Nat} {F : List (Nat × Value)} {a : Act} (he : Env N F a) {ops : Array Oper} {o oj : Oper} {j k : Nat} {b : Bool} (h : o.guard = some (j, b)) (hj : ops[j]? = some oj) (hd : oj.dst = some k) (hk : Nat.blt k N = true) (hv : lk F k = some undef) : Region.wanted o (yielded ops a.tmps) = false := by
  have hk' : k < a.tmps.size := by rw [he.sz]; simpa [Nat.blt_eq] using hk
  have h1 : a.tmps[k]? = some undef := by
    have hv' := he.ev _ _ hv
    rw [Array.getElem?_eq_getElem hk']
    simp only [Act.eval, Array.getD, hk', dif_pos] at hv'
    exact congrArg some hv'
  simp [Region.wanted, h, yielded, hj, hd, h1, undef]
theorem CMarkK (c : Ce) (m : Int) (x : Ce) (no : Int) (h : markR c m = (x, no)) (w : World) (hT : Tab w) : CMarkSaid c m x no w := by
  have := CMark_any c m w hT
  rwa [h] at this
theorem encode_pos (m : Int) : 0 < (Utf8.encode m).size := by
  unfold Utf8.encode
  simp only
  repeat' split
  all_goals simp [ByteArray.size]
theorem mark_facts {d x : Ce} {m : Int} (h : markR d m = (x, 0)) (hd : cellB d = true) (hr : d.r ≠ 0) :
    cellB x = true ∧ x.r ≠ 0 ∧ nM x = nM d + 1 ∧ (runesBytes (textC d)).size < (runesBytes (textC x)).size := by
  unfold markR at h
  by_cases h1 : cellB d = false ∨ ofI m ≠ 0
  · rw [if_pos h1] at h
    simp at h
  rw [if_neg h1, if_neg hr] at h
  have hm : ofI m = 0 := by
    by_cases hm : ofI m = 0
    · exact hm
    · exact absurd (.inr hm) h1
  by_cases h3 : nM d = 3
  · rw [if_pos h3] at h
    simp at h
  rw [if_neg h3] at h
  simp only [Prod.mk.injEq, and_true] at h
  subst h
  obtain ⟨g1, g2, g3⟩ := mark_valid hd hm hr h3
  refine ⟨g1, by rw [g3]; exact hr, g2, ?_⟩
  have hm0 := of_ne hm
  have ht : textC (setM d m) = textC d ++ [m] := by
    have hw : d.wd ≠ 0 := by
      intro hw
      simp [cellB, hw, hr] at hd
    have hok : okM d = true := by
      simp only [cellB, Bool.and_eq_true] at hd
      exact hd.1.2
    obtain ⟨r, m0, m1, m2, wd, p⟩ := d
    simp only at hw hr
    unfold nM at h3
    unfold okM at hok
    unfold setM
    by_cases a : m0 = 0
    · subst a
      simp_all [textC, marksI]
    · by_cases b : m1 = 0
      · subst b
        simp_all [textC, marksI]
      · by_cases c : m2 = 0
        · subst c
          simp_all [textC, marksI]
        · simp_all
  rw [ht, runesBytes_append, ByteArray.size_append]
  have : runesBytes [m] = ByteArray.empty ++ Utf8.encode m := rfl
  rw [this, ByteArray.size_append]
  have := encode_pos m
  omega
theorem of_first (r : Int) (p : Pn) (h : 1 ≤ ofI r) (hp : validB p = true) : cellB ⟨r, 0, 0, 0, ofI r, p⟩ = true ∧ r ≠ 0 ∧ nM ⟨r, 0, 0, 0, ofI r, p⟩ = 0 ∧ rowB (ofL r p) = true := by
  have h2 : ofI r ≤ 2 := by
    rcases ofI_cases r with q | q | q | q <;> omega
  have hr : r ≠ 0 := by
    rintro rfl
    rw [of_zero] at h
    omega
  have hrow := of_row hp h h2
  have hall : (ofL r p).all cellB = true := by
    simp only [rowB, Bool.and_eq_true] at hrow
    exact hrow.1
  exact ⟨List.all_eq_true.1 hall _ (by simp [ofL]), hr, by simp [nM], hrow⟩
theorem own_blk {w : World} {base : Nat} {e : TypeId} {sz n : Nat} {v : Value} {xs : List Value} (h : w.ownsRow base e sz v n xs) : ∀ k, v.ownBlock = some k → base ≤ k := by
  intro k hk
  rcases h.2 with ⟨rfl, _⟩ | ⟨g, cap, cur, rfl, hb, _⟩
  · simp [Value.ownBlock] at hk
  · have : g = k := by simpa [Value.ownBlock] using hk
    omega
theorem seq3_cut {P : Program} {Q : Exit → Act → World → Prop} {a : Act} {w : World} {x y u z : Code} (I : Act → World → Prop) (hz : ∀ a w, I a w → z.wp P Q a w)
    (h : ∀ z' : Code, (∀ a w, I a w → z'.wp P Q a w) → (x.seq (y.seq (u.seq z'))).wp P Q a w) : (x.seq (y.seq (u.seq z))).wp P Q a w := h z hz

end Go.Proofs.YtciifgajnblenaaDoor
