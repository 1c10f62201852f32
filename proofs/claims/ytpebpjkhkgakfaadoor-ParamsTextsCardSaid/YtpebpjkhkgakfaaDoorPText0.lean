/-
  What the walks of texts need: numbers of digits, texts that grow, rows that are cut.
-/
import Derived.Test.YtpebpjkhkgakfaaDoorPBuild
namespace Go.Proofs.YtpebpjkhkgakfaaDoor
open Go.RowKit

theorem num_ge {l : List UInt8} (h : ¬ l = []) (hd : ∀ c ∈ l, 48 ≤ c.toNat ∧ c.toNat ≤ 57) : 0 ≤ numF (-1) l := by
  rcases List.eq_nil_or_concat l with h1 | ⟨t, c, h1⟩
  · exact absurd h1 h
  · rw [List.concat_eq_append] at h1
    have := hd c (by rw [h1]; simp)
    rw [h1, numF_snoc]
    unfold dig
    omega
theorem num_step {l : List UInt8} {i : Nat} (h : i < l.length) : numF (-1) (l.take (i + 1)) = min (max (numF (-1) (l.take i)) 0 * 10 + (((l.getD i 0).toNat : Int) - 48)) 9999 := by
  rw [take_snoc (getD_at (d := 0) h), numF_snoc]
theorem part_yes {n : Int} (h : 0 ≤ n) : part1 n = Lib.decDigits n.toNat := if_neg (by omega)
theorem part_no {n : Int} (h : ok1 n) (h2 : ¬ 0 ≤ n) : part1 n = [] := if_pos (by omega)
theorem text_step {l : List Int} {i : Nat} (h : i < l.length) : textL (l.take (i + 1)) = if i = 0 then part1 (l.getD i 0) else textL (l.take i) ++ 59 :: part1 (l.getD i 0) := by
  rw [take_snoc (getD_at (d := 0) h)]
  split
  · rename_i h0
    subst h0
    rw [List.take_zero, List.nil_append, textL_one]
  · rw [textL_snoc]
    intro h1
    have := congrArg List.length h1
    rw [List.length_take] at this
    simp only [List.length_nil] at this
    omega
theorem own_lo {w : World} {base : Nat} {e : TypeId} {size n : Nat} {v : Value} {xs : List Value} (h : w.ownsRow base e size v n xs) : ∀ k, v.ownBlock = some k → base ≤ k := by
  intro k hk
  rcases h.2 with ⟨rfl, _⟩ | ⟨g, cap, cur, rfl, hb, _⟩
  · simp [Value.ownBlock] at hk
  · simp [Value.ownBlock] at hk
    omega
theorem own_nil (w : World) (base : Nat) (e : TypeId) : w.ownsRow base e 1 (.slice none 0 0) 0 [] := ⟨rfl, .inl ⟨rfl, rfl⟩⟩
/-- A row of the call's own, cut. -/
theorem own_cut {w : World} {base : Nat} {e : TypeId} {A : Option Addr} {n c k : Nat} {l : List Int} (h : w.ownsRow base e 1 (.slice A n c) n (ivs l)) (hl : l.length = n) (hk : k ≤ n) : ∃ b, Rd w b (if c = 0 then A else A.map (·.add 0)) k (ivs (l.take k)) := by
  rcases h.2 with ⟨hv, rfl⟩ | ⟨g, cap, cur, hv, hb, hh, hnc, _, _, ht⟩
  · obtain rfl : k = 0 := by omega
    exact ⟨0, Rd.nil _ _ _⟩
  · injection hv with hA hn hc
    subst hA hc
    have hr : Rd w g (some ⟨g, 0, none⟩) n (ivs l) := Rd.of_own h (fun k hk => by simpa [Value.ownBlock] using hk.symm)
    refine ⟨g, by simp [ivs]; omega, fun h0 => ?_⟩
    obtain ⟨q, hq, hlt, hcell⟩ := hr.2 (by omega)
    obtain rfl : q = 0 := by
      have := Option.some.inj hq
      injection this with _ h2
      exact h2.symm
    refine ⟨0, ?_, hlt, fun j hj => ?_⟩
    · rw [if_neg (by omega)]
      simp [addr_add]
    · rw [hcell j (by omega), ivs, ivs, List.getElem?_map, List.getElem?_map, List.getElem?_take, if_pos hj]
theorem fine_all {s : List UInt8} {i : Nat} (h : ∀ c ∈ s.take i, fine c) (hi : s.length ≤ i) : ∀ c ∈ s, fine c := by rwa [List.take_of_length_le hi] at h
/-- The parts of the text, as far as they are laid. -/
def partsL (l : List Int) (i : Nat) : List (List UInt8) := (l.take i).map part1 ++ List.replicate (l.length - i) []
theorem parts_0 (l : List Int) : partsL l 0 = List.replicate l.length [] := by simp [partsL]
theorem parts_len (l : List Int) {i : Nat} (h : i ≤ l.length) : (partsL l i).length = l.length := by simp [partsL]; omega
theorem parts_end {l : List Int} {i : Nat} (h : l.length ≤ i) : partsL l i = l.map part1 := by
  unfold partsL
  rw [List.take_of_length_le h, show l.length - i = 0 by omega]
  simp
theorem parts_set {l : List Int} {i : Nat} (h : i < l.length) : (partsL l i).set i (part1 (l.getD i 0)) = partsL l (i + 1) := by
  unfold partsL
  rw [take_snoc (getD_at (d := 0) h), List.map_append, List.set_append, if_neg (by simp; omega)]
  rw [show i - ((l.take i).map part1).length = 0 by simp; omega]
  rw [show l.length - i = (l.length - (i + 1)) + 1 by omega, List.replicate_succ]
  simp
theorem parts_skip {l : List Int} {i : Nat} (h : i < l.length) (h2 : part1 (l.getD i 0) = []) : partsL l (i + 1) = partsL l i := by
  rw [← parts_set h, h2]
  apply List.ext_getElem?
  intro k
  rw [List.getElem?_set]
  split
  · rename_i e
    subst e
    rw [if_pos (by rw [parts_len l (by omega)]; exact h)]
    unfold partsL
    rw [List.getElem?_append_right (by simp; omega), List.getElem?_replicate, if_pos (by simp; omega)]
  · rfl
theorem svs_set {ss : List (List UInt8)} {i : Nat} {s : List UInt8} : setI (svs ss).toArray i (.string (bs s)) = (svs (ss.set i s)).toArray := by
  simp [setI, svs, List.map_set]
theorem svs_size {ss : List (List UInt8)} {i : Nat} (h : i < ss.length) : i < (svs ss).toArray.size := by simpa [svs] using h
theorem say_part {out : List Int} {part : List UInt8} {s : List UInt8} {c : UInt8} (h : nz (say s) = out ++ [num part]) (hc : c.toNat ≠ 59) : nz (say (s ++ [c])) = out ++ [num (part ++ [c])] := by
  have := say_digits [c] s out (num part) (fun x hx => by simp at hx; subst hx; exact hc) h
  rw [this]
  show out ++ [numF (num part) [c]] = _
  rw [show num (part ++ [c]) = dig (num part) ((c.toNat : Int) - 48) from numF_snoc _ _ _]
  rfl
theorem say_next {out : List Int} {part : List UInt8} {s : List UInt8} {c : UInt8} (h : nz (say s) = out ++ [num part]) (hc : c.toNat = 59) : nz (say (s ++ [c])) = (out ++ [num part]) ++ [num []] := by
  rw [say_snoc]
  unfold addF
  rw [if_pos hc, nz_snoc, h]
  rfl
theorem say_out {out : List Int} {part : List UInt8} {s : List UInt8} (hs : ¬ s = []) (h : nz (say s) = out ++ [num part]) : say s = out ++ [num part] := by
  rw [← h, nz_of (fun e => hs (say_nil.1 e))]
theorem lst_out {out : List Int} {part : List UInt8} {s : List UInt8} (hs : ¬ s = []) (h : nz (say s) = out ++ [num part]) : lst s = (out ++ [num part]).take 16 := by
  unfold lst
  rw [say_out hs h]
end Go.Proofs.YtpebpjkhkgakfaaDoor
