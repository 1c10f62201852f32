/-
  The library's functions, as the walks call them: numbers as texts, texts joined, a text again and again.
-/
import Derived.Test.YtpebpjkhkgakfaaDoorPIt
import Derived.Test.YtpebpjkhkgakfaaDoorShelf
namespace Go.Proofs.YtpebpjkhkgakfaaDoor
open Go.RowKit

theorem new_grow (w : World) (k : Nat) (os : Array Obj) : New w (Sort.grow (w.drewN k) os) :=
  ⟨rfl, rfl, rfl, by simp [Sort.grow, World.drewN], fun i hi _ => by
    show (w.heap ++ os)[i]? = _
    rw [Array.getElem?_append_left hi]⟩
theorem Itoa_c (n : Int) (h0 : 0 ≤ n) (h1 : n ≤ 1099511627776) (w : World) (hT : Tab w) : Calls Tryd.prog 38 #[.int .i64 n] w fun e w' => e = .returned (.string (bs (Lib.decDigits n.toNat))) ∧ New w w' :=
  (Tryd.strconv_Itoa n (by omega) (by omega) w hT.pow).mono fun _ _ ⟨h1, k, os, h2⟩ => ⟨by
    rw [h1]
    unfold Lib.itoa
    rw [if_neg (by omega)], h2 ▸ new_grow w k os⟩
theorem map_bs (l : List (List UInt8)) : (l.map bs).map (fun s : ByteArray => s.data.toList) = l := by
  rw [List.map_map]
  exact List.map_id l
theorem Join_c (p : Nat) (ss : List (List UInt8)) (h1 : ss.length ≤ 1000) (h2 : (Lib.join ss [59]).length ≤ 1000000) (w : World) (hB : Blk w p 9 (svs ss).toArray) : Calls Tryd.prog 39 #[.slice (some ⟨p, 0, none⟩) ss.length ss.length, .string (bs [59])] w fun e w' => e = .returned (.string (bs (Lib.join ss [59]))) ∧ New w w' := by
  have h := Tryd.strings_Join p 0 ss.length (ss.map bs) (bs [59]) w (fun j x hx => by
    rw [Nat.zero_add, hB.cell, List.getElem?_toArray, List.getElem?_map]
    rw [List.getElem?_map] at hx
    cases hs : ss[j]? with
    | none => rw [hs] at hx; cases hx
    | some s => rw [hs] at hx; cases hx; rfl) hB.lt (by rw [List.length_map]; omega) (by rw [List.length_map]; exact Nat.le_refl _) (by
      rw [map_bs]
      show (Lib.join ss [59]).length ≤ _
      omega)
  rw [List.length_map] at h
  exact h.mono fun e w' ⟨h3, h4⟩ => ⟨by rw [h3, map_bs], Fr.of_below _ h4⟩
theorem Repeat_c (s : List UInt8) (k : Nat) (hl : s.length * k ≤ 1000000) (hk : k ≤ 1000000) (w : World) : Calls Tryd.prog 26 #[.string (bs s), .int .i64 (k : Int)] w fun e w' => e = .returned (.string (bs (Lib.repeatL s k))) ∧ New w w' :=
  (Tryd.strings_Repeat (bs s) k w (by omega) (by rw [bs_size]; omega)).mono fun _ _ ⟨h1, h2⟩ => ⟨h1, Fr.of_below _ h2⟩
theorem rep_mem {s : List UInt8} {c : UInt8} : ∀ {k : Nat}, c ∈ Lib.repeatL s k → c ∈ s
  | 0, h => by simp [Lib.repeatL] at h
  | k + 1, h => by
    rw [Lib.repeatL, List.mem_append] at h
    exact h.elim id rep_mem
end Go.Proofs.YtpebpjkhkgakfaaDoor
