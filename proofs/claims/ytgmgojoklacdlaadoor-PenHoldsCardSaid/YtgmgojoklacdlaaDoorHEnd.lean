/-
  The statement on words and flags, from what came in.
-/
import Derived.Test.YtgmgojoklacdlaaDoorPHolds
import Derived.Test.YtgmgojoklacdlaaDoorOpen
namespace Go.Proofs.YtgmgojoklacdlaaDoor
open Go.RowKit

def RowIn (k : IntKind) (w : World) (a : Option Addr) (len cap : Nat) (zs : List Int) : Prop :=
  (a = none ∧ len = 0 ∧ cap = 0 ∧ zs = []) ∨
  ∃ x, a = some x ∧ len ≤ cap ∧ cap ≤ maxLen ∧ zs.length = cap ∧ (∀ i, i < zs.length → w.cell? (x.add i) = some (.int k (zs.getD i 0))) ∧ ∀ n ∈ zs, (Lit.int k n).wf = true

theorem RowIn.bytes {w : World} {a : Option Addr} {len cap : Nat} {zs : List Int} (h : RowIn .u8 w a len cap zs) :
    ∃ (l : List Nat) (b : Nat), l.length = len ∧ (∀ y ∈ l, y ≤ 255) ∧ Rd w b a len (l.map fun y : Nat => Value.int .u8 (y : Int)) := by
  rcases h with ⟨rfl, rfl, rfl, rfl⟩ | ⟨x, rfl, hl, _, hz, hc, hw⟩
  · exact ⟨[], 0, rfl, by simp, Rd.nil w 0 none⟩
  · refine ⟨(zs.take len).map Int.toNat, x.block, by rw [List.length_map, List.length_take]; omega, ?_, ⟨by rw [List.length_map, List.length_map, List.length_take]; omega, fun h0 => ?_⟩⟩
    · intro y hy
      obtain ⟨n, hn, rfl⟩ := List.mem_map.1 hy
      have := (wf_u8_iff n).1 (hw n (List.mem_of_mem_take hn))
      omega
    · obtain ⟨b, off, spot⟩ := x
      have h1 := hc 0 (by omega)
      have hs : spot = none := by simpa [Addr.add] using World.cell?_spot h1
      subst hs
      refine ⟨off, rfl, ?_, fun j hj => ?_⟩
      · rw [addr_add] at h1
        exact World.block_lt_of_cell? w _ h1
      · have h2 := hc j (by omega)
        rw [addr_add] at h2
        have hj' : j < zs.length := by omega
        have hb := (wf_u8_iff (zs[j])).1 (hw _ (List.getElem_mem hj'))
        rw [h2]
        simp only [List.getD, List.getElem?_map, List.getElem?_take, if_pos hj, List.getElem?_eq_getElem hj', Option.map_some, Option.getD_some]
        rw [Int.toNat_of_nonneg hb.1]

theorem wf_u64_iff (n : Int) : (Lit.int .u64 n).wf = true ↔ 0 ≤ n ∧ n ≤ 18446744073709551615 := by
  simp [Lit.wf, IntKind.min, IntKind.max, IntKind.bits, IntKind.signed]

theorem penHolds_walk (p q : Pn) (x : Int) (A : Option Addr) (n cap : Nat) (zs : List Int) (w : World) (w0 : p.Ok) (w1 : q.Ok) (w2 : (Lit.int .u64 x).wf = true) (w3 : RowIn .u8 w A n cap zs) (hT : Tab w) :
    Calls Tryd.prog 7 #[p.v, q.v, .int .u64 x, .slice A n cap] w fun e w' => e = .returned (.bool true) ∧ Below w.heap.size w w' := by
  obtain ⟨l, bl, hl, hy, hr⟩ := w3.bytes
  obtain ⟨h0, h1⟩ := (wf_u64_iff x).1 w2
  by_cases hn : n ≤ 20
  · cases hv : validB p with
    | true => exact (holds_good p q w0 w1 x h0 (by omega) l n hl hn hy bl A cap w hT hr hv).mono fun _ _ h => ⟨h.1, h.2.new_below⟩
    | false =>
      by_cases hx : wordI (penW x) = x
      · exact (holds_bad_yes p q w1 x h0 (by omega) n hn A cap w hT hv _ rfl hx).mono fun _ _ h => ⟨h.1, h.2.new_below⟩
      · exact (holds_bad_no p q w1 x h0 (by omega) n hn A cap w hT hv hx).mono fun _ _ h => ⟨h.1, h.2.new_below⟩
  · exact (holds_long p q x n hn A cap w hT).mono fun _ _ h => ⟨h.1, h.2.new_below⟩

end Go.Proofs.YtgmgojoklacdlaaDoor
