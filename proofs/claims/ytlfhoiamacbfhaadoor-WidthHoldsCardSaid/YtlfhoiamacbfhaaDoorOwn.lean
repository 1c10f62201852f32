/-
  A slice of runes that came in, and append of runes onto a row of the call's own.
-/
import Derived.Test.YtlfhoiamacbfhaaDoorKnown
import Derived.OpenShut
namespace Go.Proofs.YtlfhoiamacbfhaaDoor
open Go.RowKit

def RowIn (k : IntKind) (w : World) (a : Option Addr) (len cap : Nat) (zs : List Int) : Prop :=
  (a = none ∧ len = 0 ∧ cap = 0 ∧ zs = []) ∨
  ∃ x, a = some x ∧ len ≤ cap ∧ cap ≤ maxLen ∧ zs.length = cap ∧ (∀ i, i < zs.length → w.cell? (x.add i) = some (.int k (zs.getD i 0))) ∧ ∀ n ∈ zs, (Lit.int k n).wf = true

theorem RowIn.read {k : IntKind} {w : World} {a : Option Addr} {len cap : Nat} {zs : List Int} (h : RowIn k w a len cap zs) :
    ∃ (t : List Int) (b : Nat), t.length = len ∧ Rd w b a len (t.map (.int k)) := by
  rcases h with ⟨rfl, rfl, rfl, rfl⟩ | ⟨x, rfl, hl, _, hz, hc, _⟩
  · exact ⟨[], 0, rfl, Rd.nil w 0 none⟩
  · refine ⟨zs.take len, x.block, by rw [List.length_take]; omega, ⟨by rw [List.length_map, List.length_take]; omega, fun h0 => ?_⟩⟩
    obtain ⟨b, off, spot⟩ := x
    have h1 := hc 0 (by omega)
    have hs : spot = none := by simpa [Addr.add] using World.cell?_spot h1
    subst hs
    refine ⟨off, rfl, ?_, fun j hj => ?_⟩
    · rw [addr_add] at h1
      exact World.block_lt_of_cell? w _ h1
    · have h2 := hc j (by omega)
      rw [addr_add] at h2
      rw [h2]
      simp [hj, List.getElem?_eq_getElem (show j < zs.length by omega), List.getD]

theorem info32' : (Tryd.prog.info? 21).map (fun i => (i.zero, i.size, i.bytes)) = some (some (.int .i32 0), 1, 4) := by kernel_rfl

/-- append of runes onto a row of the call's own -/
theorem app32 {w : World} {ops : Array Oper} {rest : List Oper} {o : Oper} {a : Act} {Q : Exit → Act → World → Prop} (hgd : o.guard = none) (s x : Operand)
    (ho : o.op = .call { callee := .builtin .append, args := #[s, x], argTypes := #[31, 31] })
    (base : Nat) (v : Value) (n : Nat) (xs : List Value) (hs : a.eval s = v) (hown : w.ownsRow base 21 1 v n xs)
    (b : Nat) (A : Option Addr) (m c : Nat) (news : List Value) (hx : a.eval x = .slice A m c) (hr : Rd w b A m news) (h1 : ∀ u ∈ news, u.oneCell' = true)
    (hnm : n + m ≤ 1000000000) (hbase : base ≤ w.heap.size)
    (h : ∀ v' w', w'.ownsRow base 21 1 v' (n + m) (xs ++ news) → w.grownBy w' v.ownBlock → wpList Tryd.prog ops Q rest (a.put o.dst v') w') : wpList Tryd.prog ops Q (o :: rest) a w := by
  obtain ⟨i0, hi, hz0, hz1, hz2⟩ := info_parts info32'
  exact wpList_append_any w hgd s x 31 ho base 21 i0 (.int .i32 0) 4 Tryd.underlying31 hi hz0 hz1 hz2 rfl v n xs hs hown b A m c news hx hr h1 (by unfold maxLen; omega) (by omega) hbase (fun v' w' h2 h3 _ => h v' w' h2 h3)

theorem own_rd {w : World} {base : Nat} {v : Value} {n : Nat} {xs : List Value} (h : w.ownsRow base 21 1 v n xs) : ∃ b A c, v = .slice A n c ∧ n ≤ c ∧ Rd w b A n xs := by
  obtain ⟨A, c, rfl, hc, _⟩ := own_slice h
  rcases A with _ | a
  · exact ⟨0, none, c, rfl, hc, Rd.of_own h (fun k hk => by simp [Value.ownBlock] at hk)⟩
  · exact ⟨a.block, _, c, rfl, hc, Rd.of_own h (fun k hk => by simpa [Value.ownBlock] using hk.symm)⟩

theorem Rd.take {w : World} {b : Nat} {A : Option Addr} {n : Nat} {l : List Int} (h : Rd w b A n (R32 l)) {k : Nat} (hk : k ≤ n) : Rd w b A k (R32 (l.take k)) := by
  have hn := h.1
  simp [R32] at hn
  refine ⟨by simp [R32]; omega, fun h0 => ?_⟩
  obtain ⟨o, rfl, hb, hc⟩ := h.2 (by omega)
  refine ⟨o, rfl, hb, fun j hj => ?_⟩
  rw [hc j (by omega)]
  simp [R32, hj]

end Go.Proofs.YtlfhoiamacbfhaaDoor
