/-
  The statement on words and flags: what is packed and unpacked, and the flags that are given, in whatever order.
-/
import Derived.Test.YtgmgojoklacdlaaDoorKnown
import Derived.Test.YtgmgojoklacdlaaDoorBits
import Derived.Deep.DeepCutAuto
import Derived.Deep.CutRange
namespace Go.Proofs.YtgmgojoklacdlaaDoor
open Go.RowKit

theorem Blk.ten_new {a b : World} {g : Nat} {t : TypeId} {c0 c1 c2 c3 c4 c5 c6 c7 c8 c9 c10 : Value} (B : Blk a g t #[c0, c1, c2, c3, c4, c5, c6, c7, c8, c9, c10]) (h : New a b) :
    b.cell? ⟨g, 0, none⟩ = some c0 ∧ b.cell? ⟨g, 1, none⟩ = some c1 ∧ b.cell? ⟨g, 2, none⟩ = some c2 ∧ b.cell? ⟨g, 3, none⟩ = some c3 ∧ b.cell? ⟨g, 4, none⟩ = some c4 ∧
    b.cell? ⟨g, 5, none⟩ = some c5 ∧ b.cell? ⟨g, 6, none⟩ = some c6 ∧ b.cell? ⟨g, 7, none⟩ = some c7 ∧ b.cell? ⟨g, 8, none⟩ = some c8 ∧ b.cell? ⟨g, 9, none⟩ = some c9 :=
  have B := B.fr h (fun h => h)
  ⟨B.cell 0, B.cell 1, B.cell 2, B.cell 3, B.cell 4, B.cell 5, B.cell 6, B.cell 7, B.cell 8, B.cell 9⟩

/-- A pen's colors with other flags. -/
abbrev pf (p : Pn) (f : Int) : Array Value := #[.int .i64 p.fore.k, .int .u8 p.fore.i, .int .u8 p.fore.r, .int .u8 p.fore.g, .int .u8 p.fore.b, .int .i64 p.back.k, .int .u8 p.back.i, .int .u8 p.back.r, .int .u8 p.back.g, .int .u8 p.back.b, .int .u8 f]

/-- What the five blocks hold. -/
structure Met5 (p : Pn) (w wx : World) (g b t gx gy F G : Nat) (s : List Nat) : Prop where
  new : New w wx
  pn : Blk wx g 27 p.cs
  fl : Blk wx b 25 (flagsV 8)
  th : Blk wx t 55 (thereV s)
  x : Blk wx gx 27 (pf p F)
  y : Blk wx gy 27 (pf p G)
/-- The three that are written are the call's own, and apart. -/
structure Apart (w : World) (g t gx gy : Nat) : Prop where
  t : w.heap.size ≤ t
  x : w.heap.size ≤ gx
  y : w.heap.size ≤ gy
  xy : gx ≠ gy
  gx : g ≠ gx
  gy : g ≠ gy
theorem Met5.go {p : Pn} {w wx wy : World} {g b t gx gy F G : Nat} {s : List Nat} (h : Met5 p w wx g b t gx gy F G s) (hn : New wx wy) : Met5 p w wy g b t gx gy F G s :=
  ⟨h.new.trans hn, h.pn.fr hn (fun h => h), h.fl.fr hn (fun h => h), h.th.fr hn (fun h => h), h.x.fr hn (fun h => h), h.y.fr hn (fun h => h)⟩
theorem Met5.drew {p : Pn} {w wx : World} {g b t gx gy F G : Nat} {s : List Nat} (h : Met5 p w wx g b t gx gy F G s) : Met5 p w wx.drew g b t gx gy F G s :=
  ⟨h.new.drew, h.pn.drew, h.fl.drew, h.th.drew, h.x.drew, h.y.drew⟩
theorem Met5.sett {p : Pn} {w wx : World} {g b t gx gy F G : Nat} {s : List Nat} (h : Met5 p w wx g b t gx gy F G s) (a : Apart w g t gx gy) {n m : Nat} (hm : n % 8 = m) : Met5 p w (wx.setCell ⟨t, m, none⟩ (.bool true)) g b t gx gy F G (s ++ [n]) := by
  have h1 := h.th.set m (.bool true)
  rw [thereV_set s n m hm] at h1
  exact ⟨h.new.setCell (.inr a.t) _, h.pn.far (p := ⟨t, m, none⟩) (Blk.other h.pn h.th (by decide)) _, h.fl.far (p := ⟨t, m, none⟩) (Blk.other h.fl h.th (by decide)) _, h1, h.x.far (p := ⟨t, m, none⟩) (Blk.other h.x h.th (by decide)) _, h.y.far (p := ⟨t, m, none⟩) (Blk.other h.y h.th (by decide)) _⟩
theorem Blk.far11 {w : World} {g h : Nat} {t : TypeId} {cs : Array Value} (B : Blk w h t cs) (hne : h ≠ g) (x0 x1 x2 x3 x4 x5 x6 x7 x8 x9 x10 : Value) : Blk (((((((((((w.setCell ⟨g, 0, none⟩ x0).setCell ⟨g, 1, none⟩ x1).setCell ⟨g, 2, none⟩ x2).setCell ⟨g, 3, none⟩ x3).setCell ⟨g, 4, none⟩ x4).setCell ⟨g, 5, none⟩ x5).setCell ⟨g, 6, none⟩ x6).setCell ⟨g, 7, none⟩ x7).setCell ⟨g, 8, none⟩ x8).setCell ⟨g, 9, none⟩ x9).setCell ⟨g, 10, none⟩ x10) h t cs :=
  (((((((((((B.far (p := ⟨g, 0, none⟩) hne x0).far (p := ⟨g, 1, none⟩) hne x1).far (p := ⟨g, 2, none⟩) hne x2).far (p := ⟨g, 3, none⟩) hne x3).far (p := ⟨g, 4, none⟩) hne x4).far (p := ⟨g, 5, none⟩) hne x5).far (p := ⟨g, 6, none⟩) hne x6).far (p := ⟨g, 7, none⟩) hne x7).far (p := ⟨g, 8, none⟩) hne x8).far (p := ⟨g, 9, none⟩) hne x9).far (p := ⟨g, 10, none⟩) hne x10)
theorem Met5.setx {p : Pn} {w wx : World} {g b t gx gy F G : Nat} {s : List Nat} (h : Met5 p w wx g b t gx gy F G s) (a : Apart w g t gx gy) (F' : Nat) : Met5 p w (((((((((((wx.setCell ⟨gx, 0, none⟩ (.int .i64 p.fore.k)).setCell ⟨gx, 1, none⟩ (.int .u8 p.fore.i)).setCell ⟨gx, 2, none⟩ (.int .u8 p.fore.r)).setCell ⟨gx, 3, none⟩ (.int .u8 p.fore.g)).setCell ⟨gx, 4, none⟩ (.int .u8 p.fore.b)).setCell ⟨gx, 5, none⟩ (.int .i64 p.back.k)).setCell ⟨gx, 6, none⟩ (.int .u8 p.back.i)).setCell ⟨gx, 7, none⟩ (.int .u8 p.back.r)).setCell ⟨gx, 8, none⟩ (.int .u8 p.back.g)).setCell ⟨gx, 9, none⟩ (.int .u8 p.back.b)).setCell ⟨gx, 10, none⟩ (.int .u8 (F' : Nat))) g b t gx gy F' G s :=
  ⟨h.new.set11 (.inr a.x) (.int .i64 p.fore.k) (.int .u8 p.fore.i) (.int .u8 p.fore.r) (.int .u8 p.fore.g) (.int .u8 p.fore.b) (.int .i64 p.back.k) (.int .u8 p.back.i) (.int .u8 p.back.r) (.int .u8 p.back.g) (.int .u8 p.back.b) (.int .u8 (F' : Nat)), h.pn.far11 a.gx (.int .i64 p.fore.k) (.int .u8 p.fore.i) (.int .u8 p.fore.r) (.int .u8 p.fore.g) (.int .u8 p.fore.b) (.int .i64 p.back.k) (.int .u8 p.back.i) (.int .u8 p.back.r) (.int .u8 p.back.g) (.int .u8 p.back.b) (.int .u8 (F' : Nat)), h.fl.far11 (Blk.other h.fl h.x (by decide)) (.int .i64 p.fore.k) (.int .u8 p.fore.i) (.int .u8 p.fore.r) (.int .u8 p.fore.g) (.int .u8 p.fore.b) (.int .i64 p.back.k) (.int .u8 p.back.i) (.int .u8 p.back.r) (.int .u8 p.back.g) (.int .u8 p.back.b) (.int .u8 (F' : Nat)), h.th.far11 (Blk.other h.th h.x (by decide)) (.int .i64 p.fore.k) (.int .u8 p.fore.i) (.int .u8 p.fore.r) (.int .u8 p.fore.g) (.int .u8 p.fore.b) (.int .i64 p.back.k) (.int .u8 p.back.i) (.int .u8 p.back.r) (.int .u8 p.back.g) (.int .u8 p.back.b) (.int .u8 (F' : Nat)), h.x.set11 (.int .i64 p.fore.k) (.int .u8 p.fore.i) (.int .u8 p.fore.r) (.int .u8 p.fore.g) (.int .u8 p.fore.b) (.int .i64 p.back.k) (.int .u8 p.back.i) (.int .u8 p.back.r) (.int .u8 p.back.g) (.int .u8 p.back.b) (.int .u8 (F' : Nat)), h.y.far11 a.xy.symm (.int .i64 p.fore.k) (.int .u8 p.fore.i) (.int .u8 p.fore.r) (.int .u8 p.fore.g) (.int .u8 p.fore.b) (.int .i64 p.back.k) (.int .u8 p.back.i) (.int .u8 p.back.r) (.int .u8 p.back.g) (.int .u8 p.back.b) (.int .u8 (F' : Nat))⟩
theorem Met5.sety {p : Pn} {w wx : World} {g b t gx gy F G : Nat} {s : List Nat} (h : Met5 p w wx g b t gx gy F G s) (a : Apart w g t gx gy) (G' : Nat) : Met5 p w (((((((((((wx.setCell ⟨gy, 0, none⟩ (.int .i64 p.fore.k)).setCell ⟨gy, 1, none⟩ (.int .u8 p.fore.i)).setCell ⟨gy, 2, none⟩ (.int .u8 p.fore.r)).setCell ⟨gy, 3, none⟩ (.int .u8 p.fore.g)).setCell ⟨gy, 4, none⟩ (.int .u8 p.fore.b)).setCell ⟨gy, 5, none⟩ (.int .i64 p.back.k)).setCell ⟨gy, 6, none⟩ (.int .u8 p.back.i)).setCell ⟨gy, 7, none⟩ (.int .u8 p.back.r)).setCell ⟨gy, 8, none⟩ (.int .u8 p.back.g)).setCell ⟨gy, 9, none⟩ (.int .u8 p.back.b)).setCell ⟨gy, 10, none⟩ (.int .u8 (G' : Nat))) g b t gx gy F G' s :=
  ⟨h.new.set11 (.inr a.y) (.int .i64 p.fore.k) (.int .u8 p.fore.i) (.int .u8 p.fore.r) (.int .u8 p.fore.g) (.int .u8 p.fore.b) (.int .i64 p.back.k) (.int .u8 p.back.i) (.int .u8 p.back.r) (.int .u8 p.back.g) (.int .u8 p.back.b) (.int .u8 (G' : Nat)), h.pn.far11 a.gy (.int .i64 p.fore.k) (.int .u8 p.fore.i) (.int .u8 p.fore.r) (.int .u8 p.fore.g) (.int .u8 p.fore.b) (.int .i64 p.back.k) (.int .u8 p.back.i) (.int .u8 p.back.r) (.int .u8 p.back.g) (.int .u8 p.back.b) (.int .u8 (G' : Nat)), h.fl.far11 (Blk.other h.fl h.y (by decide)) (.int .i64 p.fore.k) (.int .u8 p.fore.i) (.int .u8 p.fore.r) (.int .u8 p.fore.g) (.int .u8 p.fore.b) (.int .i64 p.back.k) (.int .u8 p.back.i) (.int .u8 p.back.r) (.int .u8 p.back.g) (.int .u8 p.back.b) (.int .u8 (G' : Nat)), h.th.far11 (Blk.other h.th h.y (by decide)) (.int .i64 p.fore.k) (.int .u8 p.fore.i) (.int .u8 p.fore.r) (.int .u8 p.fore.g) (.int .u8 p.fore.b) (.int .i64 p.back.k) (.int .u8 p.back.i) (.int .u8 p.back.r) (.int .u8 p.back.g) (.int .u8 p.back.b) (.int .u8 (G' : Nat)), h.x.far11 a.xy (.int .i64 p.fore.k) (.int .u8 p.fore.i) (.int .u8 p.fore.r) (.int .u8 p.fore.g) (.int .u8 p.fore.b) (.int .i64 p.back.k) (.int .u8 p.back.i) (.int .u8 p.back.r) (.int .u8 p.back.g) (.int .u8 p.back.b) (.int .u8 (G' : Nat)), h.y.set11 (.int .i64 p.fore.k) (.int .u8 p.fore.i) (.int .u8 p.fore.r) (.int .u8 p.fore.g) (.int .u8 p.fore.b) (.int .i64 p.back.k) (.int .u8 p.back.i) (.int .u8 p.back.r) (.int .u8 p.back.g) (.int .u8 p.back.b) (.int .u8 (G' : Nat))⟩

theorem With_bit (p : Pn) (hv : validB p = true) (F m : Nat) (hF : F < 256) (hm : m < 8) (w : World) :
    Calls Tryd.prog 26 #[.agg (pf p F), .int .u8 (flagAt m), .bool true] w fun e w' => e = .returned (.tuple #[.agg (pf p ((F ||| 2 ^ m : Nat) : Int)), .int .i64 0]) ∧ New w w' := by
  have := With_yes ⟨p.fore, p.back, F⟩ hv (flagAt m) (flagAt_bounds m hm).1 (flagAt_bounds m hm).2 (flagAt_flag m hm) w
  simp only [or_bits F m hF hm] at this
  exact this
theorem Has_bit (p : Pn) (F : Nat) (s : List Nat) (hF : Fl F s) (m : Nat) (hm : m < 8) (c : Bool) (hc : setB s m = c) (w : World) :
    Calls Tryd.prog 27 #[.agg (pf p F), .int .u8 (flagAt m)] w fun e w' => e = .returned (.bool c) ∧ New w w' := by
  have := Has_any ⟨p.fore, p.back, F⟩ (flagAt m) (flagAt_bounds m hm).1 (flagAt_bounds m hm).2 w
  simp only [has_bit F m hF.lt hm, hF.at_ m hm, hc] at this
  exact this
theorem bidx0 (b0 b1 b2 b3 b4 b5 b6 b7 : Bool) (w : World) : (Instr.index 55 (.agg #[.bool b0, .bool b1, .bool b2, .bool b3, .bool b4, .bool b5, .bool b6, .bool b7]) (.int .i64 0)).run Tryd.prog w = .ok (.bool b0) w := by kernel_rfl
theorem bidx1 (b0 b1 b2 b3 b4 b5 b6 b7 : Bool) (w : World) : (Instr.index 55 (.agg #[.bool b0, .bool b1, .bool b2, .bool b3, .bool b4, .bool b5, .bool b6, .bool b7]) (.int .i64 1)).run Tryd.prog w = .ok (.bool b1) w := by kernel_rfl
theorem bidx2 (b0 b1 b2 b3 b4 b5 b6 b7 : Bool) (w : World) : (Instr.index 55 (.agg #[.bool b0, .bool b1, .bool b2, .bool b3, .bool b4, .bool b5, .bool b6, .bool b7]) (.int .i64 2)).run Tryd.prog w = .ok (.bool b2) w := by kernel_rfl
theorem bidx3 (b0 b1 b2 b3 b4 b5 b6 b7 : Bool) (w : World) : (Instr.index 55 (.agg #[.bool b0, .bool b1, .bool b2, .bool b3, .bool b4, .bool b5, .bool b6, .bool b7]) (.int .i64 3)).run Tryd.prog w = .ok (.bool b3) w := by kernel_rfl
theorem bidx4 (b0 b1 b2 b3 b4 b5 b6 b7 : Bool) (w : World) : (Instr.index 55 (.agg #[.bool b0, .bool b1, .bool b2, .bool b3, .bool b4, .bool b5, .bool b6, .bool b7]) (.int .i64 4)).run Tryd.prog w = .ok (.bool b4) w := by kernel_rfl
theorem bidx5 (b0 b1 b2 b3 b4 b5 b6 b7 : Bool) (w : World) : (Instr.index 55 (.agg #[.bool b0, .bool b1, .bool b2, .bool b3, .bool b4, .bool b5, .bool b6, .bool b7]) (.int .i64 5)).run Tryd.prog w = .ok (.bool b5) w := by kernel_rfl
theorem bidx6 (b0 b1 b2 b3 b4 b5 b6 b7 : Bool) (w : World) : (Instr.index 55 (.agg #[.bool b0, .bool b1, .bool b2, .bool b3, .bool b4, .bool b5, .bool b6, .bool b7]) (.int .i64 6)).run Tryd.prog w = .ok (.bool b6) w := by kernel_rfl
theorem bidx7 (b0 b1 b2 b3 b4 b5 b6 b7 : Bool) (w : World) : (Instr.index 55 (.agg #[.bool b0, .bool b1, .bool b2, .bool b3, .bool b4, .bool b5, .bool b6, .bool b7]) (.int .i64 7)).run Tryd.prog w = .ok (.bool b7) w := by kernel_rfl
theorem bidx (s : List Nat) : ∀ k : Nat, k < 8 → ∀ w : World, (Instr.index 55 (.agg #[.bool (setB s 0), .bool (setB s 1), .bool (setB s 2), .bool (setB s 3), .bool (setB s 4), .bool (setB s 5), .bool (setB s 6), .bool (setB s 7)]) (.int .i64 k)).run Tryd.prog w = .ok (.bool (setB s k)) w := by
  intro n hn w
  have h : n = 0 ∨ n = 1 ∨ n = 2 ∨ n = 3 ∨ n = 4 ∨ n = 5 ∨ n = 6 ∨ n = 7 := by omega
  rcases h with rfl | rfl | rfl | rfl | rfl | rfl | rfl | rfl
  · exact bidx0 _ _ _ _ _ _ _ _ w
  · exact bidx1 _ _ _ _ _ _ _ _ w
  · exact bidx2 _ _ _ _ _ _ _ _ w
  · exact bidx3 _ _ _ _ _ _ _ _ w
  · exact bidx4 _ _ _ _ _ _ _ _ w
  · exact bidx5 _ _ _ _ _ _ _ _ w
  · exact bidx6 _ _ _ _ _ _ _ _ w
  · exact bidx7 _ _ _ _ _ _ _ _ w

theorem met_cells {p : Pn} {w wx : World} {g b t gx gy F G : Nat} {s : List Nat} (h : Met5 p w wx g b t gx gy F G s) (k : Nat) (hk : k < 8) :
    wx.cell? ⟨gx, 0, none⟩ = some (.int .i64 p.fore.k) ∧ wx.cell? ⟨gx, 1, none⟩ = some (.int .u8 p.fore.i) ∧ wx.cell? ⟨gx, 2, none⟩ = some (.int .u8 p.fore.r) ∧ wx.cell? ⟨gx, 3, none⟩ = some (.int .u8 p.fore.g) ∧ wx.cell? ⟨gx, 4, none⟩ = some (.int .u8 p.fore.b) ∧ wx.cell? ⟨gx, 5, none⟩ = some (.int .i64 p.back.k) ∧ wx.cell? ⟨gx, 6, none⟩ = some (.int .u8 p.back.i) ∧ wx.cell? ⟨gx, 7, none⟩ = some (.int .u8 p.back.r) ∧ wx.cell? ⟨gx, 8, none⟩ = some (.int .u8 p.back.g) ∧ wx.cell? ⟨gx, 9, none⟩ = some (.int .u8 p.back.b) ∧ wx.cell? ⟨gx, 10, none⟩ = some (.int .u8 F) ∧ wx.cell? ⟨b, k, none⟩ = some (.int .u8 (flagAt k)) := by
  obtain ⟨c0, c1, c2, c3, c4, c5, c6, c7, c8, c9, c10⟩ := h.x.eleven
  exact ⟨c0, c1, c2, c3, c4, c5, c6, c7, c8, c9, c10, (h.fl.cell k).trans (flags8_at k hk)⟩
theorem eq_selff (p : Pn) (f : Int) : ∀ w, (Op.equalIn 10000 27 (.agg (pf p f)) (.agg (pf p f))).run Tryd.prog w = .ok true w := eq_self ⟨p.fore, p.back, f⟩
theorem eq_selfk (c : Co) : ∀ w, (Op.equalIn 10000 24 (.agg #[.int .i64 c.k, .int .u8 c.i, .int .u8 c.r, .int .u8 c.g, .int .u8 c.b]) (.agg #[.int .i64 c.k, .int .u8 c.i, .int .u8 c.r, .int .u8 c.g, .int .u8 c.b])).run Tryd.prog w = .ok true w := fun w => by
  have := eq_col 9998 c c w
  rwa [decide_eq_true rfl] at this
/-- What Pack returns, and what Unpack returns. -/
def PackR (q : Pn) (a f : Int) : Prop := (validB q = true ∧ a = wordI q ∧ f = 0) ∨ (validB q = false ∧ a = 0 ∧ f = 2)
def UnpackR (x : Int) (z : Pn) (f : Int) : Prop := (z = penW x ∧ wordI z = x ∧ f = 0) ∨ (z = zeroP ∧ f = 12)
theorem Pack_q (q : Pn) (hq : q.Ok) (w : World) :
    Calls Tryd.prog 24 #[q.v] w fun e w' => (∃ a f, e = .returned (.tuple #[.int .u64 a, .int .i64 f]) ∧ PackR q a f) ∧ New w w' := by
  cases hv : validB q with
  | true => exact (Pack_yes q hq hv w).mono fun _ _ h => ⟨⟨_, _, h.1, .inl ⟨hv, rfl, rfl⟩⟩, h.2⟩
  | false => exact (Pack_no q hv w).mono fun _ _ h => ⟨⟨_, _, h.1, .inr ⟨hv, rfl, rfl⟩⟩, h.2⟩
theorem Unpack_q (x : Int) (h0 : 0 ≤ x) (h1 : x < 18446744073709551616) (w : World) :
    Calls Tryd.prog 25 #[.int .u64 x] w fun e w' => (∃ z f, e = .returned (.tuple #[.agg z.cs, .int .i64 f]) ∧ UnpackR x z f) ∧ New w w' := by
  by_cases hx : wordI (penW x) = x
  · exact (Unpack_yes x h0 h1 hx w).mono fun _ _ h => ⟨⟨penW x, _, h.1, .inl ⟨rfl, hx, rfl⟩⟩, h.2⟩
  · exact (Unpack_no x h0 h1 hx w).mono fun _ _ h => ⟨⟨zeroP, _, h.1, .inr ⟨rfl, rfl⟩⟩, h.2⟩
theorem eq_no (p q : Pn) (h : p ≠ q) : ∀ w, (Op.equalIn 10000 27 (.agg p.cs) (.agg q.cs)).run Tryd.prog w = .ok false w := fun w => by
  have := eq_pen p q w
  rwa [decide_eq_false h] at this


set_option maxRecDepth 20000 in
set_option maxHeartbeats 1600000 in
theorem holds_long (p q : Pn) (x : Int) (n : Nat) (h : ¬ n ≤ 20) (A : Option Addr) (cap : Nat) (w : World) (hT : Tab w) :
    Calls Tryd.prog 7 #[p.v, q.v, .int .u64 x, .slice A n cap] w fun e w' => e = .returned (.bool true) ∧ New w w' := by
  have HT := Lib.hid hT
  clear hT
  have hn : 20 < n := by omega
  go_enter Tryd.func7, Tryd.ntmps7
  go_wp2_with fail
  have N0 : New w ((w.alloc (.cells p.cs 27)).alloc (.cells q.cs 27)) := (New.alloc _).trans (New.alloc _)
  refine (known_any _ (HT.out.new N0)).mono ?_
  rintro e w1 ⟨rfl, hk⟩
  have HN := Lib.hid (N0.trans hk)
  clear hk
  go_wp2_with fail
  go_ret
  exact ⟨rfl, HN.out⟩


set_option maxRecDepth 20000 in
set_option maxHeartbeats 3200000 in
theorem holds_bad_yes (p q : Pn) (hq : q.Ok) (x : Int) (h0 : 0 ≤ x) (h1 : x < 18446744073709551616) (n : Nat) (hn : n ≤ 20) (A : Option Addr) (cap : Nat) (w : World) (hT : Tab w) (hv : validB p = false) (z : Pn) (hz : penW x = z) (hx : wordI z = x) :
    Calls Tryd.prog 7 #[p.v, q.v, .int .u64 x, .slice A n cap] w fun e w' => e = .returned (.bool true) ∧ New w w' := by
  have U1 := fun w => Unpack_yes x h0 h1 (by rw [hz, hx]) w
  have U2 := fun w => Valid_any z w
  have U3 := fun w => packs_yes z (hz ▸ penW_ok x) (hz ▸ validB_penW x) x hx w
  have hzv : validB z = true := hz ▸ validB_penW x
  rw [hz] at U1
  rw [hzv] at U2
  clear hz hx hzv
  have C1 := fun w => Pack_no p hv w
  have C2 := fun w => Pack_q q hq w
  have C3 := fun w => Valid_any p w
  rw [hv] at C3
  clear hv
  have HT := Lib.hid hT
  clear hT
  go_enter Tryd.func7, Tryd.ntmps7
  go_wp2_with fail
  have N0 : New w ((w.alloc (.cells p.cs 27)).alloc (.cells q.cs 27)) := (New.alloc _).trans (New.alloc _)
  have HN := Lib.hid N0
  have Hd := Lib.hid ((Blk.new w 27 p.cs).alloc (.cells q.cs 27))
  have Hq : Hid (Blk ((w.alloc (.cells p.cs 27)).alloc (.cells q.cs 27)) (w.heap.size + 1) 27 q.cs) := Lib.hid (by
    have := Blk.new (w.alloc (.cells p.cs 27)) 27 q.cs
    simpa using this)
  clear N0
  refine (C1 _).mono ?_
  rintro e w1 ⟨rfl, hn⟩
  have HN := Lib.hid (HN.out.trans hn)
  have Hd := Lib.hid (Hd.out.fr hn (fun h => h))
  have Hq := Lib.hid (Hq.out.fr hn (fun h => h))
  clear hn
  obtain ⟨q0, q1, q2, q3, q4, q5, q6, q7, q8, q9, q10⟩ := Hq.out.eleven
  go_wp2_with fail
  refine (C2 _).mono ?_
  rintro e w2 ⟨⟨a, f, rfl, -⟩, hn⟩
  have HN := Lib.hid (HN.out.trans hn)
  have Hd := Lib.hid (Hd.out.fr hn (fun h => h))
  have Hq := Lib.hid (Hq.out.fr hn (fun h => h))
  clear hn
  clear q0 q1 q2 q3 q4 q5 q6 q7 q8 q9 q10
  obtain ⟨d0, d1, d2, d3, d4, d5, d6, d7, d8, d9, d10⟩ := Hd.out.eleven
  go_wp2_with fail
  refine (C3 _).mono ?_
  rintro e w3 ⟨rfl, hn⟩
  have HN := Lib.hid (HN.out.trans hn)
  have Hd := Lib.hid (Hd.out.fr hn (fun h => h))
  have Hq := Lib.hid (Hq.out.fr hn (fun h => h))
  clear hn
  clear d0 d1 d2 d3 d4 d5 d6 d7 d8 d9 d10
  go_wp2_with fail
  refine (U1 _).mono ?_
  rintro e w4 ⟨rfl, hn⟩
  have HN := Lib.hid (HN.out.trans hn)
  have Hd := Lib.hid (Hd.out.fr hn (fun h => h))
  have Hq := Lib.hid (Hq.out.fr hn (fun h => h))
  clear hn
  have HN := Lib.hid (HN.out.trans (New.alloc (.cells z.cs 27)))
  have Hd := Lib.hid (Hd.out.alloc (.cells z.cs 27))
  have Hq := Lib.hid (Hq.out.alloc (.cells z.cs 27))
  have Hz := Lib.hid (Blk.new w4 27 z.cs)
  obtain ⟨z0, z1, z2, z3, z4, z5, z6, z7, z8, z9, z10⟩ := Hz.out.eleven
  go_wp2_with fail
  refine (U2 _).mono ?_
  rintro e w5 ⟨rfl, hn⟩
  have HN := Lib.hid (HN.out.trans hn)
  have Hd := Lib.hid (Hd.out.fr hn (fun h => h))
  have Hq := Lib.hid (Hq.out.fr hn (fun h => h))
  have Hz := Lib.hid (Hz.out.fr hn (fun h => h))
  clear hn
  clear z0 z1 z2 z3 z4 z5 z6 z7 z8 z9 z10
  obtain ⟨z0, z1, z2, z3, z4, z5, z6, z7, z8, z9, z10⟩ := Hz.out.eleven
  go_wp2_with fail
  refine (U3 _).mono ?_
  rintro e w6 ⟨rfl, hn⟩
  have HN := Lib.hid (HN.out.trans hn)
  have Hd := Lib.hid (Hd.out.fr hn (fun h => h))
  have Hq := Lib.hid (Hq.out.fr hn (fun h => h))
  have Hz := Lib.hid (Hz.out.fr hn (fun h => h))
  clear hn
  clear z0 z1 z2 z3 z4 z5 z6 z7 z8 z9 z10
  go_wp2_with fail
  refine (All_any _).mono ?_
  rintro e w7 ⟨b, rfl, -, -, hn⟩
  have HN := Lib.hid (HN.out.trans hn)
  clear hn
  go_wp2_with fail
  refine (known_any _ (HT.out.new HN.out)).mono ?_
  rintro e w8 ⟨rfl, hn⟩
  have HN := Lib.hid (HN.out.trans hn)
  clear hn
  go_wp2_with fail
  go_ret
  exact ⟨rfl, HN.out⟩

set_option maxRecDepth 20000 in
set_option maxHeartbeats 3200000 in
theorem holds_bad_no (p q : Pn) (hq : q.Ok) (x : Int) (h0 : 0 ≤ x) (h1 : x < 18446744073709551616) (n : Nat) (hn : n ≤ 20) (A : Option Addr) (cap : Nat) (w : World) (hT : Tab w) (hv : validB p = false) (hx : wordI (penW x) ≠ x) :
    Calls Tryd.prog 7 #[p.v, q.v, .int .u64 x, .slice A n cap] w fun e w' => e = .returned (.bool true) ∧ New w w' := by
  have U1 := fun w => Unpack_no x h0 h1 hx w
  clear hx
  have C1 := fun w => Pack_no p hv w
  have C2 := fun w => Pack_q q hq w
  have C3 := fun w => Valid_any p w
  rw [hv] at C3
  clear hv
  have HT := Lib.hid hT
  clear hT
  go_enter Tryd.func7, Tryd.ntmps7
  go_wp2_with fail
  have N0 : New w ((w.alloc (.cells p.cs 27)).alloc (.cells q.cs 27)) := (New.alloc _).trans (New.alloc _)
  have HN := Lib.hid N0
  have Hd := Lib.hid ((Blk.new w 27 p.cs).alloc (.cells q.cs 27))
  have Hq : Hid (Blk ((w.alloc (.cells p.cs 27)).alloc (.cells q.cs 27)) (w.heap.size + 1) 27 q.cs) := Lib.hid (by
    have := Blk.new (w.alloc (.cells p.cs 27)) 27 q.cs
    simpa using this)
  clear N0
  refine (C1 _).mono ?_
  rintro e w1 ⟨rfl, hn⟩
  have HN := Lib.hid (HN.out.trans hn)
  have Hd := Lib.hid (Hd.out.fr hn (fun h => h))
  have Hq := Lib.hid (Hq.out.fr hn (fun h => h))
  clear hn
  obtain ⟨q0, q1, q2, q3, q4, q5, q6, q7, q8, q9, q10⟩ := Hq.out.eleven
  go_wp2_with fail
  refine (C2 _).mono ?_
  rintro e w2 ⟨⟨a, f, rfl, -⟩, hn⟩
  have HN := Lib.hid (HN.out.trans hn)
  have Hd := Lib.hid (Hd.out.fr hn (fun h => h))
  have Hq := Lib.hid (Hq.out.fr hn (fun h => h))
  clear hn
  clear q0 q1 q2 q3 q4 q5 q6 q7 q8 q9 q10
  obtain ⟨d0, d1, d2, d3, d4, d5, d6, d7, d8, d9, d10⟩ := Hd.out.eleven
  go_wp2_with fail
  refine (C3 _).mono ?_
  rintro e w3 ⟨rfl, hn⟩
  have HN := Lib.hid (HN.out.trans hn)
  have Hd := Lib.hid (Hd.out.fr hn (fun h => h))
  have Hq := Lib.hid (Hq.out.fr hn (fun h => h))
  clear hn
  clear d0 d1 d2 d3 d4 d5 d6 d7 d8 d9 d10
  go_wp2_with fail
  refine (U1 _).mono ?_
  rintro e w4 ⟨rfl, hn⟩
  have HN := Lib.hid (HN.out.trans hn)
  have Hd := Lib.hid (Hd.out.fr hn (fun h => h))
  have Hq := Lib.hid (Hq.out.fr hn (fun h => h))
  clear hn
  have HN := Lib.hid (HN.out.trans (New.alloc (.cells zeroP.cs 27)))
  have Hd := Lib.hid (Hd.out.alloc (.cells zeroP.cs 27))
  have Hq := Lib.hid (Hq.out.alloc (.cells zeroP.cs 27))
  go_wp2_with fail
  refine (All_any _).mono ?_
  rintro e w5 ⟨b, rfl, -, -, hn⟩
  have HN := Lib.hid (HN.out.trans hn)
  clear hn
  go_wp2_with fail
  refine (known_any _ (HT.out.new HN.out)).mono ?_
  rintro e w6 ⟨rfl, hn⟩
  have HN := Lib.hid (HN.out.trans hn)
  clear hn
  go_wp2_with fail
  go_ret
  exact ⟨rfl, HN.out⟩

set_option maxRecDepth 20000 in
set_option maxHeartbeats 16000000 in
theorem holds_good (p q : Pn) (hp : p.Ok) (hq : q.Ok) (x : Int) (h0 : 0 ≤ x) (h1 : x < 18446744073709551616) (l : List Nat) (n : Nat) (hn : l.length = n) (hn20 : n ≤ 20) (hl : ∀ y ∈ l, y ≤ 255) (bl : Nat) (A : Option Addr) (cap : Nat) (w : World) (hT : Tab w) (hr : Rd w bl A n (l.map fun y : Nat => Value.int .u8 (y : Int))) (hv : validB p = true) :
    Calls Tryd.prog 7 #[p.v, q.v, .int .u64 x, .slice A n cap] w fun e w' => e = .returned (.bool true) ∧ New w w' := by
  have C1 := fun w => Pack_yes p hp hv w
  have C2 := fun w => Pack_q q hq w
  have C3 := fun w => Valid_any p w
  have hlt := word_lt hp
  have C4 := fun w => unpacks_yes (wordI p) hlt.1 (by omega) p (penW_word hp hv) rfl w
  rw [hv] at C3
  obtain ⟨hlt0, hlt1⟩ := hlt
  have HV := Lib.hid hv
  have HL := Lib.hid hl
  have HR := Lib.hid hr
  have HLN := Lib.hid hn
  clear hv hl hr hn
  have HT := Lib.hid hT
  clear hT
  go_enter Tryd.func7, Tryd.ntmps7
  go_wp2_with fail
  have N0 : New w ((w.alloc (.cells p.cs 27)).alloc (.cells q.cs 27)) := (New.alloc _).trans (New.alloc _)
  have HN := Lib.hid N0
  have Hd := Lib.hid ((Blk.new w 27 p.cs).alloc (.cells q.cs 27))
  have Hq : Hid (Blk ((w.alloc (.cells p.cs 27)).alloc (.cells q.cs 27)) (w.heap.size + 1) 27 q.cs) := Lib.hid (by
    have := Blk.new (w.alloc (.cells p.cs 27)) 27 q.cs
    simpa using this)
  clear N0
  refine (C1 _).mono ?_
  rintro e w1 ⟨rfl, hn⟩
  have HN := Lib.hid (HN.out.trans hn)
  have Hd := Lib.hid (Hd.out.fr hn (fun h => h))
  have Hq := Lib.hid (Hq.out.fr hn (fun h => h))
  clear hn
  obtain ⟨q0, q1, q2, q3, q4, q5, q6, q7, q8, q9, q10⟩ := Hq.out.eleven
  go_wp2_with fail
  refine (C2 _).mono ?_
  rintro e w2 ⟨⟨a, f, rfl, hPR⟩, hn⟩
  have HN := Lib.hid (HN.out.trans hn)
  have Hd := Lib.hid (Hd.out.fr hn (fun h => h))
  have Hq := Lib.hid (Hq.out.fr hn (fun h => h))
  clear hn
  clear q0 q1 q2 q3 q4 q5 q6 q7 q8 q9 q10
  have HPR := Lib.hid hPR
  clear hPR
  generalize w.heap.size = g at Hd Hq
  go_upto_region 5 with fail
  go_cut [74] (fun v wx => v = .bool false ∧ New w wx ∧ Blk wx g 27 p.cs)
  case first =>
    have jge : decide (1152921504606846976 ≤ wordI p) = false := decide_eq_false (by omega)
    rcases HPR.out with ⟨hqv, rfl, rfl⟩ | ⟨hqv, rfl, rfl⟩
    · by_cases hpq : p = q
      · have heq : ∀ w, (Op.equalIn 10000 27 (.agg p.cs) (.agg q.cs)).run Tryd.prog w = .ok true w := by rw [← hpq]; exact eq_self p
        have gd := guard27
        have jw : (wordI p == wordI q) = true := by rw [← hpq]; simp
        clear hpq
        obtain ⟨d0, d1, d2, d3, d4, d5, d6, d7, d8, d9, d10⟩ := Hd.out.eleven
        go_wp2_with fail
        refine (C3 _).mono ?_
        rintro e w3 ⟨rfl, hn⟩
        have HN := Lib.hid (HN.out.trans hn)
        have Hd := Lib.hid (Hd.out.fr hn (fun h => h))
        have Hq := Lib.hid (Hq.out.fr hn (fun h => h))
        clear hn
        clear d0 d1 d2 d3 d4 d5 d6 d7 d8 d9 d10
        obtain ⟨d0, d1, d2, d3, d4, d5, d6, d7, d8, d9, d10⟩ := Hd.out.eleven
        go_wp2_with fail
        refine (C4 _).mono ?_
        rintro e w4 ⟨rfl, hn⟩
        have HN := Lib.hid (HN.out.trans hn)
        have Hd := Lib.hid (Hd.out.fr hn (fun h => h))
        have Hq := Lib.hid (Hq.out.fr hn (fun h => h))
        clear hn
        clear d0 d1 d2 d3 d4 d5 d6 d7 d8 d9 d10
        obtain ⟨d0, d1, d2, d3, d4, d5, d6, d7, d8, d9, d10⟩ := Hd.out.eleven
        obtain ⟨q0, q1, q2, q3, q4, q5, q6, q7, q8, q9, q10⟩ := Hq.out.eleven
        go_wp2_with fail
        go_meet
        exact ⟨rfl, HN.out, Hd.out⟩
      · have heq := eq_no p q hpq
        have gd := guard27
        have jw : (wordI p == wordI q) = false := by
          have := fun h => hpq (word_inj hp hq HV.out hqv h)
          simpa using this
        clear hpq
        obtain ⟨d0, d1, d2, d3, d4, d5, d6, d7, d8, d9, d10⟩ := Hd.out.eleven
        go_wp2_with fail
        refine (C3 _).mono ?_
        rintro e w3 ⟨rfl, hn⟩
        have HN := Lib.hid (HN.out.trans hn)
        have Hd := Lib.hid (Hd.out.fr hn (fun h => h))
        have Hq := Lib.hid (Hq.out.fr hn (fun h => h))
        clear hn
        clear d0 d1 d2 d3 d4 d5 d6 d7 d8 d9 d10
        obtain ⟨d0, d1, d2, d3, d4, d5, d6, d7, d8, d9, d10⟩ := Hd.out.eleven
        go_wp2_with fail
        refine (C4 _).mono ?_
        rintro e w4 ⟨rfl, hn⟩
        have HN := Lib.hid (HN.out.trans hn)
        have Hd := Lib.hid (Hd.out.fr hn (fun h => h))
        have Hq := Lib.hid (Hq.out.fr hn (fun h => h))
        clear hn
        clear d0 d1 d2 d3 d4 d5 d6 d7 d8 d9 d10
        obtain ⟨d0, d1, d2, d3, d4, d5, d6, d7, d8, d9, d10⟩ := Hd.out.eleven
        obtain ⟨q0, q1, q2, q3, q4, q5, q6, q7, q8, q9, q10⟩ := Hq.out.eleven
        go_wp2_with fail
        go_meet
        exact ⟨rfl, HN.out, Hd.out⟩
    · clear hqv
      obtain ⟨d0, d1, d2, d3, d4, d5, d6, d7, d8, d9, d10⟩ := Hd.out.eleven
      go_wp2_with fail
      refine (C3 _).mono ?_
      rintro e w3 ⟨rfl, hn⟩
      have HN := Lib.hid (HN.out.trans hn)
      have Hd := Lib.hid (Hd.out.fr hn (fun h => h))
      clear hn
      clear d0 d1 d2 d3 d4 d5 d6 d7 d8 d9 d10
      obtain ⟨d0, d1, d2, d3, d4, d5, d6, d7, d8, d9, d10⟩ := Hd.out.eleven
      go_wp2_with fail
      refine (C4 _).mono ?_
      rintro e w4 ⟨rfl, hn⟩
      have HN := Lib.hid (HN.out.trans hn)
      have Hd := Lib.hid (Hd.out.fr hn (fun h => h))
      clear hn
      clear d0 d1 d2 d3 d4 d5 d6 d7 d8 d9 d10
      go_wp2_with fail
      go_meet
      exact ⟨rfl, HN.out, Hd.out⟩
  case rest =>
    obtain ⟨rfl, hN, hB⟩ := hcut
    have HN := Lib.hid hN
    have Hd := Lib.hid hB
    clear hN hB Hq
    go_wp2_with fail
    refine (Unpack_q x h0 h1 _).mono ?_
    rintro e w3 ⟨⟨z, f2, rfl, hUR⟩, hn⟩
    have HUR := Lib.hid hUR
    have HN := Lib.hid ((HN.out.trans hn).trans (New.alloc (.cells z.cs 27)))
    have Hd := Lib.hid ((Hd.out.fr hn (fun h => h)).alloc (.cells z.cs 27))
    have Hz := Lib.hid (Blk.new w3 27 z.cs)
    clear hn hUR C1 C2 C3 C4
    go_upto_region 8 with fail
    generalize w3.alloc (.cells z.cs 27) = W3 at *
    generalize w3.heap.size = gz at *
    go_cut [92] (fun v wx => v = .bool false ∧ New w wx ∧ Blk wx g 27 p.cs)
    case first =>
      rcases HUR.out with ⟨hz, hx, rfl⟩ | ⟨-, rfl⟩
      · have U2 := fun w => Valid_any z w
        have U3 := fun w => packs_yes z (hz ▸ penW_ok x) (hz ▸ validB_penW x) x hx w
        have hzv : validB z = true := hz ▸ validB_penW x
        rw [hzv] at U2
        clear hx hzv hz
        obtain ⟨z0, z1, z2, z3, z4, z5, z6, z7, z8, z9, z10⟩ := Hz.out.eleven
        go_wp2_with fail
        refine (U2 _).mono ?_
        rintro e w4 ⟨rfl, hn⟩
        have HN := Lib.hid (HN.out.trans hn)
        have Hd := Lib.hid (Hd.out.fr hn (fun h => h))
        have Hz := Lib.hid (Hz.out.fr hn (fun h => h))
        clear hn
        clear z0 z1 z2 z3 z4 z5 z6 z7 z8 z9 z10
        obtain ⟨z0, z1, z2, z3, z4, z5, z6, z7, z8, z9, z10⟩ := Hz.out.eleven
        go_wp2_with fail
        refine (U3 _).mono ?_
        rintro e w5 ⟨rfl, hn⟩
        have HN := Lib.hid (HN.out.trans hn)
        have Hd := Lib.hid (Hd.out.fr hn (fun h => h))
        have Hz := Lib.hid (Hz.out.fr hn (fun h => h))
        clear hn
        clear z0 z1 z2 z3 z4 z5 z6 z7 z8 z9 z10
        go_wp2_with fail
        go_meet
        exact ⟨rfl, HN.out, Hd.out⟩
      · go_wp2_with fail
        go_meet
        exact ⟨rfl, HN.out, Hd.out⟩
    case rest =>
      obtain ⟨rfl, hN, hB⟩ := hcut
      have HN := Lib.hid hN
      have Hd := Lib.hid hB
      clear hN hB Hz HUR HPR
      go_wp2_with fail
      refine (All_any _).mono ?_
      rintro e w4 ⟨b, rfl, hb, hbw, hn⟩
      have HN := Lib.hid (HN.out.trans hn)
      have Hd := Lib.hid (Hd.out.fr hn (fun h => h))
      have HA := Lib.hid hb
      clear hn hb hbw
      go_upto_region 14 with fail
      have htw : w.heap.size ≤ w4.heap.size := HN.out.size
      have HN := Lib.hid (HN.out.trans (New.alloc (.cells (thereV []) 55)))
      have Hd := Lib.hid (Hd.out.alloc (.cells (thereV []) 55))
      have HA := Lib.hid (HA.out.alloc (.cells (thereV []) 55))
      have Ht := Lib.hid (Blk.new w4 55 (thereV []))
      change Code.wp _ _ _ _ (w4.alloc (.cells (thereV []) 55))
      generalize w4.alloc (.cells (thereV []) 55) = W4 at *
      generalize w4.heap.size = t at *
      have hgt : g < W4.heap.size := Hd.out.lt
      have hwW : w.heap.size ≤ W4.heap.size := HN.out.size
      go_cut [17, 18] (fun v17 v18 wx => ∃ gx gy, v17 = .pointer (some ⟨gx, 0, none⟩) ∧ v18 = .pointer (some ⟨gy, 0, none⟩) ∧ Apart w g t gx gy ∧ Met5 p w wx g b t gx gy 0 0 [])
      case first =>
        go_region_held3 (fun w' => w'.cell? ⟨g, 0, none⟩ = some (.int .i64 p.fore.k) ∧ w'.cell? ⟨g, 1, none⟩ = some (.int .u8 p.fore.i) ∧ w'.cell? ⟨g, 2, none⟩ = some (.int .u8 p.fore.r) ∧ w'.cell? ⟨g, 3, none⟩ = some (.int .u8 p.fore.g) ∧ w'.cell? ⟨g, 4, none⟩ = some (.int .u8 p.fore.b) ∧ w'.cell? ⟨g, 5, none⟩ = some (.int .i64 p.back.k) ∧ w'.cell? ⟨g, 6, none⟩ = some (.int .u8 p.back.i) ∧ w'.cell? ⟨g, 7, none⟩ = some (.int .u8 p.back.r) ∧ w'.cell? ⟨g, 8, none⟩ = some (.int .u8 p.back.g) ∧ w'.cell? ⟨g, 9, none⟩ = some (.int .u8 p.back.b)) (first | (refine Hd.out.ten_new ?_; repeat (first | exact Fr.refl _ _ | apply Fr.drew | apply Fr.alloc | (refine Fr.setCell ?_ (.inr (by simp)) _)))) (first | fail)
        all_goals
          first | go_wp2_with fail | skip
          go_meet
          have H0 := Lib.hid (Blk.new W4 27 (pf p 0))
          have H1 : Hid (Blk ((W4.alloc (.cells (pf p 0) 27)).alloc (.cells (pf p 0) 27)) (W4.heap.size + 1) 27 (pf p 0)) := Lib.hid (by
            have := Blk.new (W4.alloc (.cells (pf p 0) 27)) 27 (pf p 0)
            simpa using this)
          refine ⟨_, _, rfl, rfl, ⟨htw, ?_, ?_, ?_, ?_, ?_⟩, ?_, ?_, ?_, ?_, ?_, ?_⟩
          all_goals first
            | omega
            | exact Fr.drew ((HN.out.trans (New.alloc _)).trans (New.alloc _))
            | exact (Hd.out.alloc _).alloc _
            | exact (HA.out.alloc _).alloc _
            | exact (Ht.out.alloc _).alloc _
            | exact H0.out.alloc _
            | exact H1.out
      case rest =>
        obtain ⟨gx, gy, rfl, rfl, hap, hm5⟩ := hcut
        have HAP := Lib.hid hap
        have HM := Lib.hid hm5
        clear hap hm5 hgt hwW HN Hd HA Ht htw
        go_wp2_with fail
        have hvp := HV.out
        have hlen := HLN.out
        clear h0 h1 hlt0 hlt1
        go_loopw [10, 19, 20, 21, 22, 119] (fun _ _ _ _ _ i wr => ∃ k F G : Nat, k ≤ n ∧ i = .int .i64 k ∧ Met5 p w wr g b t gx gy F G (l.take k) ∧ Fl F (l.take k) ∧ Fl G (l.drop (n - k))) (fun _ _ _ _ _ i _ => n - (intOf i).toNat)
        case atStart =>
          refine ⟨0, 0, 0, by omega, rfl, HM.out, Fl.nil, ?_⟩
          rw [Nat.sub_zero, ← HLN.out, List.drop_length]
          exact Fl.nil
        case round =>
          obtain ⟨k, F, G, hk, rfl, hm5, hF, hG⟩ := hrel
          have HM := Lib.hid hm5
          have HF := Lib.hid hF
          have HG := Lib.hid hG
          clear hm5 hF hG
          by_cases hkn : k < n
          · obtain ⟨o, hA, -, hcells⟩ := HR.out.2 (by omega)
            subst hA
            have hk1 : k < l.length := by omega
            have hk2 : n - 1 - k < l.length := by omega
            have s1 := take_step l k hk1
            have s2 := drop_step l k hk1
            obtain ⟨y1, hy1⟩ : ∃ y, l[k] = y := ⟨_, rfl⟩
            obtain ⟨y2, hy2⟩ : ∃ y, l[n - 1 - k] = y := ⟨_, rfl⟩
            have q1 : w.cell? ⟨bl, o + k, none⟩ = some (.int .u8 (y1 : Int)) := by rw [hcells k hkn, List.getElem?_map, List.getElem?_eq_getElem hk1, hy1]; rfl
            have q2 : w.cell? ⟨bl, o + (n - 1 - k), none⟩ = some (.int .u8 (y2 : Int)) := by rw [hcells (n - 1 - k) (by omega), List.getElem?_map, List.getElem?_eq_getElem hk2, hy2]; rfl
            have z1 := HL.out y1 (hy1 ▸ List.getElem_mem hk1)
            have z2 := HL.out y2 (hy2 ▸ List.getElem_mem hk2)
            have e2 : l[l.length - 1 - k]'(by omega) = y2 := by rw [← hy2]; congr 1; omega
            rw [hy1] at s1
            rw [e2, hlen] at s2
            have HS1 := Lib.hid s1
            have HS2 := Lib.hid s2
            obtain ⟨m1, hm1⟩ : ∃ m, y1 % 8 = m := ⟨_, rfl⟩
            obtain ⟨m2, hm2⟩ : ∃ m, y2 % 8 = m := ⟨_, rfl⟩
            have HM1 := Lib.hid hm1
            have HM2 := Lib.hid hm2
            have g1 : m1 < 8 := by omega
            have g2 : m2 < 8 := by omega
            have r1 : (y1 : Int) % 8 = (m1 : Int) := by omega
            have r2 : (y2 : Int) % 8 = (m2 : Int) := by omega
            have t1 : (y1 : Int).tmod 8 = (m1 : Int) := by rw [Int.tmod_eq_emod_of_nonneg (by omega)]; exact r1
            have t2 : (y2 : Int).tmod 8 = (m2 : Int) := by rw [Int.tmod_eq_emod_of_nonneg (by omega)]; exact r2
            have hblw : bl < w.heap.size := World.block_lt_of_cell? w _ q1
            have hblt : bl ≠ t := by have := HAP.out.t; omega
            have p1 := (HM.out.new.cell (p := ⟨bl, o + k, none⟩) hblw (fun h => h)).trans q1
            have p2 := ((HM.out.new.cell (p := ⟨bl, o + (n - 1 - k), none⟩) hblw (fun h => h)).trans q2)
            have ct := (HM.out.th.cell m1).trans (thereV_at _ m1 g1)
            have ft := HM.out.th.frozen m1
            clear s1 s2 hy1 hy2 e2 hm1 hm2 hcells q1 q2 hblw hk1 hk2
            go_upto_region 21 with fail
            have HM := Lib.hid (HM.out.sett HAP.out HM1.out)
            clear ct ft p1 p2
            generalize wr.setCell ⟨t, m1, none⟩ (.bool true) = W1 at *
            go_cut [10] (fun v wx => v = .int .i64 0 ∧ Met5 p w wx g b t gx gy (F ||| 2 ^ m1) G (l.take k ++ [y1]))
            case first =>
              obtain ⟨c0, c1, c2, c3, c4, c5, c6, c7, c8, c9, c10⟩ := HM.out.x.eleven
              have cf := (HM.out.fl.cell m1).trans (flags8_at m1 g1)
              go_region_with (go_at_call 26; go_must (refine (With_bit p hvp F m1 HF.out.lt g1 _).mono ?_); rintro e w5 ⟨rfl, hn⟩; have HM5 := Lib.hid (HM.out.go hn.of_drew); obtain ⟨q0, q1, q2, q3, q4, q5, q6, q7, q8, q9, q10⟩ := HM5.out.x.eleven; have fz := HM5.out.x.free; clear hn)
              all_goals
                first | go_wp2_with fail | skip
                go_meet
                exact ⟨rfl, HM5.out.setx HAP.out _⟩
            case rest =>
              obtain ⟨rfl, hm⟩ := hcut
              have HM := Lib.hid hm
              clear hm
              go_upto_region 22 with fail
              go_cut [22] (fun v wx => v = .int .i64 0 ∧ Met5 p w wx g b t gx gy (F ||| 2 ^ m1) (G ||| 2 ^ m2) (l.take k ++ [y1]))
              case first =>
                obtain ⟨c0, c1, c2, c3, c4, c5, c6, c7, c8, c9, c10⟩ := HM.out.y.eleven
                have cf := (HM.out.fl.cell m2).trans (flags8_at m2 g2)
                go_region_with (go_at_call 26; go_must (refine (With_bit p hvp G m2 HG.out.lt g2 _).mono ?_); rintro e w5 ⟨rfl, hn⟩; have HM5 := Lib.hid (HM.out.go hn.of_drew); obtain ⟨q0, q1, q2, q3, q4, q5, q6, q7, q8, q9, q10⟩ := HM5.out.y.eleven; have fz := HM5.out.y.free; clear hn)
                all_goals
                  first | go_wp2_with fail | skip
                  go_meet
                  exact ⟨rfl, HM5.out.sety HAP.out _⟩
              case rest =>
                obtain ⟨rfl, hm⟩ := hcut
                have HM := Lib.hid hm
                clear hm
                go_wp2_with fail
                go_roundw
                case rel =>
                  refine ⟨k + 1, F ||| 2 ^ m1, G ||| 2 ^ m2, by omega, by go_num, ?_, ?_, ?_⟩
                  · rw [HS1.out]; exact HM.out
                  · rw [HS1.out]; exact HF.out.or HM1.out
                  · rw [HS2.out]; exact HG.out.or' HM2.out
                case measure => simp [intOf]; omega
          · obtain rfl : k = n := by omega
            have hFG : F = G := by
              have h1 := HF.out
              have h2 := HG.out
              rw [← hlen, List.take_length] at h1
              rw [Nat.sub_self, List.drop_zero] at h2
              exact h1.eq h2
            subst hFG
            have HFl : Hid (Fl F l) := Lib.hid (by
              have h1 := HF.out
              rwa [← hlen, List.take_length] at h1)
            have HM : Hid (Met5 p w wr g b t gx gy F F l) := Lib.hid (by
              have h1 := HM.out
              rwa [← hlen, List.take_length] at h1)
            clear HF HG HL HR hk
            have heq := eq_selff p F
            have heq1 := eq_selfk p.fore
            have heq2 := eq_selfk p.back
            have gd1 := guard24
            have gd2 := guard27
            obtain ⟨c0, c1, c2, c3, c4, c5, c6, c7, c8, c9, c10⟩ := HM.out.x.eleven
            obtain ⟨q0, q1, q2, q3, q4, q5, q6, q7, q8, q9, q10⟩ := HM.out.y.eleven
            obtain ⟨d0, d1, d2, d3, d4, d5, d6, d7, d8, d9, d10⟩ := HM.out.pn.eleven
            have j0 : wr.cell? ⟨t, 0, none⟩ = some (.bool (setB l 0)) := HM.out.th.cell 0
            have j1 : wr.cell? ⟨t, 1, none⟩ = some (.bool (setB l 1)) := HM.out.th.cell 1
            have j2 : wr.cell? ⟨t, 2, none⟩ = some (.bool (setB l 2)) := HM.out.th.cell 2
            have j3 : wr.cell? ⟨t, 3, none⟩ = some (.bool (setB l 3)) := HM.out.th.cell 3
            have j4 : wr.cell? ⟨t, 4, none⟩ = some (.bool (setB l 4)) := HM.out.th.cell 4
            have j5 : wr.cell? ⟨t, 5, none⟩ = some (.bool (setB l 5)) := HM.out.th.cell 5
            have j6 : wr.cell? ⟨t, 6, none⟩ = some (.bool (setB l 6)) := HM.out.th.cell 6
            have j7 : wr.cell? ⟨t, 7, none⟩ = some (.bool (setB l 7)) := HM.out.th.cell 7
            go_wp2_with fail
            clear heq heq1 heq2 gd1 gd2 j0 j1 j2 j3 j4 j5 j6 j7 c0 c1 c2 c3 c4 c5 c6 c7 c8 c9 c10 q0 q1 q2 q3 q4 q5 q6 q7 q8 q9 q10 d0 d1 d2 d3 d4 d5 d6 d7 d8 d9 d10
            obtain ⟨wo, rfl⟩ : ∃ wo : World, wo = wr := ⟨_, rfl⟩
            go_loopw [23, 24, 180] (fun _ _ i wr => ∃ k : Nat, k ≤ 8 ∧ i = .int .i64 k ∧ Met5 p w wr g b t gx gy F F l) (fun _ _ i _ => 8 - (intOf i).toNat)
            case atStart => exact ⟨0, by omega, rfl, HM.out⟩
            case round =>
              obtain ⟨k, hk, rfl, hm5⟩ := hrel
              have HM := Lib.hid hm5
              clear hm5
              by_cases hk8 : k < 8
              · have hix := bidx l k hk8
                obtain ⟨cb, hcb⟩ : ∃ cb, setB l k = cb := ⟨_, rfl⟩
                rw [hcb] at hix
                have HCB := Lib.hid hcb
                clear hcb
                obtain ⟨c0, c1, c2, c3, c4, c5, c6, c7, c8, c9, c10⟩ := HM.out.x.eleven
                have cf := (HM.out.fl.cell k).trans (flags8_at k hk8)
                have hd : Met5 p w wr.drew g b t gx gy F F l := HM.out.drew
                have HD := Lib.hid hd
                clear hd
                cases cb
                all_goals
                  go_wp2_with fail
                  go_region_held3 (fun w' => w'.cell? ⟨gx, 0, none⟩ = some (.int .i64 p.fore.k) ∧ w'.cell? ⟨gx, 1, none⟩ = some (.int .u8 p.fore.i) ∧ w'.cell? ⟨gx, 2, none⟩ = some (.int .u8 p.fore.r) ∧ w'.cell? ⟨gx, 3, none⟩ = some (.int .u8 p.fore.g) ∧ w'.cell? ⟨gx, 4, none⟩ = some (.int .u8 p.fore.b) ∧ w'.cell? ⟨gx, 5, none⟩ = some (.int .i64 p.back.k) ∧ w'.cell? ⟨gx, 6, none⟩ = some (.int .u8 p.back.i) ∧ w'.cell? ⟨gx, 7, none⟩ = some (.int .u8 p.back.r) ∧ w'.cell? ⟨gx, 8, none⟩ = some (.int .u8 p.back.g) ∧ w'.cell? ⟨gx, 9, none⟩ = some (.int .u8 p.back.b) ∧ w'.cell? ⟨gx, 10, none⟩ = some (.int .u8 F) ∧ w'.cell? ⟨b, k, none⟩ = some (.int .u8 (flagAt k))) (first | go_keep | exact met_cells HM.out k hk8) (first | (go_at_call 27; refine (Has_bit p F l HFl.out k hk8 _ HCB.out _).mono ?_; rintro e w5 ⟨rfl, hn⟩; have HM := Lib.hid (HM.out.go hn.of_drew); clear hn))
                  all_goals
                    go_wp2_with fail
                    go_roundw
                    case rel => exact ⟨k + 1, by omega, by go_num, HM.out⟩
                    case measure => simp [intOf]; omega
              · obtain rfl : k = 8 := by omega
                go_wp2_with fail
                refine (known_any _ (HT.out.new HM.out.new)).mono ?_
                rintro e w6 ⟨rfl, hn⟩
                have HN := Lib.hid (HM.out.new.trans hn)
                clear hn
                go_wp2_with fail
                go_ret
                exact ⟨rfl, HN.out⟩


end Go.Proofs.YtgmgojoklacdlaaDoor
