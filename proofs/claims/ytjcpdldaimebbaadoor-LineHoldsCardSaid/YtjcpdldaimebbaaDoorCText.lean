/-
  The text of a cell: the specification's.
-/
import Derived.Test.YtjcpdldaimebbaaDoorCLeaf
import Derived.OpenShut
import Derived.Laws.Cover4
namespace Go.Proofs.YtjcpdldaimebbaaDoor
open Go.RowKit

def R32 (l : List Int) : List Value := l.map (.int .i32)

theorem info32' : (Tryd.prog.info? 21).map (fun i => (i.zero, i.size, i.bytes)) = some (some (.int .i32 0), 1, 4) := by kernel_rfl

/-- append of runes onto a row of the call's own -/
theorem app32 {w : World} {ops : Array Oper} {rest : List Oper} {o : Oper} {a : Act} {Q : Exit → Act → World → Prop} (hgd : o.guard = none) (s x : Operand)
    (ho : o.op = .call { callee := .builtin .append, args := #[s, x], argTypes := #[74, 74] })
    (base : Nat) (v : Value) (n : Nat) (xs : List Value) (hs : a.eval s = v) (hown : w.ownsRow base 21 1 v n xs)
    (b : Nat) (A : Option Addr) (m c : Nat) (news : List Value) (hx : a.eval x = .slice A m c) (hr : Rd w b A m news) (h1 : ∀ u ∈ news, u.oneCell' = true)
    (hnm : n + m ≤ 1000000000) (hbase : base ≤ w.heap.size)
    (h : ∀ v' w', w'.ownsRow base 21 1 v' (n + m) (xs ++ news) → w.grownBy w' v.ownBlock → wpList Tryd.prog ops Q rest (a.put o.dst v') w') : wpList Tryd.prog ops Q (o :: rest) a w := by
  obtain ⟨i0, hi, hz0, hz1, hz2⟩ := info_parts info32'
  exact wpList_append_any w hgd s x 74 ho base 21 i0 (.int .i32 0) 4 Tryd.underlying74 hi hz0 hz1 hz2 rfl v n xs hs hown b A m c news hx hr h1 (by unfold maxLen; omega) (by omega) hbase (fun v' w' h2 h3 _ => h v' w' h2 h3)

theorem own_rd {w : World} {base : Nat} {v : Value} {n : Nat} {xs : List Value} (h : w.ownsRow base 21 1 v n xs) : ∃ b A c, v = .slice A n c ∧ n ≤ c ∧ Rd w b A n xs := by
  obtain ⟨A, c, rfl, hc, _⟩ := own_slice h
  rcases A with _ | a
  · exact ⟨0, none, c, rfl, hc, Rd.of_own h (fun k hk => by simp [Value.ownBlock] at hk)⟩
  · exact ⟨a.block, _, c, rfl, hc, Rd.of_own h (fun k hk => by simpa [Value.ownBlock] using hk.symm)⟩


theorem conv_runes {w : World} {b n : Nat} {A : Option Addr} {l : List Int} (h : Rd w b A n (R32 l)) (c : Nat) :
    (convert 74 9 (.slice A n c)).run Tryd.prog w = .ok (.string (runesBytes l)) w := by
  have hn : l.length = n := by simpa [R32] using h.1
  rcases Nat.eq_zero_or_pos n with h0 | hp
  · have hl : l = [] := List.eq_nil_of_length_eq_zero (by omega)
    subst hl h0
    rcases A with _ | a
    · exact run_convert_runes_nil w _ _ _ _ _ Tryd.underlying74 Tryd.underlying21 Tryd.underlying9
    · exact run_convert_runes w _ _ _ a 0 c [] (by simp) Tryd.underlying74 Tryd.underlying21 Tryd.underlying9 (by simp)
  · obtain ⟨o, rfl, _, hc⟩ := h.2 hp
    have := run_convert_runes w _ _ _ ⟨b, o, none⟩ n c l (by omega) Tryd.underlying74 Tryd.underlying21 Tryd.underlying9 (fun j hj => by
      rw [addr_add, hc j (by omega)]
      simp [R32, List.getD, List.getElem?_eq_getElem hj])
    rwa [List.take_of_length_le (by omega)] at this


theorem foldl_bytes (ns : List Int) : ∀ s : ByteArray, ns.foldl (fun r n => r ++ Utf8.encode n) s = s ++ runesBytes ns := by
  unfold runesBytes
  induction ns with
  | nil => intro s; simp
  | cons n ns ih =>
    intro s
    rw [List.foldl_cons, List.foldl_cons, ih, ih (ByteArray.empty ++ _)]
    simp [ByteArray.append_assoc]
theorem runesBytes_append (a b : List Int) : runesBytes (a ++ b) = runesBytes a ++ runesBytes b := by
  have h : runesBytes (a ++ b) = b.foldl (fun r n => r ++ Utf8.encode n) (runesBytes a) := by simp [runesBytes, List.foldl_append]
  rw [h, foldl_bytes]
theorem runesBytes_nil : runesBytes [] = ByteArray.empty := rfl

/-- The marks that are not 0, of the first k. -/
def mU (k : Nat) (c : Ce) : List Int := (if 0 < k ∧ c.m0 ≠ 0 then [c.m0] else []) ++ (if 1 < k ∧ c.m1 ≠ 0 then [c.m1] else []) ++ (if 2 < k ∧ c.m2 ≠ 0 then [c.m2] else [])
theorem mU_three (c : Ce) : mU 3 c = marksI c := by
  unfold mU marksI
  by_cases a : c.m0 = 0 <;> by_cases b : c.m1 = 0 <;> by_cases d : c.m2 = 0 <;> simp [a, b, d]

theorem ret_str {a b : ByteArray} (h : a = b) : Ending.returned (.string a) = .returned (.string b) := by rw [h]
def Own32 (w : World) (base : Nat) (v : Value) (l : List Int) : Prop := w.ownsRow base 21 1 v l.length (R32 l)

theorem own_lit {w : World} (base : Nat) (e : TypeId) (cs : Array Value) (n : Nat) (xs : List Value) (hx : xs = cs.toList) (hn : xs.length = n) (hm : n ≤ maxLen) (hb : base ≤ w.heap.size) : (w.alloc (.cells cs e)).ownsRow base e 1 (.slice (some ⟨w.heap.size, 0, none⟩) n n) n xs := by
  subst hx
  refine ⟨by rw [hn, Nat.mul_one], .inr ⟨w.heap.size, n, cs, rfl, hb, Blk.new w e cs, Nat.le_refl _, hm, by simp at hn; rw [hn, Nat.mul_one], ?_⟩⟩
  rw [Nat.mul_one, ← hn, List.take_length]
theorem rd_one (w : World) (x : Int) : Rd (w.alloc (.cells #[.int .i32 x] 21)) w.heap.size (some ⟨w.heap.size, 0, none⟩) 1 (R32 [x]) :=
  Rd.of_blk (Blk.new w _ _) 0 rfl (fun j hj => by
    obtain rfl : j = 0 := by omega
    rfl)
theorem one_cells (l : List Int) : ∀ u ∈ R32 l, u.oneCell' = true := by
  intro u hu
  obtain ⟨x, _, rfl⟩ := List.mem_map.1 hu
  rfl
theorem grown_fr {w w' : World} {base : Nat} {v : Value} {n : Nat} {xs : List Value} {e : TypeId} {sz : Nat} (h : w.ownsRow base e sz v n xs) (hg : w.grownBy w' v.ownBlock) {a : World} (ha : New a w) (hb : a.heap.size ≤ base) : New a w' := by
  refine Fr.grown (S := fun _ => False) ha hg fun k hk => .inr ?_
  have := (World.ownsRow.lt h k hk).1
  omega

set_option maxHeartbeats 6400000 in
theorem RText_any (c : Ce) (w : World) :
    Calls Tryd.prog 58 #[c.v] w fun e w' => e = .returned (.string (runesBytes (textC c))) ∧ New w w' := by
  by_cases w0 : c.wd = 0
  · have j0 : (c.wd == 0) = true := by simpa using w0
    have HE : Hid (textC c = []) := Lib.hid (by simp [textC, w0])
    clear w0
    go_enter Tryd.func58, Tryd.ntmps58
    go_wp2_with fail
    go_ret
    exact ⟨ret_str (by rw [HE.out]; rfl), New.alloc _⟩
  · have j0 : (c.wd == 0) = false := by simpa using w0
    by_cases hr : c.r = 0
    · have jr : (c.r == 0) = true := by simpa using hr
      have HE : Hid (textC c = [32]) := Lib.hid (by simp [textC, w0, hr])
      clear w0 hr
      go_enter Tryd.func58, Tryd.ntmps58
      go_wp2_with fail
      go_ret
      exact ⟨ret_str (by rw [HE.out]; decide), New.alloc _⟩
    · have jr : (c.r == 0) = false := by simpa using hr
      have HE : Hid (textC c = c.r :: marksI c) := Lib.hid (by simp [textC, w0, hr])
      clear w0 hr
      go_enter Tryd.func58, Tryd.ntmps58
      go_wp2_with fail
      have HN : Hid (New w ((w.alloc (.cells c.cs 60)).alloc (.cells #[.int .i32 c.r] 21))) := Lib.hid ((New.alloc _).trans (New.alloc _))
      have HB := Lib.hid ((Blk.new w 60 c.cs).alloc (.cells #[.int .i32 c.r] 21))
      have HO : Hid (Own32 ((w.alloc (.cells c.cs 60)).alloc (.cells #[.int .i32 c.r] 21)) (w.heap.size + 1) (.slice (some ⟨w.heap.size + 1, 0, none⟩) 1 1) [c.r]) := Lib.hid (by
        have := own_lit (w := w.alloc (.cells c.cs 60)) (w.heap.size + 1) 21 #[.int .i32 c.r] 1 (R32 [c.r]) rfl rfl (by unfold maxLen; omega) (by simp)
        simpa [Own32] using this)
      generalize (w.alloc (.cells c.cs 60)).alloc (.cells #[.int .i32 c.r] 21) = W at *
      generalize hg : w.heap.size = g at *
      go_loopw [3, 4] (fun v i wr => ∃ (k : Nat) (z : Int), (k : Int) = z ∧ k ≤ 3 ∧ i = .int .i64 z ∧ Own32 wr (g + 1) v (c.r :: mU k c) ∧ Blk wr g 60 c.cs ∧ New w wr) (fun _ i _ => 3 - (intOf i).toNat)
      case atStart => exact ⟨0, 0, rfl, by omega, rfl, HO.out, HB.out, HN.out⟩
      case round =>
      obtain ⟨k, z, hz, hk, rfl, ho, hb, hn⟩ := hrel
      have HO := Lib.hid ho
      have HB := Lib.hid hb
      have HN := Lib.hid hn
      clear ho hb hn
      have hk' : k = 3 ∨ k = 0 ∨ k = 1 ∨ k = 2 := by omega
      rcases hk' with rfl | rfl | rfl | rfl
      · obtain rfl : z = 3 := hz.symm
        obtain ⟨N, hN⟩ : ∃ N, (c.r :: mU 3 c).length = N := ⟨_, rfl⟩
        have ho := HO.out
        unfold Own32 at ho
        rw [hN] at ho
        clear hN HO
        obtain ⟨b, A, cc, rfl, -, hr⟩ := own_rd ho
        clear ho
        have hcv := conv_runes hr cc
        have HT : Hid (c.r :: mU 3 c = textC c) := Lib.hid (by rw [HE.out, mU_three])
        clear hr
        rw [HT.out] at hcv
        go_wp2_with fail
        go_ret
        exact ⟨rfl, HN.out⟩
      · obtain rfl : z = 0 := hz.symm
        obtain ⟨d0, d1, d2, d3, d4, d5, d6, d7, d8, d9, d10, d11, d12, d13, d14, d15⟩ := HB.out.sixteen
        by_cases hm : c.m0 = 0
        · have jm : (c.m0 == 0) = true := by simpa using hm
          have jm' : (c.m0 != 0) = false := by simpa using hm
          have HE : Hid (mU 1 c = mU 0 c) := Lib.hid (by simp [mU, hm])
          clear hm
          go_wp2_with fail
          go_roundw
          case rel => exact ⟨1, 1, rfl, by omega, rfl, by rw [HE.out]; exact HO.out, HB.out, HN.out⟩
          case measure => simp [intOf]
        · have jm : (c.m0 == 0) = false := by simpa using hm
          have jm' : (c.m0 != 0) = true := by simpa using hm
          have HE : Hid (c.r :: mU 1 c = (c.r :: mU 0 c) ++ [c.m0]) := Lib.hid (by simp [mU, hm])
          clear hm
          have hlen : (c.r :: mU 0 c).length ≤ 4 := by simp only [mU, List.length_cons, List.length_append]; repeat' split <;> simp
          go_wp2_with (at_builtin; refine app32 rfl _ _ rfl (g + 1) u3 _ (R32 (c.r :: mU 0 c)) rfl (World.ownsRow.alloc HO.out _) wr.heap.size (some ⟨wr.heap.size, 0, none⟩) 1 1 (R32 [c.m0]) rfl ?c1 ?c2 ?c3 ?c4 ?c5)
          case c1 => exact rd_one wr _
          case c2 => exact one_cells _
          case c3 => simp only [List.length_cons] at hlen ⊢; omega
          case c4 => have := HB.out.lt; simp; omega
          case c5 =>
          intro v2 w2 hown2 hg2
          have HN2 := Lib.hid (grown_fr (World.ownsRow.alloc HO.out _) hg2 (HN.out.trans (New.alloc _)) (Nat.le_succ_of_le (Nat.le_of_eq hg)))
          have HB2 := Lib.hid ((HB.out.alloc _).grown hg2 (own_far HO.out HB.out (by decide)))
          have HO2 : Hid (Own32 w2 (g + 1) v2 (c.r :: mU 1 c)) := Lib.hid (by
            rw [HE.out]
            have h := hown2
            unfold Own32
            rw [List.length_append, R32, List.map_append]
            exact h)
          clear hown2 hg2
          go_wp2_with fail
          go_roundw
          case rel => exact ⟨1, 1, rfl, by omega, rfl, HO2.out, HB2.out, HN2.out⟩
          case measure => simp [intOf]
      · obtain rfl : z = 1 := hz.symm
        obtain ⟨d0, d1, d2, d3, d4, d5, d6, d7, d8, d9, d10, d11, d12, d13, d14, d15⟩ := HB.out.sixteen
        by_cases hm : c.m1 = 0
        · have jm : (c.m1 == 0) = true := by simpa using hm
          have jm' : (c.m1 != 0) = false := by simpa using hm
          have HE : Hid (mU 2 c = mU 1 c) := Lib.hid (by simp [mU, hm])
          clear hm
          go_wp2_with fail
          go_roundw
          case rel => exact ⟨2, 2, rfl, by omega, rfl, by rw [HE.out]; exact HO.out, HB.out, HN.out⟩
          case measure => simp [intOf]
        · have jm : (c.m1 == 0) = false := by simpa using hm
          have jm' : (c.m1 != 0) = true := by simpa using hm
          have HE : Hid (c.r :: mU 2 c = (c.r :: mU 1 c) ++ [c.m1]) := Lib.hid (by simp [mU, hm])
          clear hm
          have hlen : (c.r :: mU 1 c).length ≤ 4 := by simp only [mU, List.length_cons, List.length_append]; repeat' split <;> simp
          go_wp2_with (at_builtin; refine app32 rfl _ _ rfl (g + 1) u3 _ (R32 (c.r :: mU 1 c)) rfl (World.ownsRow.alloc HO.out _) wr.heap.size (some ⟨wr.heap.size, 0, none⟩) 1 1 (R32 [c.m1]) rfl ?c1 ?c2 ?c3 ?c4 ?c5)
          case c1 => exact rd_one wr _
          case c2 => exact one_cells _
          case c3 => simp only [List.length_cons] at hlen ⊢; omega
          case c4 => have := HB.out.lt; simp; omega
          case c5 =>
          intro v2 w2 hown2 hg2
          have HN2 := Lib.hid (grown_fr (World.ownsRow.alloc HO.out _) hg2 (HN.out.trans (New.alloc _)) (Nat.le_succ_of_le (Nat.le_of_eq hg)))
          have HB2 := Lib.hid ((HB.out.alloc _).grown hg2 (own_far HO.out HB.out (by decide)))
          have HO2 : Hid (Own32 w2 (g + 1) v2 (c.r :: mU 2 c)) := Lib.hid (by
            rw [HE.out]
            have h := hown2
            unfold Own32
            rw [List.length_append, R32, List.map_append]
            exact h)
          clear hown2 hg2
          go_wp2_with fail
          go_roundw
          case rel => exact ⟨2, 2, rfl, by omega, rfl, HO2.out, HB2.out, HN2.out⟩
          case measure => simp [intOf]
      · obtain rfl : z = 2 := hz.symm
        obtain ⟨d0, d1, d2, d3, d4, d5, d6, d7, d8, d9, d10, d11, d12, d13, d14, d15⟩ := HB.out.sixteen
        by_cases hm : c.m2 = 0
        · have jm : (c.m2 == 0) = true := by simpa using hm
          have jm' : (c.m2 != 0) = false := by simpa using hm
          have HE : Hid (mU 3 c = mU 2 c) := Lib.hid (by simp [mU, hm])
          clear hm
          go_wp2_with fail
          go_roundw
          case rel => exact ⟨3, 3, rfl, by omega, rfl, by rw [HE.out]; exact HO.out, HB.out, HN.out⟩
          case measure => simp [intOf]
        · have jm : (c.m2 == 0) = false := by simpa using hm
          have jm' : (c.m2 != 0) = true := by simpa using hm
          have HE : Hid (c.r :: mU 3 c = (c.r :: mU 2 c) ++ [c.m2]) := Lib.hid (by simp [mU, hm])
          clear hm
          have hlen : (c.r :: mU 2 c).length ≤ 4 := by simp only [mU, List.length_cons, List.length_append]; repeat' split <;> simp
          go_wp2_with (at_builtin; refine app32 rfl _ _ rfl (g + 1) u3 _ (R32 (c.r :: mU 2 c)) rfl (World.ownsRow.alloc HO.out _) wr.heap.size (some ⟨wr.heap.size, 0, none⟩) 1 1 (R32 [c.m2]) rfl ?c1 ?c2 ?c3 ?c4 ?c5)
          case c1 => exact rd_one wr _
          case c2 => exact one_cells _
          case c3 => simp only [List.length_cons] at hlen ⊢; omega
          case c4 => have := HB.out.lt; simp; omega
          case c5 =>
          intro v2 w2 hown2 hg2
          have HN2 := Lib.hid (grown_fr (World.ownsRow.alloc HO.out _) hg2 (HN.out.trans (New.alloc _)) (Nat.le_succ_of_le (Nat.le_of_eq hg)))
          have HB2 := Lib.hid ((HB.out.alloc _).grown hg2 (own_far HO.out HB.out (by decide)))
          have HO2 : Hid (Own32 w2 (g + 1) v2 (c.r :: mU 3 c)) := Lib.hid (by
            rw [HE.out]
            have h := hown2
            unfold Own32
            rw [List.length_append, R32, List.map_append]
            exact h)
          clear hown2 hg2
          go_wp2_with fail
          go_roundw
          case rel => exact ⟨3, 3, rfl, by omega, rfl, HO2.out, HB2.out, HN2.out⟩
          case measure => simp [intOf]

end Go.Proofs.YtjcpdldaimebbaaDoor
