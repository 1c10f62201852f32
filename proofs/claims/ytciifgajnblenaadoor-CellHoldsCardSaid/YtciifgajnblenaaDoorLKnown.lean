/-
  The examples of the chapter, as the law tries them.
-/
import Derived.Test.YtciifgajnblenaaDoorLSmall
import Derived.Test.YtciifgajnblenaaDoorLRn
import Derived.Test.YtciifgajnblenaaDoorHand
import Derived.Test.YtciifgajnblenaaDoorDRow
import Derived.Test.YtciifgajnblenaaDoorDText
import Derived.Test.YtciifgajnblenaaDoorCTexts
import Derived.Deep.DeepCutAuto
import Derived.Deep.CutRange
namespace Go.Proofs.YtciifgajnblenaaDoor
open Go.RowKit

abbrev boldP : Pn := ⟨⟨0, 0, 0, 0, 0⟩, ⟨0, 0, 0, 0, 0⟩, 1⟩
abbrev aC : Ce := ⟨97, 0, 0, 0, 1, zeroP⟩
abbrev wideC : Ce := ⟨19968, 0, 0, 0, 2, zeroP⟩
abbrev boldC : Ce := ⟨19968, 0, 0, 0, 2, boldP⟩
abbrev oneC : Ce := ⟨97, 769, 0, 0, 1, zeroP⟩
abbrev twoC : Ce := ⟨97, 769, 770, 0, 1, zeroP⟩
abbrev threeC : Ce := ⟨97, 769, 770, 771, 1, zeroP⟩
abbrev xC : Ce := ⟨120, 0, 0, 0, 1, zeroP⟩
theorem infoM3 : (Tryd.prog.info? 28).map (·.size) = some 3 := by kernel_rfl
theorem of97 : ofL 97 zeroP = [aC] := by decide +kernel
theorem of4e : ofL 19968 boldP = [boldC, spaceC boldP] := by decide +kernel
theorem k97 : 1 ≤ ofI 97 := by decide +kernel
theorem k4e : 1 ≤ ofI 19968 := by decide +kernel
theorem k769 : ¬ 1 ≤ ofI 769 := by decide +kernel
theorem k7 : ¬ 1 ≤ ofI 7 := by decide +kernel
theorem vz : validB zeroP = true := by decide +kernel
theorem vb : validB boldP = true := by decide +kernel
theorem mk1 : markR aC 769 = (oneC, 0) := by decide +kernel
theorem mk2 : markR oneC 770 = (twoC, 0) := by decide +kernel
theorem mk3 : markR twoC 771 = (threeC, 0) := by decide +kernel
theorem mk4 : markR threeC 772 = (zeroCe, 7) := by decide +kernel
theorem mk5 : markR (blankC zeroP) 769 = (zeroCe, 8) := by decide +kernel
theorem mk6 : markR aC 98 = (zeroCe, 2) := by decide +kernel
theorem cb1 : cellB ⟨97, 0, 0, 0, 2, zeroP⟩ = false := by decide +kernel
theorem cb2 : cellB ⟨0, 0, 0, 0, 2, zeroP⟩ = false := by decide +kernel
theorem cb3 : cellB ⟨97, 0, 769, 0, 1, zeroP⟩ = false := by decide +kernel
theorem cb4 : cellB zeroCe = true := by decide +kernel
theorem CRowK (l : List Ce) (bb : Bool) (h : rowB l = bb) (n b cap : Nat) (A : Option Addr) (w : World) (hr : RdC w b A n l) (hlim : n ≤ 1000000) (hT : Tab w) :
    Calls Tryd.prog 22 #[.slice A n cap] w fun e w' => e = .returned (.bool bb) ∧ New w w' := by
  subst h
  exact CRow_any l n b cap A w hr hlim hT
theorem CTextK (c : Ce) (s : ByteArray) (h : runesBytes (textC c) = s) (w : World) : Calls Tryd.prog 18 #[c.v] w fun e w' => e = .returned (.string s) ∧ New w w' := by
  subst h
  exact CText_any c w
theorem CTextsK (l : List Ce) (s : ByteArray) (h : runesBytes (textsC l) = s) (n b cap : Nat) (A : Option Addr) (w : World) (hr : RdC w b A n l) (hlim : n ≤ 1000000) : Calls Tryd.prog 24 #[.slice A n cap] w fun e w' => e = .returned (.string s) ∧ New w w' := by
  subst h
  exact CTexts_any l n b cap A w hr hlim
theorem rw1 : rowB [zeroCe] = false := by decide +kernel
theorem rw2 : rowB [wideC, spaceC boldP] = false := by decide +kernel
theorem rw3 : rowB [wideC] = false := by decide +kernel
theorem rw4 : rowB [] = true := by decide +kernel
theorem tx1 : runesBytes (textC oneC) = ⟨#[97, 204, 129]⟩ := by decide +kernel
theorem tx2 : runesBytes (textC (blankC zeroP)) = ⟨#[32]⟩ := by decide +kernel
theorem tx3 : runesBytes (textC zeroCe) = ⟨#[]⟩ := by decide +kernel
theorem tx4 : runesBytes (textsC [wideC, zeroCe, blankC zeroP, xC]) = ⟨#[228, 184, 128, 32, 120]⟩ := by decide +kernel
theorem fx1 : fixL [boldC, zeroCe] = [boldC, spaceC boldP] := by decide +kernel
theorem fx2 : fixL [spaceC boldP, aC] = [blankC boldP, aC] := by decide +kernel
theorem fx3 : fixL [aC, boldC] = [aC, blankC boldP] := by decide +kernel
theorem fx4 : fixL [wideC, wideC, zeroCe] = [blankC zeroP, wideC, zeroCe] := by decide +kernel
def IsL (n : Nat) (l : List Ce) (v : Value) (w : World) : Prop := ∃ p, v = .slice (some ⟨p, 0, none⟩) n n ∧ RdC w p (some ⟨p, 0, none⟩) n l
theorem IsL.new {n : Nat} {l : List Ce} (v : Value) (w w' : World) (h : IsL n l v w) (hn : New w w') : IsL n l v w' := by
  obtain ⟨p, e, hr⟩ := h
  exact ⟨p, e, hr.new hn⟩
section
variable {ρ : Operand → Value} {o : Oper}
theorem rn_zero (h : o.op = .build 30 #[]) (w : World) : (execOp ρ o).run Tryd.prog w = .ok (.value (.agg zeroCe.cs)) w := by
  unfold execOp
  simp only [h]
  kernel_rfl
theorem rn_mv {x : Operand} {v : Value} (h : o.op = .move x) (hv : ρ x = v) (w : World) : (execOp ρ o).run Tryd.prog w = .ok (.value v) w := by
  subst hv
  unfold execOp
  simp only [h]
  kernel_rfl
theorem rn_asg {x : Operand} {v : Value} (h : o.op = .assign x) (hv : ρ x = v) (w : World) : (execOp ρ o).run Tryd.prog w = .ok (.value v) w := by
  subst hv
  unfold execOp
  simp only [h]
  kernel_rfl
theorem rn_pk {x y z : Operand} {v : Value} (h : o.op = .pick x y z) (hc : ρ x = .bool true) (hv : ρ y = v) (w : World) : (execOp ρ o).run Tryd.prog w = .ok (.value v) w := by
  subst hv
  unfold execOp
  simp only [h, hc]
  kernel_rfl
end
theorem does_list {Q : Exit → Act → World → Prop} {oc : Oper} {a : Act} {x : Operand} {ats : Array TypeId} {u : Value} (ho : oc.op = .call { callee := .value (.func 37), args := #[x], argTypes := ats }) (hx : a.eval x = u) (w : World) :
    Does Tryd.prog Q oc a w (fun v w' => v = u ∧ New w w') := by
  intro K hK
  refine wp_callF (f := 37) Tryd.func37 (by kernel_rfl) rfl ho (vs := #[u]) (by simp only [List.map_toArray, List.map_cons, List.map_nil, hx]) ?_
  refine (list_any u w).mono ?_
  rintro e w' ⟨rfl, rfl⟩
  exact ⟨_, rfl, hK _ _ ⟨rfl, Fr.refl _ _⟩⟩
section
variable {ρ : Operand → Value} {o : Oper}
theorem rn_allocP (h : o.op = .alloc 27) (w : World) : (execOp ρ o).run Tryd.prog w = .ok (.value (.pointer (some ⟨w.heap.size, 0, none⟩))) (w.alloc (.cells zeroP.cs 27)) := by
  unfold execOp
  simp only [h]
  kernel_rfl
theorem rn_bldP {d : Int} (h : o.op = .build 27 #[(2, .const (.int .u8 d))]) (hc : ∀ v, ρ (.const v) = v) (w : World) : (execOp ρ o).run Tryd.prog w = .ok (.value (.agg (Pn.cs ⟨⟨0, 0, 0, 0, 0⟩, ⟨0, 0, 0, 0, 0⟩, d⟩))) w := by
  unfold execOp
  simp only [h, List.map_toArray, List.map_cons, List.map_nil, hc]
  kernel_rfl
theorem rn_bldp {x : Operand} {p : Pn} (h : o.op = .build 30 #[(3, x)]) (hx : ρ x = p.v) (w : World) : (execOp ρ o).run Tryd.prog w = .ok (.value (.agg (Ce.cs ⟨0, 0, 0, 0, 0, p⟩))) w := by
  unfold execOp
  simp only [h, List.map_toArray, List.map_cons, List.map_nil, hx]
  kernel_rfl
theorem rn_bldwp {x : Operand} {d : Int} {p : Pn} (h : o.op = .build 30 #[(2, .const (.int .i64 d)), (3, x)]) (hc : ∀ v, ρ (.const v) = v) (hx : ρ x = p.v) (w : World) : (execOp ρ o).run Tryd.prog w = .ok (.value (.agg (Ce.cs ⟨0, 0, 0, 0, d, p⟩))) w := by
  unfold execOp
  simp only [h, List.map_toArray, List.map_cons, List.map_nil, hc, hx]
  kernel_rfl
theorem rn_m1 {a : Int} (h : o.op = .build 28 #[(0, .const (.int .i32 a))]) (hc : ∀ v, ρ (.const v) = v) (w : World) : (execOp ρ o).run Tryd.prog w = .ok (.value (.agg #[.int .i32 a, .int .i32 0, .int .i32 0])) w := by
  unfold execOp
  simp only [h, List.map_toArray, List.map_cons, List.map_nil, hc]
  kernel_rfl
theorem rn_m3 {a b c : Int} (h : o.op = .build 28 #[(0, .const (.int .i32 a)), (1, .const (.int .i32 b)), (2, .const (.int .i32 c))]) (hc : ∀ v, ρ (.const v) = v) (w : World) : (execOp ρ o).run Tryd.prog w = .ok (.value (.agg #[.int .i32 a, .int .i32 b, .int .i32 c])) w := by
  unfold execOp
  simp only [h, List.map_toArray, List.map_cons, List.map_nil, hc]
  kernel_rfl
theorem rn_fa1 {x : Operand} {p : Nat} (h : o.op = .fieldAddr 30 x 1) (hx : ρ x = .pointer (some ⟨p, 0, none⟩)) (w : World) : (execOp ρ o).run Tryd.prog w = .ok (.value (.pointer (some ⟨p, 1, none⟩))) w := by
  unfold execOp
  simp only [h, hx]
  kernel_rfl
theorem rn_fa3 {x : Operand} {p : Nat} (h : o.op = .fieldAddr 30 x 3) (hx : ρ x = .pointer (some ⟨p, 0, none⟩)) (w : World) : (execOp ρ o).run Tryd.prog w = .ok (.value (.pointer (some ⟨p, 5, none⟩))) w := by
  unfold execOp
  simp only [h, hx]
  kernel_rfl
end
theorem rdb {w : World} {p n : Nat} {l : List Ce} {cs : Array Value} (h : Blk w p 30 cs) (hcs : cs.toList = flatC l) (hn : l.length = n) : RdC w p (some ⟨p, 0, none⟩) n l :=
  ⟨hn, fun _ => ⟨0, rfl, h.lt, fun j _ => by
    rw [Nat.zero_add, h.cell j, ← hcs]
    simp⟩⟩
-- THE WALK
set_option linter.unusedSimpArgs false in
set_option maxRecDepth 100000 in
set_option maxHeartbeats 1600000 in
theorem known_any (w : World) (hT : Tab w) : Calls Tryd.prog 13 #[] w fun e w' => e = .returned (.bool true) ∧ New w w' := by
  refine calls_env (vl := []) 191 [] Tryd.func13 rfl Tryd.ntmps13 (fun _ _ k v h => by cases h) (by decide) (fun a he => ?_)
  have hH := Hp.start w
  refine wp_seq ?_
  refine wp_region_lit ?_
  refine lV (Value.bool false) he rfl rfl (wanted_plain rfl _) (rn_asg rfl (he.op rfl) w) ?_
  intro a1 he1
  clear he a
  refine wpList_nil ?_
  refine then_ok ?_
  refine wp_seq ?_
  refine wp_region_lit ?_
  refine lNew (fun p => .pointer (some ⟨p, 0, none⟩)) he1 hH rfl rfl (wanted_plain rfl _) (rn_allocP rfl w) ?_
  intro p2 w2 a3 _ hH2 he3
  clear he1 a1 hH
  refine wpList_nil ?_
  refine then_ok ?_
  refine wp_seq ?_
  refine wp_region_lit ?_
  refine lV (Pn.v boldP) he3 rfl rfl (wanted_plain rfl _) (rn_bldP rfl (fun _ => rfl) w2) ?_
  intro a4 he4
  clear he3 a3
  refine lNew (fun p => .pointer (some ⟨p, 0, none⟩)) he4 hH2 rfl rfl (wanted_plain rfl _) (rn_allocP rfl w2) ?_
  intro p5 w5 a6 _ hH5 he6
  clear he4 a4 hH2
  refine lSet 0 (cs := boldP.cs) he6 hH5 rfl (wanted_plain rfl _) rfl rfl rfl rfl infoP11 rfl (by kernel_rfl) (by kernel_rfl) ?_
  intro w7 a8 hH7 he8
  replace hH7 : Hp w [⟨p5, 27, boldP.cs⟩, ⟨p2, 27, zeroP.cs⟩] w7 := hH7
  clear he6 a6 hH5
  refine wpList_nil ?_
  refine then_ok ?_
  refine wp_seq ?_
  refine wp_region_lit ?_
  refine lV (Ce.v aC) he8 rfl rfl (wanted_plain rfl _) (rn_bldaw rfl (fun _ => rfl) w7) ?_
  intro a9 he9
  clear he8 a8
  refine lV (Ce.v wideC) he9 rfl rfl (wanted_plain rfl _) (rn_bldaw rfl (fun _ => rfl) w7) ?_
  intro a10 he10
  clear he9 a9
  refine lV (Ce.v (blankC zeroP)) he10 rfl rfl (wanted_plain rfl _) (rn_bldw rfl (fun _ => rfl) w7) ?_
  intro a11 he11
  clear he10 a10
  refine lNew (fun p => .pointer (some ⟨p, 0, none⟩)) he11 hH7 rfl rfl (wanted_plain rfl _) (rn_alloc rfl w7) ?_
  intro p12 w12 a13 _ hH12 he13
  clear he11 a11 hH7
  refine lNew (fun p => .pointer (some ⟨p, 0, none⟩)) he13 hH12 rfl rfl (wanted_plain rfl _) (rn_alloc rfl w12) ?_
  intro p14 w14 a15 _ hH14 he15
  clear he13 a13 hH12
  refine lNew (fun p => .pointer (some ⟨p, 0, none⟩)) he15 hH14 rfl rfl (wanted_plain rfl _) (rn_alloc rfl w14) ?_
  intro p16 w16 a17 _ hH16 he17
  clear he15 a15 hH14
  refine lSet 2 (cs := aC.cs) he17 hH16 rfl (wanted_plain rfl _) rfl rfl rfl rfl infoC16 rfl (by kernel_rfl) (by kernel_rfl) ?_
  intro w18 a19 hH18 he19
  replace hH18 : Hp w [⟨p16, 30, zeroCe.cs⟩, ⟨p14, 30, zeroCe.cs⟩, ⟨p12, 30, aC.cs⟩, ⟨p5, 27, boldP.cs⟩, ⟨p2, 27, zeroP.cs⟩] w18 := hH18
  clear he17 a17 hH16
  refine lSet 1 (cs := wideC.cs) he19 hH18 rfl (wanted_plain rfl _) rfl rfl rfl rfl infoC16 rfl (by kernel_rfl) (by kernel_rfl) ?_
  intro w20 a21 hH20 he21
  replace hH20 : Hp w [⟨p16, 30, zeroCe.cs⟩, ⟨p14, 30, wideC.cs⟩, ⟨p12, 30, aC.cs⟩, ⟨p5, 27, boldP.cs⟩, ⟨p2, 27, zeroP.cs⟩] w20 := hH20
  clear he19 a19 hH18
  refine lSet 0 (cs := (Ce.cs (blankC zeroP))) he21 hH20 rfl (wanted_plain rfl _) rfl rfl rfl rfl infoC16 rfl (by kernel_rfl) (by kernel_rfl) ?_
  intro w22 a23 hH22 he23
  replace hH22 : Hp w [⟨p16, 30, (Ce.cs (blankC zeroP))⟩, ⟨p14, 30, wideC.cs⟩, ⟨p12, 30, aC.cs⟩, ⟨p5, 27, boldP.cs⟩, ⟨p2, 27, zeroP.cs⟩] w22 := hH22
  clear he21 a21 hH20
  refine wpList_nil ?_
  refine then_ok ?_
  refine wp_seq ?_
  refine wp_region_lit ?_
  refine lV (Ce.v wideC) he23 rfl rfl (wanted_plain rfl _) (rn_load rfl (he23.op rfl) (hH22.at (i := 1) rfl)) ?_
  intro a24 he24
  clear he23 a23
  refine lNew (fun p => .pointer (some ⟨p, 0, none⟩)) he24 hH22 rfl rfl (wanted_plain rfl _) (rn_alloc rfl w22) ?_
  intro p25 w25 a26 _ hH25 he26
  clear he24 a24 hH22
  refine lSet 0 (cs := wideC.cs) he26 hH25 rfl (wanted_plain rfl _) rfl rfl rfl rfl infoC16 rfl (by kernel_rfl) (by kernel_rfl) ?_
  intro w27 a28 hH27 he28
  replace hH27 : Hp w [⟨p25, 30, wideC.cs⟩, ⟨p16, 30, (Ce.cs (blankC zeroP))⟩, ⟨p14, 30, wideC.cs⟩, ⟨p12, 30, aC.cs⟩, ⟨p5, 27, boldP.cs⟩, ⟨p2, 27, zeroP.cs⟩] w27 := hH27
  clear he26 a26 hH25
  refine wpList_nil ?_
  refine then_ok ?_
  refine wp_seq ?_
  refine wp_region_lit ?_
  refine lV (Pn.v boldP) he28 rfl rfl (wanted_plain rfl _) (rn_loadP rfl (he28.op rfl) (hH27.at (i := 4) rfl)) ?_
  intro a29 he29
  clear he28 a28
  refine lV (Value.pointer (some ⟨p25, 5, none⟩)) he29 rfl rfl (wanted_plain rfl _) (rn_fa3 rfl (he29.op rfl) w27) ?_
  intro a30 he30
  clear he29 a29
  refine lSet 0 (cs := boldC.cs) he30 hH27 rfl (wanted_plain rfl _) rfl rfl rfl rfl infoP11 rfl (by kernel_rfl) (by kernel_rfl) ?_
  intro w31 a32 hH31 he32
  replace hH31 : Hp w [⟨p25, 30, boldC.cs⟩, ⟨p16, 30, (Ce.cs (blankC zeroP))⟩, ⟨p14, 30, wideC.cs⟩, ⟨p12, 30, aC.cs⟩, ⟨p5, 27, boldP.cs⟩, ⟨p2, 27, zeroP.cs⟩] w31 := hH31
  clear he30 a30 hH27
  refine wpList_nil ?_
  refine then_ok ?_
  refine wp_seq ?_
  refine wp_region_lit ?_
  refine lV (Pn.v boldP) he32 rfl rfl (wanted_plain rfl _) (rn_loadP rfl (he32.op rfl) (hH31.at (i := 4) rfl)) ?_
  intro a33 he33
  clear he32 a32
  refine lV (Ce.v (spaceC boldP)) he33 rfl rfl (wanted_plain rfl _) (rn_bldp rfl (he33.op rfl) w31) ?_
  intro a34 he34
  clear he33 a33
  refine lNew (fun p => .pointer (some ⟨p, 0, none⟩)) he34 hH31 rfl rfl (wanted_plain rfl _) (rn_alloc rfl w31) ?_
  intro p35 w35 a36 _ hH35 he36
  clear he34 a34 hH31
  refine lSet 0 (cs := (Ce.cs (spaceC boldP))) he36 hH35 rfl (wanted_plain rfl _) rfl rfl rfl rfl infoC16 rfl (by kernel_rfl) (by kernel_rfl) ?_
  intro w37 a38 hH37 he38
  replace hH37 : Hp w [⟨p35, 30, (Ce.cs (spaceC boldP))⟩, ⟨p25, 30, boldC.cs⟩, ⟨p16, 30, (Ce.cs (blankC zeroP))⟩, ⟨p14, 30, wideC.cs⟩, ⟨p12, 30, aC.cs⟩, ⟨p5, 27, boldP.cs⟩, ⟨p2, 27, zeroP.cs⟩] w37 := hH37
  clear he36 a36 hH35
  refine wpList_nil ?_
  refine then_ok ?_
  as_aux_lemma =>
    have he39 : Env 191 [(7, Value.pointer (some ⟨p35, 0, none⟩)), (6, Value.pointer (some ⟨p25, 0, none⟩)), (5, Value.pointer (some ⟨p16, 0, none⟩)), (4, Value.pointer (some ⟨p14, 0, none⟩)), (3, Value.pointer (some ⟨p12, 0, none⟩)), (2, Value.pointer (some ⟨p5, 0, none⟩)), (1, Value.pointer (some ⟨p2, 0, none⟩))] a38 := he38.mem ⟨rfl, rfl, rfl, rfl, rfl, rfl, rfl, trivial⟩
    clear he38
    refine wp_seq ?_
    refine wp_seq ?_
    refine wp_region_lit ?_
    refine lV (Pn.v zeroP) he39 rfl rfl (wanted_plain rfl _) (rn_loadP rfl (he39.op rfl) (hH37.at (i := 6) rfl)) ?_
    intro a40 he40
    clear he39 a38
    refine lV (Ce.v aC) he40 rfl rfl (wanted_plain rfl _) (rn_load rfl (he40.op rfl) (hH37.at (i := 4) rfl)) ?_
    intro a41 he41
    clear he40 a40
    refine lNew (fun p => .slice (some ⟨p, 0, none⟩) 1 1) he41 hH37 rfl rfl (wanted_plain rfl _) (rn_bs1 rfl (he41.op rfl) w37) ?_
    intro p42 w42 a43 _ hH42 he43
    clear he41 a41 hH37
    refine lC he43 rfl rfl Tryd.func12 (by kernel_rfl) rfl rfl (wanted_plain rfl _) rfl (lof_yes 97 zeroP 1 _ _ _ k97 vz _ (by rw [of97]; exact (rdb (l := [aC]) (hH42.at (i := 0) rfl) rfl rfl)) (by omega) (hT.new hH42.new)) ?_
    intro w44 a45 hn he45
    have hH44 := hH42.call hn
    clear he43 a43 hH42 hn
    refine lV (Value.bool false) he45 rfl rfl (wanted_plain rfl _) (rn_not (b := true) rfl (he45.op rfl) w44) ?_
    intro a46 he46
    clear he45 a45
    refine lV (Value.bool false) he46 rfl rfl (wanted_plain rfl _) (rn_mv rfl (he46.op rfl) w44) ?_
    intro a47 he47
    clear he46 a46
    refine lV (Pn.v boldP) he47 rfl rfl (he47.want rfl rfl rfl rfl rfl) (rn_loadP rfl (he47.op rfl) (hH44.at (i := 6) rfl)) ?_
    intro a48 he48
    clear he47 a47
    refine lV (Ce.v boldC) he48 rfl rfl (he48.want rfl rfl rfl rfl rfl) (rn_load rfl (he48.op rfl) (hH44.at (i := 2) rfl)) ?_
    intro a49 he49
    clear he48 a48
    refine lV (Ce.v ((spaceC boldP))) he49 rfl rfl (he49.want rfl rfl rfl rfl rfl) (rn_load rfl (he49.op rfl) (hH44.at (i := 1) rfl)) ?_
    intro a50 he50
    clear he49 a49
    refine lNew (fun p => .slice (some ⟨p, 0, none⟩) 2 2) he50 hH44 rfl rfl (he50.want rfl rfl rfl rfl rfl) (rn_bs2 rfl (he50.op rfl) (he50.op rfl) w44) ?_
    intro p51 w51 a52 _ hH51 he52
    clear he50 a50 hH44
    refine lC he52 rfl rfl Tryd.func12 (by kernel_rfl) rfl rfl (he52.want rfl rfl rfl rfl rfl) rfl (lof_yes 19968 boldP 2 _ _ _ k4e vb _ (by rw [of4e]; exact (rdb (l := [boldC, spaceC boldP]) (hH51.at (i := 0) rfl) rfl rfl)) (by omega) (hT.new hH51.new)) ?_
    intro w53 a54 hn he54
    have hH53 := hH51.call hn
    clear he52 a52 hH51 hn
    refine lV (Value.bool false) he54 rfl rfl (he54.want rfl rfl rfl rfl rfl) (rn_not (b := true) rfl (he54.op rfl) w53) ?_
    intro a55 he55
    clear he54 a54
    refine lV (Value.bool false) he55 rfl rfl (wanted_plain rfl _) (rn_pk0 rfl (he55.op rfl) (he55.op rfl) w53) ?_
    intro a56 he56
    clear he55 a55
    refine lV (Value.bool false) he56 rfl rfl (wanted_plain rfl _) (rn_mv rfl (he56.op rfl) w53) ?_
    intro a57 he57
    clear he56 a56
    refine lV (Pn.v zeroP) he57 rfl rfl (he57.want rfl rfl rfl rfl rfl) (rn_loadP rfl (he57.op rfl) (hH53.at (i := 8) rfl)) ?_
    intro a58 he58
    clear he57 a57
    refine lC he58 rfl rfl Tryd.func12 (by kernel_rfl) rfl rfl (he58.want rfl rfl rfl rfl rfl) rfl (lof_no 769 zeroP _ _ (.inl k769) _ (hT.new hH53.new)) ?_
    intro w59 a60 hn he60
    have hH59 := hH53.call hn
    clear he58 a58 hH53 hn
    refine lV (Value.bool false) he60 rfl rfl (he60.want rfl rfl rfl rfl rfl) (rn_not (b := true) rfl (he60.op rfl) w59) ?_
    intro a61 he61
    clear he60 a60
    refine lV (Value.bool false) he61 rfl rfl (wanted_plain rfl _) (rn_pk0 rfl (he61.op rfl) (he61.op rfl) w59) ?_
    intro a62 he62
    clear he61 a61
    refine lV (Value.bool false) he62 rfl rfl (wanted_plain rfl _) (rn_mv rfl (he62.op rfl) w59) ?_
    intro a63 he63
    clear he62 a62
    refine lV (Pn.v zeroP) he63 rfl rfl (he63.want rfl rfl rfl rfl rfl) (rn_loadP rfl (he63.op rfl) (hH59.at (i := 8) rfl)) ?_
    intro a64 he64
    clear he63 a63
    refine lC he64 rfl rfl Tryd.func12 (by kernel_rfl) rfl rfl (he64.want rfl rfl rfl rfl rfl) rfl (lof_no 7 zeroP _ _ (.inl k7) _ (hT.new hH59.new)) ?_
    intro w65 a66 hn he66
    have hH65 := hH59.call hn
    clear he64 a64 hH59 hn
    refine lV (Value.bool false) he66 rfl rfl (he66.want rfl rfl rfl rfl rfl) (rn_not (b := true) rfl (he66.op rfl) w65) ?_
    intro a67 he67
    clear he66 a66
    refine lV (Value.bool false) he67 rfl rfl (wanted_plain rfl _) (rn_pk0 rfl (he67.op rfl) (he67.op rfl) w65) ?_
    intro a68 he68
    clear he67 a67
    refine wpList_nil ?_
    refine then_ok ?_
    refine wp_cond_false (he68.op rfl) ?_
    refine wp_skip ?_
    refine then_ok ?_
    have he69 : Env 191 [(7, Value.pointer (some ⟨p35, 0, none⟩)), (6, Value.pointer (some ⟨p25, 0, none⟩)), (5, Value.pointer (some ⟨p16, 0, none⟩)), (4, Value.pointer (some ⟨p14, 0, none⟩)), (3, Value.pointer (some ⟨p12, 0, none⟩)), (2, Value.pointer (some ⟨p5, 0, none⟩)), (1, Value.pointer (some ⟨p2, 0, none⟩))] a68 := he68.mem ⟨rfl, rfl, rfl, rfl, rfl, rfl, rfl, trivial⟩
    clear he68
    have hH70 := hH65.tail rfl
    clear hH65
    have hH71 := hH70.tail rfl
    clear hH70
    as_aux_lemma =>
      refine wp_seq ?_
      refine wp_region_held_drew (S := Hp w [⟨p35, 30, (Ce.cs (spaceC boldP))⟩, ⟨p25, 30, boldC.cs⟩, ⟨p16, 30, (Ce.cs (blankC zeroP))⟩, ⟨p14, 30, wideC.cs⟩, ⟨p12, 30, aC.cs⟩, ⟨p5, 27, boldP.cs⟩, ⟨p2, 27, zeroP.cs⟩]) (by kernel_rfl) hH71.drew (fun hH9 => ?_)
      clear hH71
      generalize World.drew _ = w9 at *
      refine hV (fuel := 8) (i := 0) (Ce.v aC) he69 rfl rfl rfl (by kernel_rfl) (by kernel_rfl) (by kernel_rfl) (fun _ _ _ h => h) (wanted_plain rfl _) (fun w' hw' => rn_load rfl (he69.op rfl) (hw'.at (i := 4) rfl)) hH9 ?_
      intro a72 he72
      clear he69 a68
      refine hV (fuel := 7) (i := 1) (Ce.v aC) he72 rfl rfl rfl (by kernel_rfl) (by kernel_rfl) (by kernel_rfl) (fun _ _ _ h => h) (wanted_plain rfl _) (fun w' hw' => rn_load rfl (he72.op rfl) (hw'.at (i := 4) rfl)) hH9 ?_
      intro a73 he73
      clear he72 a72
      refine hV (fuel := 6) (i := 2) (Ce.v aC) he73 rfl rfl rfl (by kernel_rfl) (by kernel_rfl) (by kernel_rfl) (fun _ _ _ h => h) (wanted_plain rfl _) (fun w' hw' => rn_load rfl (he73.op rfl) (hw'.at (i := 4) rfl)) hH9 ?_
      intro a74 he74
      clear he73 a73
      refine hThree (fuel := 3) (i := 3) (j := 4) (l := 5) (x := 8) (y := 9) (z := 10) (t := 30) (cs := zeroCe.cs) (by decide) (by decide) (by decide) (by decide) (by decide) (by decide) he74 rfl rfl rfl rfl rfl rfl rfl rfl rfl rfl rfl rfl (fun _ w => rn_alloc rfl w) (fun _ w => rn_alloc rfl w) (fun _ w => rn_alloc rfl w) (by kernel_rfl) (by kernel_rfl) (by kernel_rfl) (by kernel_rfl) (by kernel_rfl) (by kernel_rfl) (by kernel_rfl) (fun _ _ h hn => h.call hn) hH9 hH9 ?_
      intro q1 q2 q3 w10 a10 _ _ hH10 he10
      clear he74 a74 hH9
      refine hSet (fuel := 2) (n := 6) 0 (cs := aC.cs) he10 hH10 (by kernel_rfl) rfl rfl (wanted_plain rfl _) rfl rfl rfl rfl infoC16 rfl (by kernel_rfl) (by kernel_rfl) ?_
      intro w75 a76 hH75 hf he76
      replace hH75 : Hp w [⟨q1, 30, aC.cs⟩, ⟨q2, 30, zeroCe.cs⟩, ⟨q3, 30, zeroCe.cs⟩, ⟨p35, 30, (Ce.cs (spaceC boldP))⟩, ⟨p25, 30, boldC.cs⟩, ⟨p16, 30, (Ce.cs (blankC zeroP))⟩, ⟨p14, 30, wideC.cs⟩, ⟨p12, 30, aC.cs⟩, ⟨p5, 27, boldP.cs⟩, ⟨p2, 27, zeroP.cs⟩] w75 := hH75
      clear he10 a10 hH10
      refine ⟨((hH75.tail rfl).tail rfl).tail rfl, ?_⟩
      clear hf
      refine hSet (fuel := 1) (n := 7) 1 (cs := aC.cs) he76 hH75 (by kernel_rfl) rfl rfl (wanted_plain rfl _) rfl rfl rfl rfl infoC16 rfl (by kernel_rfl) (by kernel_rfl) ?_
      intro w77 a78 hH77 hf he78
      replace hH77 : Hp w [⟨q1, 30, aC.cs⟩, ⟨q2, 30, aC.cs⟩, ⟨q3, 30, zeroCe.cs⟩, ⟨p35, 30, (Ce.cs (spaceC boldP))⟩, ⟨p25, 30, boldC.cs⟩, ⟨p16, 30, (Ce.cs (blankC zeroP))⟩, ⟨p14, 30, wideC.cs⟩, ⟨p12, 30, aC.cs⟩, ⟨p5, 27, boldP.cs⟩, ⟨p2, 27, zeroP.cs⟩] w77 := hH77
      clear he76 a76 hH75
      refine ⟨((hH77.tail rfl).tail rfl).tail rfl, ?_⟩
      clear hf
      refine hSet (fuel := 0) (n := 8) 2 (cs := aC.cs) he78 hH77 (by kernel_rfl) rfl rfl (wanted_plain rfl _) rfl rfl rfl rfl infoC16 rfl (by kernel_rfl) (by kernel_rfl) ?_
      intro w79 a80 hH79 hf he80
      replace hH79 : Hp w [⟨q1, 30, aC.cs⟩, ⟨q2, 30, aC.cs⟩, ⟨q3, 30, aC.cs⟩, ⟨p35, 30, (Ce.cs (spaceC boldP))⟩, ⟨p25, 30, boldC.cs⟩, ⟨p16, 30, (Ce.cs (blankC zeroP))⟩, ⟨p14, 30, wideC.cs⟩, ⟨p12, 30, aC.cs⟩, ⟨p5, 27, boldP.cs⟩, ⟨p2, 27, zeroP.cs⟩] w79 := hH79
      clear he78 a78 hH77
      refine ⟨((hH79.tail rfl).tail rfl).tail rfl, ?_⟩
      clear hf
      refine wpAnyH_done (by kernel_rfl) ?_ _
      refine then_ok ?_
      have he81 : Env 191 [(10, Value.pointer (some ⟨q3, 0, none⟩)), (9, Value.pointer (some ⟨q2, 0, none⟩)), (8, Value.pointer (some ⟨q1, 0, none⟩)), (7, Value.pointer (some ⟨p35, 0, none⟩)), (6, Value.pointer (some ⟨p25, 0, none⟩)), (5, Value.pointer (some ⟨p16, 0, none⟩)), (4, Value.pointer (some ⟨p14, 0, none⟩)), (3, Value.pointer (some ⟨p12, 0, none⟩)), (2, Value.pointer (some ⟨p5, 0, none⟩)), (1, Value.pointer (some ⟨p2, 0, none⟩))] a80 := he80.mem ⟨rfl, rfl, rfl, rfl, rfl, rfl, rfl, rfl, rfl, rfl, trivial⟩
      clear he80
      as_aux_lemma =>
        refine wp_seq ?_
        refine wp_region_lit ?_
        refine lV (Value.agg #[.int .i32 769, .int .i32 0, .int .i32 0]) he81 rfl rfl (wanted_plain rfl _) (rn_m1 rfl (fun _ => rfl) w79) ?_
        intro a82 he82
        clear he81 a80
        refine lV (Value.agg #[.int .i32 769, .int .i32 770, .int .i32 0]) he82 rfl rfl (wanted_plain rfl _) (rn_bldm rfl (fun _ => rfl) w79) ?_
        intro a83 he83
        clear he82 a82
        refine lV (Value.agg #[.int .i32 769, .int .i32 770, .int .i32 771]) he83 rfl rfl (wanted_plain rfl _) (rn_m3 rfl (fun _ => rfl) w79) ?_
        intro a84 he84
        clear he83 a83
        refine lV (Value.pointer (some ⟨q1, 1, none⟩)) he84 rfl rfl (wanted_plain rfl _) (rn_fa1 rfl (he84.op rfl) w79) ?_
        intro a85 he85
        clear he84 a84
        refine lSet 0 (cs := oneC.cs) he85 hH79 rfl (wanted_plain rfl _) rfl rfl rfl rfl infoM3 rfl (by kernel_rfl) (by kernel_rfl) ?_
        intro w86 a87 hH86 he87
        replace hH86 : Hp w [⟨q1, 30, oneC.cs⟩, ⟨q2, 30, aC.cs⟩, ⟨q3, 30, aC.cs⟩, ⟨p35, 30, (Ce.cs (spaceC boldP))⟩, ⟨p25, 30, boldC.cs⟩, ⟨p16, 30, (Ce.cs (blankC zeroP))⟩, ⟨p14, 30, wideC.cs⟩, ⟨p12, 30, aC.cs⟩, ⟨p5, 27, boldP.cs⟩, ⟨p2, 27, zeroP.cs⟩] w86 := hH86
        clear he85 a85 hH79
        refine lV (Value.pointer (some ⟨q2, 1, none⟩)) he87 rfl rfl (wanted_plain rfl _) (rn_fa1 rfl (he87.op rfl) w86) ?_
        intro a88 he88
        clear he87 a87
        refine lSet 1 (cs := twoC.cs) he88 hH86 rfl (wanted_plain rfl _) rfl rfl rfl rfl infoM3 rfl (by kernel_rfl) (by kernel_rfl) ?_
        intro w89 a90 hH89 he90
        replace hH89 : Hp w [⟨q1, 30, oneC.cs⟩, ⟨q2, 30, twoC.cs⟩, ⟨q3, 30, aC.cs⟩, ⟨p35, 30, (Ce.cs (spaceC boldP))⟩, ⟨p25, 30, boldC.cs⟩, ⟨p16, 30, (Ce.cs (blankC zeroP))⟩, ⟨p14, 30, wideC.cs⟩, ⟨p12, 30, aC.cs⟩, ⟨p5, 27, boldP.cs⟩, ⟨p2, 27, zeroP.cs⟩] w89 := hH89
        clear he88 a88 hH86
        refine lV (Value.pointer (some ⟨q3, 1, none⟩)) he90 rfl rfl (wanted_plain rfl _) (rn_fa1 rfl (he90.op rfl) w89) ?_
        intro a91 he91
        clear he90 a90
        refine lSet 2 (cs := threeC.cs) he91 hH89 rfl (wanted_plain rfl _) rfl rfl rfl rfl infoM3 rfl (by kernel_rfl) (by kernel_rfl) ?_
        intro w92 a93 hH92 he93
        replace hH92 : Hp w [⟨q1, 30, oneC.cs⟩, ⟨q2, 30, twoC.cs⟩, ⟨q3, 30, threeC.cs⟩, ⟨p35, 30, (Ce.cs (spaceC boldP))⟩, ⟨p25, 30, boldC.cs⟩, ⟨p16, 30, (Ce.cs (blankC zeroP))⟩, ⟨p14, 30, wideC.cs⟩, ⟨p12, 30, aC.cs⟩, ⟨p5, 27, boldP.cs⟩, ⟨p2, 27, zeroP.cs⟩] w92 := hH92
        clear he91 a91 hH89
        refine wpList_nil ?_
        refine then_ok ?_
        have he94 : Env 191 [(10, Value.pointer (some ⟨q3, 0, none⟩)), (9, Value.pointer (some ⟨q2, 0, none⟩)), (8, Value.pointer (some ⟨q1, 0, none⟩)), (7, Value.pointer (some ⟨p35, 0, none⟩)), (6, Value.pointer (some ⟨p25, 0, none⟩)), (5, Value.pointer (some ⟨p16, 0, none⟩)), (4, Value.pointer (some ⟨p14, 0, none⟩)), (3, Value.pointer (some ⟨p12, 0, none⟩)), (2, Value.pointer (some ⟨p5, 0, none⟩)), (1, Value.pointer (some ⟨p2, 0, none⟩))] a93 := he93.mem ⟨rfl, rfl, rfl, rfl, rfl, rfl, rfl, rfl, rfl, rfl, trivial⟩
        clear he93
        as_aux_lemma =>
          refine wp_seq ?_
          refine wp_seq ?_
          refine wp_region_lit ?_
          refine lV (Ce.v aC) he94 rfl rfl (wanted_plain rfl _) (rn_load rfl (he94.op rfl) (hH92.at (i := 7) rfl)) ?_
          intro a95 he95
          clear he94 a93
          refine lV (Ce.v oneC) he95 rfl rfl (wanted_plain rfl _) (rn_load rfl (he95.op rfl) (hH92.at (i := 0) rfl)) ?_
          intro a96 he96
          clear he95 a95
          refine lC he96 rfl rfl Tryd.func21 (by kernel_rfl) rfl rfl (wanted_plain rfl _) rfl (lmark aC 769 oneC 0 mk1 _ (hT.new hH92.new)) ?_
          intro w97 a98 hn he98
          have hH97 := hH92.call hn
          clear he96 a96 hH92 hn
          refine lV (Value.bool false) he98 rfl rfl (wanted_plain rfl _) (rn_not (b := true) rfl (he98.op rfl) w97) ?_
          intro a99 he99
          clear he98 a98
          refine lV (Value.bool false) he99 rfl rfl (wanted_plain rfl _) (rn_mv rfl (he99.op rfl) w97) ?_
          intro a100 he100
          clear he99 a99
          refine lV (Ce.v oneC) he100 rfl rfl (he100.want rfl rfl rfl rfl rfl) (rn_load rfl (he100.op rfl) (hH97.at (i := 0) rfl)) ?_
          intro a101 he101
          clear he100 a100
          refine lV (Ce.v twoC) he101 rfl rfl (he101.want rfl rfl rfl rfl rfl) (rn_load rfl (he101.op rfl) (hH97.at (i := 1) rfl)) ?_
          intro a102 he102
          clear he101 a101
          refine lC he102 rfl rfl Tryd.func21 (by kernel_rfl) rfl rfl (he102.want rfl rfl rfl rfl rfl) rfl (lmark oneC 770 twoC 0 mk2 _ (hT.new hH97.new)) ?_
          intro w103 a104 hn he104
          have hH103 := hH97.call hn
          clear he102 a102 hH97 hn
          refine lV (Value.bool false) he104 rfl rfl (he104.want rfl rfl rfl rfl rfl) (rn_not (b := true) rfl (he104.op rfl) w103) ?_
          intro a105 he105
          clear he104 a104
          refine lV (Value.bool false) he105 rfl rfl (wanted_plain rfl _) (rn_pk0 rfl (he105.op rfl) (he105.op rfl) w103) ?_
          intro a106 he106
          clear he105 a105
          refine lV (Value.bool false) he106 rfl rfl (wanted_plain rfl _) (rn_mv rfl (he106.op rfl) w103) ?_
          intro a107 he107
          clear he106 a106
          refine lV (Ce.v twoC) he107 rfl rfl (he107.want rfl rfl rfl rfl rfl) (rn_load rfl (he107.op rfl) (hH103.at (i := 1) rfl)) ?_
          intro a108 he108
          clear he107 a107
          refine lV (Ce.v threeC) he108 rfl rfl (he108.want rfl rfl rfl rfl rfl) (rn_load rfl (he108.op rfl) (hH103.at (i := 2) rfl)) ?_
          intro a109 he109
          clear he108 a108
          refine lC he109 rfl rfl Tryd.func21 (by kernel_rfl) rfl rfl (he109.want rfl rfl rfl rfl rfl) rfl (lmark twoC 771 threeC 0 mk3 _ (hT.new hH103.new)) ?_
          intro w110 a111 hn he111
          have hH110 := hH103.call hn
          clear he109 a109 hH103 hn
          refine lV (Value.bool false) he111 rfl rfl (he111.want rfl rfl rfl rfl rfl) (rn_not (b := true) rfl (he111.op rfl) w110) ?_
          intro a112 he112
          clear he111 a111
          refine lV (Value.bool false) he112 rfl rfl (wanted_plain rfl _) (rn_pk0 rfl (he112.op rfl) (he112.op rfl) w110) ?_
          intro a113 he113
          clear he112 a112
          refine lV (Value.bool false) he113 rfl rfl (wanted_plain rfl _) (rn_mv rfl (he113.op rfl) w110) ?_
          intro a114 he114
          clear he113 a113
          refine lV (Ce.v threeC) he114 rfl rfl (he114.want rfl rfl rfl rfl rfl) (rn_load rfl (he114.op rfl) (hH110.at (i := 2) rfl)) ?_
          intro a115 he115
          clear he114 a114
          refine lV (Ce.v zeroCe) he115 rfl rfl (he115.want rfl rfl rfl rfl rfl) (rn_zero rfl w110) ?_
          intro a116 he116
          clear he115 a115
          refine lC he116 rfl rfl Tryd.func21 (by kernel_rfl) rfl rfl (he116.want rfl rfl rfl rfl rfl) rfl (lmark threeC 772 zeroCe 7 mk4 _ (hT.new hH110.new)) ?_
          intro w117 a118 hn he118
          have hH117 := hH110.call hn
          clear he116 a116 hH110 hn
          refine lV (Value.bool false) he118 rfl rfl (he118.want rfl rfl rfl rfl rfl) (rn_not (b := true) rfl (he118.op rfl) w117) ?_
          intro a119 he119
          clear he118 a118
          refine lV (Value.bool false) he119 rfl rfl (wanted_plain rfl _) (rn_pk0 rfl (he119.op rfl) (he119.op rfl) w117) ?_
          intro a120 he120
          clear he119 a119
          refine lV (Value.bool false) he120 rfl rfl (wanted_plain rfl _) (rn_mv rfl (he120.op rfl) w117) ?_
          intro a121 he121
          clear he120 a120
          refine lV (Ce.v ((blankC zeroP))) he121 rfl rfl (he121.want rfl rfl rfl rfl rfl) (rn_load rfl (he121.op rfl) (hH117.at (i := 5) rfl)) ?_
          intro a122 he122
          clear he121 a121
          refine lV (Ce.v zeroCe) he122 rfl rfl (he122.want rfl rfl rfl rfl rfl) (rn_zero rfl w117) ?_
          intro a123 he123
          clear he122 a122
          refine lC he123 rfl rfl Tryd.func21 (by kernel_rfl) rfl rfl (he123.want rfl rfl rfl rfl rfl) rfl (lmark (blankC zeroP) 769 zeroCe 8 mk5 _ (hT.new hH117.new)) ?_
          intro w124 a125 hn he125
          have hH124 := hH117.call hn
          clear he123 a123 hH117 hn
          refine lV (Value.bool false) he125 rfl rfl (he125.want rfl rfl rfl rfl rfl) (rn_not (b := true) rfl (he125.op rfl) w124) ?_
          intro a126 he126
          clear he125 a125
          refine lV (Value.bool false) he126 rfl rfl (wanted_plain rfl _) (rn_pk0 rfl (he126.op rfl) (he126.op rfl) w124) ?_
          intro a127 he127
          clear he126 a126
          refine lV (Value.bool false) he127 rfl rfl (wanted_plain rfl _) (rn_mv rfl (he127.op rfl) w124) ?_
          intro a128 he128
          clear he127 a127
          refine lV (Ce.v aC) he128 rfl rfl (he128.want rfl rfl rfl rfl rfl) (rn_load rfl (he128.op rfl) (hH124.at (i := 7) rfl)) ?_
          intro a129 he129
          clear he128 a128
          refine lV (Ce.v zeroCe) he129 rfl rfl (he129.want rfl rfl rfl rfl rfl) (rn_zero rfl w124) ?_
          intro a130 he130
          clear he129 a129
          refine lC he130 rfl rfl Tryd.func21 (by kernel_rfl) rfl rfl (he130.want rfl rfl rfl rfl rfl) rfl (lmark aC 98 zeroCe 2 mk6 _ (hT.new hH124.new)) ?_
          intro w131 a132 hn he132
          have hH131 := hH124.call hn
          clear he130 a130 hH124 hn
          refine lV (Value.bool false) he132 rfl rfl (he132.want rfl rfl rfl rfl rfl) (rn_not (b := true) rfl (he132.op rfl) w131) ?_
          intro a133 he133
          clear he132 a132
          refine lV (Value.bool false) he133 rfl rfl (wanted_plain rfl _) (rn_pk0 rfl (he133.op rfl) (he133.op rfl) w131) ?_
          intro a134 he134
          clear he133 a133
          refine wpList_nil ?_
          refine then_ok ?_
          refine wp_cond_false (he134.op rfl) ?_
          refine wp_skip ?_
          refine then_ok ?_
          have he135 : Env 191 [(10, Value.pointer (some ⟨q3, 0, none⟩)), (9, Value.pointer (some ⟨q2, 0, none⟩)), (8, Value.pointer (some ⟨q1, 0, none⟩)), (7, Value.pointer (some ⟨p35, 0, none⟩)), (6, Value.pointer (some ⟨p25, 0, none⟩)), (5, Value.pointer (some ⟨p16, 0, none⟩)), (4, Value.pointer (some ⟨p14, 0, none⟩)), (3, Value.pointer (some ⟨p12, 0, none⟩)), (2, Value.pointer (some ⟨p5, 0, none⟩)), (1, Value.pointer (some ⟨p2, 0, none⟩))] a134 := he134.mem ⟨rfl, rfl, rfl, rfl, rfl, rfl, rfl, rfl, rfl, rfl, trivial⟩
          clear he134
          as_aux_lemma =>
            refine wp_seq ?_
            refine wp_seq ?_
            refine wp_region_lit ?_
            refine lV (Ce.v ⟨97, 0, 0, 0, 2, zeroP⟩) he135 rfl rfl (wanted_plain rfl _) (rn_bldaw rfl (fun _ => rfl) w131) ?_
            intro a136 he136
            clear he135 a134
            refine lC he136 rfl rfl Tryd.func14 (by kernel_rfl) rfl rfl (wanted_plain rfl _) rfl (CValidK ⟨97, 0, 0, 0, 2, zeroP⟩ false cb1 _ (hT.new hH131.new)) ?_
            intro w137 a138 hn he138
            have hH137 := hH131.call hn
            clear he136 a136 hH131 hn
            refine lV (Value.bool false) he138 rfl rfl (wanted_plain rfl _) (rn_mv rfl (he138.op rfl) w137) ?_
            intro a139 he139
            clear he138 a138
            refine lV (Ce.v ⟨0, 0, 0, 0, 2, zeroP⟩) he139 rfl rfl (he139.want rfl rfl rfl rfl rfl) (rn_bldw rfl (fun _ => rfl) w137) ?_
            intro a140 he140
            clear he139 a139
            refine lC he140 rfl rfl Tryd.func14 (by kernel_rfl) rfl rfl (he140.want rfl rfl rfl rfl rfl) rfl (CValidK ⟨0, 0, 0, 0, 2, zeroP⟩ false cb2 _ (hT.new hH137.new)) ?_
            intro w141 a142 hn he142
            have hH141 := hH137.call hn
            clear he140 a140 hH137 hn
            refine lV (Value.bool false) he142 rfl rfl (wanted_plain rfl _) (rn_pk0 rfl (he142.op rfl) (he142.op rfl) w141) ?_
            intro a143 he143
            clear he142 a142
            refine lV (Value.bool false) he143 rfl rfl (wanted_plain rfl _) (rn_mv rfl (he143.op rfl) w141) ?_
            intro a144 he144
            clear he143 a143
            refine lV (Value.agg #[.int .i32 0, .int .i32 769, .int .i32 0]) he144 rfl rfl (he144.want rfl rfl rfl rfl rfl) (rn_bldm rfl (fun _ => rfl) w141) ?_
            intro a145 he145
            clear he144 a144
            refine lV (Ce.v ⟨97, 0, 769, 0, 1, zeroP⟩) he145 rfl rfl (he145.want rfl rfl rfl rfl rfl) (rn_bldawm rfl (fun _ => rfl) (he145.op rfl) w141) ?_
            intro a146 he146
            clear he145 a145
            refine lC he146 rfl rfl Tryd.func14 (by kernel_rfl) rfl rfl (he146.want rfl rfl rfl rfl rfl) rfl (CValidK ⟨97, 0, 769, 0, 1, zeroP⟩ false cb3 _ (hT.new hH141.new)) ?_
            intro w147 a148 hn he148
            have hH147 := hH141.call hn
            clear he146 a146 hH141 hn
            refine lV (Value.bool false) he148 rfl rfl (wanted_plain rfl _) (rn_pk0 rfl (he148.op rfl) (he148.op rfl) w147) ?_
            intro a149 he149
            clear he148 a148
            refine lV (Value.bool false) he149 rfl rfl (wanted_plain rfl _) (rn_mv rfl (he149.op rfl) w147) ?_
            intro a150 he150
            clear he149 a149
            refine lV (Ce.v zeroCe) he150 rfl rfl (he150.want rfl rfl rfl rfl rfl) (rn_zero rfl w147) ?_
            intro a151 he151
            clear he150 a150
            refine lC he151 rfl rfl Tryd.func14 (by kernel_rfl) rfl rfl (he151.want rfl rfl rfl rfl rfl) rfl (CValidK zeroCe true cb4 _ (hT.new hH147.new)) ?_
            intro w152 a153 hn he153
            have hH152 := hH147.call hn
            clear he151 a151 hH147 hn
            refine lV (Value.bool false) he153 rfl rfl (he153.want rfl rfl rfl rfl rfl) (rn_not (b := true) rfl (he153.op rfl) w152) ?_
            intro a154 he154
            clear he153 a153
            refine lV (Value.bool false) he154 rfl rfl (wanted_plain rfl _) (rn_pk0 rfl (he154.op rfl) (he154.op rfl) w152) ?_
            intro a155 he155
            clear he154 a154
            refine lV (Value.bool false) he155 rfl rfl (wanted_plain rfl _) (rn_mv rfl (he155.op rfl) w152) ?_
            intro a156 he156
            clear he155 a155
            refine lV (Ce.v zeroCe) he156 rfl rfl (he156.want rfl rfl rfl rfl rfl) (rn_zero rfl w152) ?_
            intro a157 he157
            clear he156 a156
            refine lNew (fun p => .slice (some ⟨p, 0, none⟩) 1 1) he157 hH152 rfl rfl (he157.want rfl rfl rfl rfl rfl) (rn_bs1 rfl (he157.op rfl) w152) ?_
            intro p158 w158 a159 _ hH158 he159
            clear he157 a157 hH152
            refine lC he159 rfl rfl Tryd.func37 (by kernel_rfl) rfl rfl (he159.want rfl rfl rfl rfl rfl) rfl (list_any _ _) ?_
            intro w0 a160 e0 he160
            subst e0
            clear he159 a159
            have _ := hH158
            refine lC he160 rfl rfl Tryd.func22 (by kernel_rfl) rfl rfl (he160.want rfl rfl rfl rfl rfl) rfl (CRowK [zeroCe] false rw1 1 _ _ _ _ (rdb (l := [zeroCe]) (hH158.at (i := 0) rfl) rfl rfl) (by omega) (hT.new hH158.new)) ?_
            intro w161 a162 hn he162
            have hH161 := hH158.call hn
            clear he160 a160 hH158 hn
            refine lV (Value.bool false) he162 rfl rfl (wanted_plain rfl _) (rn_pk0 rfl (he162.op rfl) (he162.op rfl) w161) ?_
            intro a163 he163
            clear he162 a162
            refine lV (Value.bool false) he163 rfl rfl (wanted_plain rfl _) (rn_mv rfl (he163.op rfl) w161) ?_
            intro a164 he164
            clear he163 a163
            refine lV (Ce.v wideC) he164 rfl rfl (he164.want rfl rfl rfl rfl rfl) (rn_load rfl (he164.op rfl) (hH161.at (i := 7) rfl)) ?_
            intro a165 he165
            clear he164 a164
            refine lV (Ce.v ((spaceC boldP))) he165 rfl rfl (he165.want rfl rfl rfl rfl rfl) (rn_load rfl (he165.op rfl) (hH161.at (i := 4) rfl)) ?_
            intro a166 he166
            clear he165 a165
            refine lNew (fun p => .slice (some ⟨p, 0, none⟩) 2 2) he166 hH161 rfl rfl (he166.want rfl rfl rfl rfl rfl) (rn_bs2 rfl (he166.op rfl) (he166.op rfl) w161) ?_
            intro p167 w167 a168 _ hH167 he168
            clear he166 a166 hH161
            refine lC he168 rfl rfl Tryd.func37 (by kernel_rfl) rfl rfl (he168.want rfl rfl rfl rfl rfl) rfl (list_any _ _) ?_
            intro w0 a169 e0 he169
            subst e0
            clear he168 a168
            have _ := hH167
            refine lC he169 rfl rfl Tryd.func22 (by kernel_rfl) rfl rfl (he169.want rfl rfl rfl rfl rfl) rfl (CRowK [wideC, spaceC boldP] false rw2 2 _ _ _ _ (rdb (l := [wideC, spaceC boldP]) (hH167.at (i := 0) rfl) rfl rfl) (by omega) (hT.new hH167.new)) ?_
            intro w170 a171 hn he171
            have hH170 := hH167.call hn
            clear he169 a169 hH167 hn
            refine lV (Value.bool false) he171 rfl rfl (wanted_plain rfl _) (rn_pk0 rfl (he171.op rfl) (he171.op rfl) w170) ?_
            intro a172 he172
            clear he171 a171
            refine lV (Value.bool false) he172 rfl rfl (wanted_plain rfl _) (rn_mv rfl (he172.op rfl) w170) ?_
            intro a173 he173
            clear he172 a172
            refine lV (Ce.v wideC) he173 rfl rfl (he173.want rfl rfl rfl rfl rfl) (rn_load rfl (he173.op rfl) (hH170.at (i := 8) rfl)) ?_
            intro a174 he174
            clear he173 a173
            refine lNew (fun p => .slice (some ⟨p, 0, none⟩) 1 1) he174 hH170 rfl rfl (he174.want rfl rfl rfl rfl rfl) (rn_bs1 rfl (he174.op rfl) w170) ?_
            intro p175 w175 a176 _ hH175 he176
            clear he174 a174 hH170
            refine lC he176 rfl rfl Tryd.func37 (by kernel_rfl) rfl rfl (he176.want rfl rfl rfl rfl rfl) rfl (list_any _ _) ?_
            intro w0 a177 e0 he177
            subst e0
            clear he176 a176
            have _ := hH175
            refine lC he177 rfl rfl Tryd.func22 (by kernel_rfl) rfl rfl (he177.want rfl rfl rfl rfl rfl) rfl (CRowK [wideC] false rw3 1 _ _ _ _ (rdb (l := [wideC]) (hH175.at (i := 0) rfl) rfl rfl) (by omega) (hT.new hH175.new)) ?_
            intro w178 a179 hn he179
            have hH178 := hH175.call hn
            clear he177 a177 hH175 hn
            refine lV (Value.bool false) he179 rfl rfl (wanted_plain rfl _) (rn_pk0 rfl (he179.op rfl) (he179.op rfl) w178) ?_
            intro a180 he180
            clear he179 a179
            refine lV (Value.bool false) he180 rfl rfl (wanted_plain rfl _) (rn_mv rfl (he180.op rfl) w178) ?_
            intro a181 he181
            clear he180 a180
            refine lC he181 rfl rfl Tryd.func22 (by kernel_rfl) rfl rfl (he181.want rfl rfl rfl rfl rfl) rfl (CRowK [] true rw4 0 0 _ _ _ (RdC.nil _ _ _) (by omega) (hT.new hH178.new)) ?_
            intro w182 a183 hn he183
            have hH182 := hH178.call hn
            clear he181 a181 hH178 hn
            refine lV (Value.bool false) he183 rfl rfl (he183.want rfl rfl rfl rfl rfl) (rn_not (b := true) rfl (he183.op rfl) w182) ?_
            intro a184 he184
            clear he183 a183
            refine lV (Value.bool false) he184 rfl rfl (wanted_plain rfl _) (rn_pk0 rfl (he184.op rfl) (he184.op rfl) w182) ?_
            intro a185 he185
            clear he184 a184
            refine wpList_nil ?_
            refine then_ok ?_
            refine wp_cond_false (he185.op rfl) ?_
            refine wp_skip ?_
            refine then_ok ?_
            have he186 : Env 191 [(10, Value.pointer (some ⟨q3, 0, none⟩)), (9, Value.pointer (some ⟨q2, 0, none⟩)), (8, Value.pointer (some ⟨q1, 0, none⟩)), (7, Value.pointer (some ⟨p35, 0, none⟩)), (6, Value.pointer (some ⟨p25, 0, none⟩)), (5, Value.pointer (some ⟨p16, 0, none⟩)), (4, Value.pointer (some ⟨p14, 0, none⟩)), (3, Value.pointer (some ⟨p12, 0, none⟩)), (2, Value.pointer (some ⟨p5, 0, none⟩)), (1, Value.pointer (some ⟨p2, 0, none⟩))] a185 := he185.mem ⟨rfl, rfl, rfl, rfl, rfl, rfl, rfl, rfl, rfl, rfl, trivial⟩
            clear he185
            have hH187 := hH182.tail rfl
            clear hH182
            have hH188 := hH187.tail rfl
            clear hH187
            have hH189 := hH188.tail rfl
            clear hH188
            as_aux_lemma =>
              refine wp_seq ?_
              refine wp_seq ?_
              refine wp_region_lit ?_
              refine lV (Ce.v oneC) he186 rfl rfl (wanted_plain rfl _) (rn_load rfl (he186.op rfl) (hH189.at (i := 0) rfl)) ?_
              intro a190 he190
              clear he186 a185
              refine lC he190 rfl rfl Tryd.func18 (by kernel_rfl) rfl rfl (wanted_plain rfl _) rfl (CTextK oneC _ tx1 _) ?_
              intro w191 a192 hn he192
              have hH191 := hH189.call hn
              clear he190 a190 hH189 hn
              refine lV (Value.bool false) he192 rfl rfl (wanted_plain rfl _) (rn_neq rfl (he192.op rfl) (he192.op rfl) w191) ?_
              intro a193 he193
              clear he192 a192
              refine lV (Value.bool false) he193 rfl rfl (wanted_plain rfl _) (rn_mv rfl (he193.op rfl) w191) ?_
              intro a194 he194
              clear he193 a193
              refine lV (Ce.v ((blankC zeroP))) he194 rfl rfl (he194.want rfl rfl rfl rfl rfl) (rn_load rfl (he194.op rfl) (hH191.at (i := 5) rfl)) ?_
              intro a195 he195
              clear he194 a194
              refine lC he195 rfl rfl Tryd.func18 (by kernel_rfl) rfl rfl (he195.want rfl rfl rfl rfl rfl) rfl (CTextK (blankC zeroP) _ tx2 _) ?_
              intro w196 a197 hn he197
              have hH196 := hH191.call hn
              clear he195 a195 hH191 hn
              refine lV (Value.bool false) he197 rfl rfl (he197.want rfl rfl rfl rfl rfl) (rn_neq rfl (he197.op rfl) (he197.op rfl) w196) ?_
              intro a198 he198
              clear he197 a197
              refine lV (Value.bool false) he198 rfl rfl (wanted_plain rfl _) (rn_pk0 rfl (he198.op rfl) (he198.op rfl) w196) ?_
              intro a199 he199
              clear he198 a198
              refine lV (Value.bool false) he199 rfl rfl (wanted_plain rfl _) (rn_mv rfl (he199.op rfl) w196) ?_
              intro a200 he200
              clear he199 a199
              refine lV (Ce.v zeroCe) he200 rfl rfl (he200.want rfl rfl rfl rfl rfl) (rn_zero rfl w196) ?_
              intro a201 he201
              clear he200 a200
              refine lC he201 rfl rfl Tryd.func18 (by kernel_rfl) rfl rfl (he201.want rfl rfl rfl rfl rfl) rfl (CTextK zeroCe _ tx3 _) ?_
              intro w202 a203 hn he203
              have hH202 := hH196.call hn
              clear he201 a201 hH196 hn
              refine lV (Value.bool false) he203 rfl rfl (he203.want rfl rfl rfl rfl rfl) (rn_neq rfl (he203.op rfl) (he203.op rfl) w202) ?_
              intro a204 he204
              clear he203 a203
              refine lV (Value.bool false) he204 rfl rfl (wanted_plain rfl _) (rn_pk0 rfl (he204.op rfl) (he204.op rfl) w202) ?_
              intro a205 he205
              clear he204 a204
              refine lV (Value.bool false) he205 rfl rfl (wanted_plain rfl _) (rn_mv rfl (he205.op rfl) w202) ?_
              intro a206 he206
              clear he205 a205
              refine lV (Ce.v wideC) he206 rfl rfl (he206.want rfl rfl rfl rfl rfl) (rn_load rfl (he206.op rfl) (hH202.at (i := 6) rfl)) ?_
              intro a207 he207
              clear he206 a206
              refine lV (Ce.v zeroCe) he207 rfl rfl (he207.want rfl rfl rfl rfl rfl) (rn_zero rfl w202) ?_
              intro a208 he208
              clear he207 a207
              refine lV (Ce.v ((blankC zeroP))) he208 rfl rfl (he208.want rfl rfl rfl rfl rfl) (rn_load rfl (he208.op rfl) (hH202.at (i := 5) rfl)) ?_
              intro a209 he209
              clear he208 a208
              refine lV (Ce.v xC) he209 rfl rfl (he209.want rfl rfl rfl rfl rfl) (rn_bldaw rfl (fun _ => rfl) w202) ?_
              intro a210 he210
              clear he209 a209
              refine lNew (fun p => .slice (some ⟨p, 0, none⟩) 4 4) he210 hH202 rfl rfl (he210.want rfl rfl rfl rfl rfl) (rn_bs4 rfl (he210.op rfl) (he210.op rfl) (he210.op rfl) (he210.op rfl) w202) ?_
              intro p211 w211 a212 _ hH211 he212
              clear he210 a210 hH202
              refine lC he212 rfl rfl Tryd.func37 (by kernel_rfl) rfl rfl (he212.want rfl rfl rfl rfl rfl) rfl (list_any _ _) ?_
              intro w0 a213 e0 he213
              subst e0
              clear he212 a212
              have _ := hH211
              refine lC he213 rfl rfl Tryd.func24 (by kernel_rfl) rfl rfl (he213.want rfl rfl rfl rfl rfl) rfl (CTextsK [wideC, zeroCe, blankC zeroP, xC] _ tx4 4 _ _ _ _ (rdb (l := [wideC, zeroCe, blankC zeroP, xC]) (hH211.at (i := 0) rfl) rfl rfl) (by omega)) ?_
              intro w214 a215 hn he215
              have hH214 := hH211.call hn
              clear he213 a213 hH211 hn
              refine lV (Value.bool false) he215 rfl rfl (he215.want rfl rfl rfl rfl rfl) (rn_neq rfl (he215.op rfl) (he215.op rfl) w214) ?_
              intro a216 he216
              clear he215 a215
              refine lV (Value.bool false) he216 rfl rfl (wanted_plain rfl _) (rn_pk0 rfl (he216.op rfl) (he216.op rfl) w214) ?_
              intro a217 he217
              clear he216 a216
              refine wpList_nil ?_
              refine then_ok ?_
              refine wp_cond_false (he217.op rfl) ?_
              refine wp_skip ?_
              refine then_ok ?_
              have he218 : Env 191 [(10, Value.pointer (some ⟨q3, 0, none⟩)), (9, Value.pointer (some ⟨q2, 0, none⟩)), (8, Value.pointer (some ⟨q1, 0, none⟩)), (7, Value.pointer (some ⟨p35, 0, none⟩)), (6, Value.pointer (some ⟨p25, 0, none⟩)), (5, Value.pointer (some ⟨p16, 0, none⟩)), (4, Value.pointer (some ⟨p14, 0, none⟩)), (3, Value.pointer (some ⟨p12, 0, none⟩)), (2, Value.pointer (some ⟨p5, 0, none⟩)), (1, Value.pointer (some ⟨p2, 0, none⟩))] a217 := he217.mem ⟨rfl, rfl, rfl, rfl, rfl, rfl, rfl, rfl, rfl, rfl, trivial⟩
              clear he217
              have hH219 := hH214.tail rfl
              clear hH214
              as_aux_lemma =>
                refine wp_seq ?_
                refine wp_region_lit ?_
                refine lV (Pn.v boldP) he218 rfl rfl (wanted_plain rfl _) (rn_loadP rfl (he218.op rfl) (hH219.at (i := 8) rfl)) ?_
                intro a220 he220
                clear he218 a217
                refine lV (Ce.v (blankC boldP)) he220 rfl rfl (wanted_plain rfl _) (rn_bldwp rfl (fun _ => rfl) (he220.op rfl) w214) ?_
                intro a221 he221
                clear he220 a220
                refine lNew (fun p => .pointer (some ⟨p, 0, none⟩)) he221 hH219 rfl rfl (wanted_plain rfl _) (rn_alloc rfl w214) ?_
                intro p222 w222 a223 _ hH222 he223
                clear he221 a221 hH219
                refine lSet 0 (cs := (Ce.cs (blankC boldP))) he223 hH222 rfl (wanted_plain rfl _) rfl rfl rfl rfl infoC16 rfl (by kernel_rfl) (by kernel_rfl) ?_
                intro w224 a225 hH224 he225
                replace hH224 : Hp w [⟨p222, 30, (Ce.cs (blankC boldP))⟩, ⟨q1, 30, oneC.cs⟩, ⟨q2, 30, twoC.cs⟩, ⟨q3, 30, threeC.cs⟩, ⟨p35, 30, (Ce.cs (spaceC boldP))⟩, ⟨p25, 30, boldC.cs⟩, ⟨p16, 30, (Ce.cs (blankC zeroP))⟩, ⟨p14, 30, wideC.cs⟩, ⟨p12, 30, aC.cs⟩, ⟨p5, 27, boldP.cs⟩, ⟨p2, 27, zeroP.cs⟩] w224 := hH224
                clear he223 a223 hH222
                refine wpList_nil ?_
                refine then_ok ?_
                have he226 : Env 191 [(11, Value.pointer (some ⟨p222, 0, none⟩)), (10, Value.pointer (some ⟨q3, 0, none⟩)), (9, Value.pointer (some ⟨q2, 0, none⟩)), (8, Value.pointer (some ⟨q1, 0, none⟩)), (7, Value.pointer (some ⟨p35, 0, none⟩)), (6, Value.pointer (some ⟨p25, 0, none⟩)), (5, Value.pointer (some ⟨p16, 0, none⟩)), (4, Value.pointer (some ⟨p14, 0, none⟩)), (3, Value.pointer (some ⟨p12, 0, none⟩)), (2, Value.pointer (some ⟨p5, 0, none⟩)), (1, Value.pointer (some ⟨p2, 0, none⟩))] a225 := he225.mem ⟨rfl, rfl, rfl, rfl, rfl, rfl, rfl, rfl, rfl, rfl, rfl, trivial⟩
                clear he225
                as_aux_lemma =>
                  refine wp_seq ?_
                  refine wp_region_held_drew (S := Hp w [⟨p222, 30, (Ce.cs (blankC boldP))⟩, ⟨q1, 30, oneC.cs⟩, ⟨q2, 30, twoC.cs⟩, ⟨q3, 30, threeC.cs⟩, ⟨p35, 30, (Ce.cs (spaceC boldP))⟩, ⟨p25, 30, boldC.cs⟩, ⟨p16, 30, (Ce.cs (blankC zeroP))⟩, ⟨p14, 30, wideC.cs⟩, ⟨p12, 30, aC.cs⟩, ⟨p5, 27, boldP.cs⟩, ⟨p2, 27, zeroP.cs⟩]) (by kernel_rfl) hH224.drew (fun hH18 => ?_)
                  clear hH224
                  generalize World.drew _ = w18 at *
                  refine hV (fuel := 40) (i := 0) (Ce.v boldC) he226 rfl rfl rfl (by kernel_rfl) (by kernel_rfl) (by kernel_rfl) (fun _ _ _ h => h) (wanted_plain rfl _) (fun w' hw' => rn_load rfl (he226.op rfl) (hw'.at (i := 5) rfl)) hH18 ?_
                  intro a227 he227
                  clear he226 a225
                  refine hV (fuel := 39) (i := 1) (Ce.v zeroCe) he227 rfl rfl rfl (by kernel_rfl) (by kernel_rfl) (by kernel_rfl) (fun _ _ _ h => h) (wanted_plain rfl _) (fun w' _ => rn_zero rfl w') hH18 ?_
                  intro a228 he228
                  clear he227 a227
                  refine hV (fuel := 38) (i := 4) (Ce.v boldC) he228 rfl rfl rfl (by kernel_rfl) (by kernel_rfl) (by kernel_rfl) (fun _ _ _ h => h) (wanted_plain rfl _) (fun w' hw' => rn_load rfl (he228.op rfl) (hw'.at (i := 5) rfl)) hH18 ?_
                  intro a229 he229
                  clear he228 a228
                  refine hV (fuel := 37) (i := 5) (Ce.v ((spaceC boldP))) he229 rfl rfl rfl (by kernel_rfl) (by kernel_rfl) (by kernel_rfl) (fun _ _ _ h => h) (wanted_plain rfl _) (fun w' hw' => rn_load rfl (he229.op rfl) (hw'.at (i := 4) rfl)) hH18 ?_
                  intro a230 he230
                  clear he229 a229
                  refine diamond (fuel := 34) (i := 2) (c := 3) (j := 6) (x := 153) (z := 154) (y := 157) (I := IsL 2 [boldC, zeroCe]) (J := IsL 2 [boldC, spaceC boldP]) (by decide) (by decide) (by decide) (by decide) rfl rfl rfl rfl rfl rfl (wanted_plain rfl _) (fun u => (wanted_plain rfl _)) (wanted_plain rfl _) (fun u => (wanted_plain rfl _)) (fun u u' => (wanted_plain rfl _)) (fun u => (wanted_plain rfl _)) (fun u u' => (wanted_plain rfl _)) (fun w => Does.val (rn_bs2 (x := boldC) (y := zeroCe) rfl (he230.op rfl) (he230.op rfl) w) ⟨New.alloc _, _, rfl, rdb (Blk.new w _ _) rfl rfl⟩) (fun u w => Does.val (rn_bs2 (x := boldC) (y := zeroCe) rfl ((he230.put (k := 157) rfl u).op rfl) ((he230.put (k := 157) rfl u).op rfl) w) ⟨New.alloc _, _, rfl, rdb (Blk.new w _ _) rfl rfl⟩) (fun w => Does.val (rn_bs2 (x := boldC) (y := spaceC boldP) rfl (he230.op rfl) (he230.op rfl) w) ⟨New.alloc _, _, rfl, rdb (Blk.new w _ _) rfl rfl⟩) (fun u w => Does.val (rn_bs2 (x := boldC) (y := spaceC boldP) rfl ((he230.put (k := 153) rfl u).op rfl) ((he230.put (k := 153) rfl u).op rfl) w) ⟨New.alloc _, _, rfl, rdb (Blk.new w _ _) rfl rfl⟩) (fun u u' w => Does.val (rn_bs2 (x := boldC) (y := spaceC boldP) rfl (((he230.put (k := 153) rfl u).put (k := 154) rfl u').op rfl) (((he230.put (k := 153) rfl u).put (k := 154) rfl u').op rfl) w) ⟨New.alloc _, _, rfl, rdb (Blk.new w _ _) rfl rfl⟩) (fun u w => does_list (x := .tmp 153) (ats := #[45]) rfl ((he230.put (k := 153) rfl u).op rfl) w) (fun u u' w => does_list (x := .tmp 153) (ats := #[45]) rfl (((he230.put (k := 153) rfl u).put (k := 157) rfl u').op rfl) w) (by kernel_rfl) (by kernel_rfl) (by kernel_rfl) (by kernel_rfl) (by kernel_rfl) IsL.new IsL.new (fun _ _ k hn => k.call hn) hH18 ?_
                  rintro u u' w231 hH231 - ⟨pa, rfl, hr⟩ ⟨pb, rfl, hr'⟩
                  have he231 := ((he230.put (k := 153) rfl (Value.slice (some ⟨pa, 0, none⟩) 2 2)).put (k := 154) rfl (Value.slice (some ⟨pa, 0, none⟩) 2 2)).put (k := 157) rfl (Value.slice (some ⟨pb, 0, none⟩) 2 2)
                  generalize ((Act.put _ (some 153) _).put (some 154) _).put (some 157) _ = a231 at he231 ⊢
                  clear he230 a230 hH18
                  refine hC (fuel := 33) (i := 7) he231 (by kernel_rfl) rfl rfl rfl Tryd.func38 (by kernel_rfl) rfl rfl (wanted_plain rfl _) rfl (lfixes [boldC, zeroCe] 2 pa _ _ 2 pb _ _ w231 hr (by rw [fx1]; exact hr') (by omega) (by omega)) ?_
                  rintro e w232 ⟨rfl, hn⟩
                  have hH232 := hH231.call hn
                  refine ⟨_, rfl, hH232, ?_⟩
                  intro a233 he233
                  clear he231 a231 hH231 hn hr hr'
                  as_aux_lemma =>
                    refine hV (fuel := 32) (i := 8) (Value.bool true) he233 rfl rfl rfl (by kernel_rfl) (by kernel_rfl) (by kernel_rfl) (fun _ _ _ h => h) (wanted_plain rfl _) (fun w' _ => rn_mv rfl (he233.op rfl) w') hH232 ?_
                    intro a234 he234
                    clear he233 a233
                    refine hV (fuel := 31) (i := 9) (Ce.v ((spaceC boldP))) he234 rfl rfl rfl (by kernel_rfl) (by kernel_rfl) (by kernel_rfl) (fun _ _ _ h => h) (he234.want rfl rfl rfl rfl rfl) (fun w' hw' => rn_load rfl (he234.op rfl) (hw'.at (i := 4) rfl)) hH232 ?_
                    intro a235 he235
                    clear he234 a234
                    refine hV (fuel := 30) (i := 10) (Ce.v aC) he235 rfl rfl rfl (by kernel_rfl) (by kernel_rfl) (by kernel_rfl) (fun _ _ _ h => h) (he235.want rfl rfl rfl rfl rfl) (fun w' hw' => rn_load rfl (he235.op rfl) (hw'.at (i := 8) rfl)) hH232 ?_
                    intro a236 he236
                    clear he235 a235
                    refine hV (fuel := 29) (i := 13) (Ce.v ((blankC boldP))) he236 rfl rfl rfl (by kernel_rfl) (by kernel_rfl) (by kernel_rfl) (fun _ _ _ h => h) (he236.want rfl rfl rfl rfl rfl) (fun w' hw' => rn_load rfl (he236.op rfl) (hw'.at (i := 0) rfl)) hH232 ?_
                    intro a237 he237
                    clear he236 a236
                    refine hV (fuel := 28) (i := 14) (Ce.v aC) he237 rfl rfl rfl (by kernel_rfl) (by kernel_rfl) (by kernel_rfl) (fun _ _ _ h => h) (he237.want rfl rfl rfl rfl rfl) (fun w' hw' => rn_load rfl (he237.op rfl) (hw'.at (i := 8) rfl)) hH232 ?_
                    intro a238 he238
                    clear he237 a237
                    refine diamond (fuel := 25) (i := 11) (c := 12) (j := 15) (x := 162) (z := 163) (y := 166) (I := IsL 2 [spaceC boldP, aC]) (J := IsL 2 [blankC boldP, aC]) (by decide) (by decide) (by decide) (by decide) rfl rfl rfl rfl rfl rfl (he238.want rfl rfl rfl rfl rfl) (fun u => ((he238.put (k := 166) rfl u).want rfl rfl rfl rfl rfl)) (he238.want rfl rfl rfl rfl rfl) (fun u => ((he238.put (k := 162) rfl u).want rfl rfl rfl rfl rfl)) (fun u u' => (((he238.put (k := 162) rfl u).put (k := 163) rfl u').want rfl rfl rfl rfl rfl)) (fun u => ((he238.put (k := 162) rfl u).want rfl rfl rfl rfl rfl)) (fun u u' => (((he238.put (k := 162) rfl u).put (k := 166) rfl u').want rfl rfl rfl rfl rfl)) (fun w => Does.val (rn_bs2 (x := spaceC boldP) (y := aC) rfl (he238.op rfl) (he238.op rfl) w) ⟨New.alloc _, _, rfl, rdb (Blk.new w _ _) rfl rfl⟩) (fun u w => Does.val (rn_bs2 (x := spaceC boldP) (y := aC) rfl ((he238.put (k := 166) rfl u).op rfl) ((he238.put (k := 166) rfl u).op rfl) w) ⟨New.alloc _, _, rfl, rdb (Blk.new w _ _) rfl rfl⟩) (fun w => Does.val (rn_bs2 (x := blankC boldP) (y := aC) rfl (he238.op rfl) (he238.op rfl) w) ⟨New.alloc _, _, rfl, rdb (Blk.new w _ _) rfl rfl⟩) (fun u w => Does.val (rn_bs2 (x := blankC boldP) (y := aC) rfl ((he238.put (k := 162) rfl u).op rfl) ((he238.put (k := 162) rfl u).op rfl) w) ⟨New.alloc _, _, rfl, rdb (Blk.new w _ _) rfl rfl⟩) (fun u u' w => Does.val (rn_bs2 (x := blankC boldP) (y := aC) rfl (((he238.put (k := 162) rfl u).put (k := 163) rfl u').op rfl) (((he238.put (k := 162) rfl u).put (k := 163) rfl u').op rfl) w) ⟨New.alloc _, _, rfl, rdb (Blk.new w _ _) rfl rfl⟩) (fun u w => does_list (x := .tmp 162) (ats := #[45]) rfl ((he238.put (k := 162) rfl u).op rfl) w) (fun u u' w => does_list (x := .tmp 162) (ats := #[45]) rfl (((he238.put (k := 162) rfl u).put (k := 166) rfl u').op rfl) w) (by kernel_rfl) (by kernel_rfl) (by kernel_rfl) (by kernel_rfl) (by kernel_rfl) IsL.new IsL.new (fun _ _ k hn => k.call hn) hH232 ?_
                    rintro u u' w239 hH239 - ⟨pa, rfl, hr⟩ ⟨pb, rfl, hr'⟩
                    have he239 := ((he238.put (k := 162) rfl (Value.slice (some ⟨pa, 0, none⟩) 2 2)).put (k := 163) rfl (Value.slice (some ⟨pa, 0, none⟩) 2 2)).put (k := 166) rfl (Value.slice (some ⟨pb, 0, none⟩) 2 2)
                    generalize ((Act.put _ (some 162) _).put (some 163) _).put (some 166) _ = a239 at he239 ⊢
                    clear he238 a238 hH232
                    refine hC (fuel := 24) (i := 16) he239 (by kernel_rfl) rfl rfl rfl Tryd.func38 (by kernel_rfl) rfl rfl (he239.want rfl rfl rfl rfl rfl) rfl (lfixes [spaceC boldP, aC] 2 pa _ _ 2 pb _ _ w239 hr (by rw [fx2]; exact hr') (by omega) (by omega)) ?_
                    rintro e w240 ⟨rfl, hn⟩
                    have hH240 := hH239.call hn
                    refine ⟨_, rfl, hH240, ?_⟩
                    intro a241 he241
                    clear he239 a239 hH239 hn hr hr'
                    as_aux_lemma =>
                      refine hV (fuel := 23) (i := 17) (Value.bool true) he241 rfl rfl rfl (by kernel_rfl) (by kernel_rfl) (by kernel_rfl) (fun _ _ _ h => h) (wanted_plain rfl _) (fun w' _ => rn_pk rfl (he241.op rfl) (he241.op rfl) w') hH240 ?_
                      intro a242 he242
                      clear he241 a241
                      refine hV (fuel := 22) (i := 18) (Value.bool true) he242 rfl rfl rfl (by kernel_rfl) (by kernel_rfl) (by kernel_rfl) (fun _ _ _ h => h) (wanted_plain rfl _) (fun w' _ => rn_mv rfl (he242.op rfl) w') hH240 ?_
                      intro a243 he243
                      clear he242 a242
                      refine hV (fuel := 21) (i := 19) (Ce.v aC) he243 rfl rfl rfl (by kernel_rfl) (by kernel_rfl) (by kernel_rfl) (fun _ _ _ h => h) (he243.want rfl rfl rfl rfl rfl) (fun w' hw' => rn_load rfl (he243.op rfl) (hw'.at (i := 8) rfl)) hH240 ?_
                      intro a244 he244
                      clear he243 a243
                      refine hV (fuel := 20) (i := 20) (Ce.v boldC) he244 rfl rfl rfl (by kernel_rfl) (by kernel_rfl) (by kernel_rfl) (fun _ _ _ h => h) (he244.want rfl rfl rfl rfl rfl) (fun w' hw' => rn_load rfl (he244.op rfl) (hw'.at (i := 5) rfl)) hH240 ?_
                      intro a245 he245
                      clear he244 a244
                      refine hV (fuel := 19) (i := 23) (Ce.v aC) he245 rfl rfl rfl (by kernel_rfl) (by kernel_rfl) (by kernel_rfl) (fun _ _ _ h => h) (he245.want rfl rfl rfl rfl rfl) (fun w' hw' => rn_load rfl (he245.op rfl) (hw'.at (i := 8) rfl)) hH240 ?_
                      intro a246 he246
                      clear he245 a245
                      refine hV (fuel := 18) (i := 24) (Ce.v ((blankC boldP))) he246 rfl rfl rfl (by kernel_rfl) (by kernel_rfl) (by kernel_rfl) (fun _ _ _ h => h) (he246.want rfl rfl rfl rfl rfl) (fun w' hw' => rn_load rfl (he246.op rfl) (hw'.at (i := 0) rfl)) hH240 ?_
                      intro a247 he247
                      clear he246 a246
                      refine diamond (fuel := 15) (i := 21) (c := 22) (j := 25) (x := 172) (z := 173) (y := 176) (I := IsL 2 [aC, boldC]) (J := IsL 2 [aC, blankC boldP]) (by decide) (by decide) (by decide) (by decide) rfl rfl rfl rfl rfl rfl (he247.want rfl rfl rfl rfl rfl) (fun u => ((he247.put (k := 176) rfl u).want rfl rfl rfl rfl rfl)) (he247.want rfl rfl rfl rfl rfl) (fun u => ((he247.put (k := 172) rfl u).want rfl rfl rfl rfl rfl)) (fun u u' => (((he247.put (k := 172) rfl u).put (k := 173) rfl u').want rfl rfl rfl rfl rfl)) (fun u => ((he247.put (k := 172) rfl u).want rfl rfl rfl rfl rfl)) (fun u u' => (((he247.put (k := 172) rfl u).put (k := 176) rfl u').want rfl rfl rfl rfl rfl)) (fun w => Does.val (rn_bs2 (x := aC) (y := boldC) rfl (he247.op rfl) (he247.op rfl) w) ⟨New.alloc _, _, rfl, rdb (Blk.new w _ _) rfl rfl⟩) (fun u w => Does.val (rn_bs2 (x := aC) (y := boldC) rfl ((he247.put (k := 176) rfl u).op rfl) ((he247.put (k := 176) rfl u).op rfl) w) ⟨New.alloc _, _, rfl, rdb (Blk.new w _ _) rfl rfl⟩) (fun w => Does.val (rn_bs2 (x := aC) (y := blankC boldP) rfl (he247.op rfl) (he247.op rfl) w) ⟨New.alloc _, _, rfl, rdb (Blk.new w _ _) rfl rfl⟩) (fun u w => Does.val (rn_bs2 (x := aC) (y := blankC boldP) rfl ((he247.put (k := 172) rfl u).op rfl) ((he247.put (k := 172) rfl u).op rfl) w) ⟨New.alloc _, _, rfl, rdb (Blk.new w _ _) rfl rfl⟩) (fun u u' w => Does.val (rn_bs2 (x := aC) (y := blankC boldP) rfl (((he247.put (k := 172) rfl u).put (k := 173) rfl u').op rfl) (((he247.put (k := 172) rfl u).put (k := 173) rfl u').op rfl) w) ⟨New.alloc _, _, rfl, rdb (Blk.new w _ _) rfl rfl⟩) (fun u w => does_list (x := .tmp 172) (ats := #[45]) rfl ((he247.put (k := 172) rfl u).op rfl) w) (fun u u' w => does_list (x := .tmp 172) (ats := #[45]) rfl (((he247.put (k := 172) rfl u).put (k := 176) rfl u').op rfl) w) (by kernel_rfl) (by kernel_rfl) (by kernel_rfl) (by kernel_rfl) (by kernel_rfl) IsL.new IsL.new (fun _ _ k hn => k.call hn) hH240 ?_
                      rintro u u' w248 hH248 - ⟨pa, rfl, hr⟩ ⟨pb, rfl, hr'⟩
                      have he248 := ((he247.put (k := 172) rfl (Value.slice (some ⟨pa, 0, none⟩) 2 2)).put (k := 173) rfl (Value.slice (some ⟨pa, 0, none⟩) 2 2)).put (k := 176) rfl (Value.slice (some ⟨pb, 0, none⟩) 2 2)
                      generalize ((Act.put _ (some 172) _).put (some 173) _).put (some 176) _ = a248 at he248 ⊢
                      clear he247 a247 hH240
                      refine hC (fuel := 14) (i := 26) he248 (by kernel_rfl) rfl rfl rfl Tryd.func38 (by kernel_rfl) rfl rfl (he248.want rfl rfl rfl rfl rfl) rfl (lfixes [aC, boldC] 2 pa _ _ 2 pb _ _ w248 hr (by rw [fx3]; exact hr') (by omega) (by omega)) ?_
                      rintro e w249 ⟨rfl, hn⟩
                      have hH249 := hH248.call hn
                      refine ⟨_, rfl, hH249, ?_⟩
                      intro a250 he250
                      clear he248 a248 hH248 hn hr hr'
                      as_aux_lemma =>
                        refine hV (fuel := 13) (i := 27) (Value.bool true) he250 rfl rfl rfl (by kernel_rfl) (by kernel_rfl) (by kernel_rfl) (fun _ _ _ h => h) (wanted_plain rfl _) (fun w' _ => rn_pk rfl (he250.op rfl) (he250.op rfl) w') hH249 ?_
                        intro a251 he251
                        clear he250 a250
                        refine hV (fuel := 12) (i := 28) (Value.bool true) he251 rfl rfl rfl (by kernel_rfl) (by kernel_rfl) (by kernel_rfl) (fun _ _ _ h => h) (wanted_plain rfl _) (fun w' _ => rn_mv rfl (he251.op rfl) w') hH249 ?_
                        intro a252 he252
                        clear he251 a251
                        refine hV (fuel := 11) (i := 29) (Ce.v wideC) he252 rfl rfl rfl (by kernel_rfl) (by kernel_rfl) (by kernel_rfl) (fun _ _ _ h => h) (he252.want rfl rfl rfl rfl rfl) (fun w' hw' => rn_load rfl (he252.op rfl) (hw'.at (i := 7) rfl)) hH249 ?_
                        intro a253 he253
                        clear he252 a252
                        refine hV (fuel := 10) (i := 30) (Ce.v wideC) he253 rfl rfl rfl (by kernel_rfl) (by kernel_rfl) (by kernel_rfl) (fun _ _ _ h => h) (he253.want rfl rfl rfl rfl rfl) (fun w' hw' => rn_load rfl (he253.op rfl) (hw'.at (i := 7) rfl)) hH249 ?_
                        intro a254 he254
                        clear he253 a253
                        refine hV (fuel := 9) (i := 31) (Ce.v zeroCe) he254 rfl rfl rfl (by kernel_rfl) (by kernel_rfl) (by kernel_rfl) (fun _ _ _ h => h) (he254.want rfl rfl rfl rfl rfl) (fun w' _ => rn_zero rfl w') hH249 ?_
                        intro a255 he255
                        clear he254 a254
                        refine hV (fuel := 8) (i := 34) (Ce.v ((blankC zeroP))) he255 rfl rfl rfl (by kernel_rfl) (by kernel_rfl) (by kernel_rfl) (fun _ _ _ h => h) (he255.want rfl rfl rfl rfl rfl) (fun w' hw' => rn_load rfl (he255.op rfl) (hw'.at (i := 6) rfl)) hH249 ?_
                        intro a256 he256
                        clear he255 a255
                        refine hV (fuel := 7) (i := 35) (Ce.v wideC) he256 rfl rfl rfl (by kernel_rfl) (by kernel_rfl) (by kernel_rfl) (fun _ _ _ h => h) (he256.want rfl rfl rfl rfl rfl) (fun w' hw' => rn_load rfl (he256.op rfl) (hw'.at (i := 7) rfl)) hH249 ?_
                        intro a257 he257
                        clear he256 a256
                        refine hV (fuel := 6) (i := 36) (Ce.v zeroCe) he257 rfl rfl rfl (by kernel_rfl) (by kernel_rfl) (by kernel_rfl) (fun _ _ _ h => h) (he257.want rfl rfl rfl rfl rfl) (fun w' _ => rn_zero rfl w') hH249 ?_
                        intro a258 he258
                        clear he257 a257
                        refine diamond (fuel := 3) (i := 32) (c := 33) (j := 37) (x := 183) (z := 184) (y := 188) (I := IsL 3 [wideC, wideC, zeroCe]) (J := IsL 3 [blankC zeroP, wideC, zeroCe]) (by decide) (by decide) (by decide) (by decide) rfl rfl rfl rfl rfl rfl (he258.want rfl rfl rfl rfl rfl) (fun u => ((he258.put (k := 188) rfl u).want rfl rfl rfl rfl rfl)) (he258.want rfl rfl rfl rfl rfl) (fun u => ((he258.put (k := 183) rfl u).want rfl rfl rfl rfl rfl)) (fun u u' => (((he258.put (k := 183) rfl u).put (k := 184) rfl u').want rfl rfl rfl rfl rfl)) (fun u => ((he258.put (k := 183) rfl u).want rfl rfl rfl rfl rfl)) (fun u u' => (((he258.put (k := 183) rfl u).put (k := 188) rfl u').want rfl rfl rfl rfl rfl)) (fun w => Does.val (rn_bs3 (x := wideC) (y := wideC) (z := zeroCe) rfl (he258.op rfl) (he258.op rfl) (he258.op rfl) w) ⟨New.alloc _, _, rfl, rdb (Blk.new w _ _) rfl rfl⟩) (fun u w => Does.val (rn_bs3 (x := wideC) (y := wideC) (z := zeroCe) rfl ((he258.put (k := 188) rfl u).op rfl) ((he258.put (k := 188) rfl u).op rfl) ((he258.put (k := 188) rfl u).op rfl) w) ⟨New.alloc _, _, rfl, rdb (Blk.new w _ _) rfl rfl⟩) (fun w => Does.val (rn_bs3 (x := blankC zeroP) (y := wideC) (z := zeroCe) rfl (he258.op rfl) (he258.op rfl) (he258.op rfl) w) ⟨New.alloc _, _, rfl, rdb (Blk.new w _ _) rfl rfl⟩) (fun u w => Does.val (rn_bs3 (x := blankC zeroP) (y := wideC) (z := zeroCe) rfl ((he258.put (k := 183) rfl u).op rfl) ((he258.put (k := 183) rfl u).op rfl) ((he258.put (k := 183) rfl u).op rfl) w) ⟨New.alloc _, _, rfl, rdb (Blk.new w _ _) rfl rfl⟩) (fun u u' w => Does.val (rn_bs3 (x := blankC zeroP) (y := wideC) (z := zeroCe) rfl (((he258.put (k := 183) rfl u).put (k := 184) rfl u').op rfl) (((he258.put (k := 183) rfl u).put (k := 184) rfl u').op rfl) (((he258.put (k := 183) rfl u).put (k := 184) rfl u').op rfl) w) ⟨New.alloc _, _, rfl, rdb (Blk.new w _ _) rfl rfl⟩) (fun u w => does_list (x := .tmp 183) (ats := #[45]) rfl ((he258.put (k := 183) rfl u).op rfl) w) (fun u u' w => does_list (x := .tmp 183) (ats := #[45]) rfl (((he258.put (k := 183) rfl u).put (k := 188) rfl u').op rfl) w) (by kernel_rfl) (by kernel_rfl) (by kernel_rfl) (by kernel_rfl) (by kernel_rfl) IsL.new IsL.new (fun _ _ k hn => k.call hn) hH249 ?_
                        rintro u u' w259 hH259 - ⟨pa, rfl, hr⟩ ⟨pb, rfl, hr'⟩
                        have he259 := ((he258.put (k := 183) rfl (Value.slice (some ⟨pa, 0, none⟩) 3 3)).put (k := 184) rfl (Value.slice (some ⟨pa, 0, none⟩) 3 3)).put (k := 188) rfl (Value.slice (some ⟨pb, 0, none⟩) 3 3)
                        generalize ((Act.put _ (some 183) _).put (some 184) _).put (some 188) _ = a259 at he259 ⊢
                        clear he258 a258 hH249
                        refine hC (fuel := 2) (i := 38) he259 (by kernel_rfl) rfl rfl rfl Tryd.func38 (by kernel_rfl) rfl rfl (he259.want rfl rfl rfl rfl rfl) rfl (lfixes [wideC, wideC, zeroCe] 3 pa _ _ 3 pb _ _ w259 hr (by rw [fx4]; exact hr') (by omega) (by omega)) ?_
                        rintro e w260 ⟨rfl, hn⟩
                        have hH260 := hH259.call hn
                        refine ⟨_, rfl, hH260, ?_⟩
                        intro a261 he261
                        clear he259 a259 hH259 hn hr hr'
                        as_aux_lemma =>
                          refine hV (fuel := 1) (i := 39) (Value.bool true) he261 rfl rfl rfl (by kernel_rfl) (by kernel_rfl) (by kernel_rfl) (fun _ _ _ h => h) (wanted_plain rfl _) (fun w' _ => rn_pk rfl (he261.op rfl) (he261.op rfl) w') hH260 ?_
                          intro a262 he262
                          clear he261 a261
                          refine hV (fuel := 0) (i := 40) (Value.bool true) he262 rfl rfl rfl (by kernel_rfl) (by kernel_rfl) (by kernel_rfl) (fun _ _ _ h => h) (wanted_plain rfl _) (fun w' _ => rn_asg rfl (he262.op rfl) w') hH260 ?_
                          intro a263 he263
                          clear he262 a262
                          refine wpAnyH_done (by kernel_rfl) ?_ _
                          refine then_ok ?_
                          refine wp_ret ?_
                          exact ret_env rfl he263 rfl ⟨rfl, hH260.new⟩

end Go.Proofs.YtciifgajnblenaaDoor
