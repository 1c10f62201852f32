/-
  The law's small functions: text, gets, pops, none, looks.
  The law's look at a page.
-/
import Derived.Test.YtjnghaoboopflaaDoorSRef
import Derived.Test.YtjnghaoboopflaaDoorSNil
namespace Go.Proofs.YtjnghaoboopflaaDoor
open Go.RowKit

/-- The cell of a rune. -/
abbrev tc (r : Int) : Ce := ⟨r, 0, 0, 0, 1, zeroP⟩
theorem made_blk {w w' : World} {H : List Bk} {i g : Nat} {cs : Array Value} {l : List Ce} (hH : Hp w H w') (hi : H[i]? = some ⟨g, 71, cs⟩) (hc : cs.toList = flatC l) (hl : l.length ≤ 1000000) : Made [cellsD (.slice (some ⟨g, 0, none⟩) l.length l.length) l] w w' :=
  ⟨hH.new, fun k => k = g, SepL.one (blk_cells (hH.at hi) hc hl), fun k hk => .inr (by subst hk; exact ⟨hH.lo hi, (hH.at hi).lt⟩)⟩
set_option linter.unusedSimpArgs false in
set_option maxRecDepth 100000 in
set_option maxHeartbeats 1600000 in
theorem text_b (r : Int) (w : World) : Calls Tryd.prog 14 #[.int .i32 r] w fun e w' => ∃ A c, e = .returned (.agg #[.slice A 1 c, .bool false]) ∧ Made [cellsD (.slice A 1 c) [tc r]] w w' := by
  refine calls_args (vl := [Value.int .i32 r]) 7 Tryd.func14 rfl Tryd.ntmps14 (by kernel_rfl) (fun a he => ?_)
  have he0 : Env 7 [(0, Value.int .i32 r)] a := he
  clear he
  have hH := Hp.start w
  refine wp_seq ?_
  refine wp_region_lit ?_
  refine lNewP (fun p => .pointer (some ⟨p, 0, none⟩)) he0 hH rfl rfl (wanted_plain rfl _) (rn_allocL rfl w) ?_
  intro p1 w1 a2 hp hn hH1 he2
  clear he0 a hH hn hp
  refine wpList_nil ?_
  refine then_ok ?_
  refine wp_seq ?_
  refine wp_region_lit ?_
  refine lV (Value.int .i32 r) he2 rfl rfl (wanted_plain rfl _) (rn_mv rfl (he2.op rfl) w1) ?_
  intro a3 he3
  clear he2 a2
  refine lV (Ce.v (⟨r, 0, 0, 0, 1, zeroP⟩ : Ce)) he3 rfl rfl (wanted_plain rfl _) (rn_bC02 rfl (he3.op rfl) (he3.op rfl) w1) ?_
  intro a4 he4
  clear he3 a3
  refine lNewP (fun p => .slice (some ⟨p, 0, none⟩) 1 1) he4 hH1 rfl rfl (wanted_plain rfl _) (rn_bs1 rfl (he4.op rfl) w1) ?_
  intro p5 w5 a6 hp hn hH5 he6
  clear he4 a4 hH1 hn hp
  refine lV (Value.agg #[Value.slice (some ⟨p5, 0, none⟩) 1 1, Value.bool false]) he6 rfl rfl (wanted_plain rfl _) (rn_bL0 rfl (he6.op rfl) w5) ?_
  intro a7 he7
  clear he6 a6
  refine lSetF 1 #[Value.slice (some ⟨p5, 0, none⟩) 1 1, Value.bool false] (cs := #[Value.slice (some ⟨p5, 0, none⟩) 1 1, Value.bool false]) he7 hH5 rfl (wanted_plain rfl _) rfl rfl rfl rfl rfl (by kernel_rfl) (by kernel_rfl) (by kernel_rfl) rfl ?_
  intro w8 a9 hH8 hf he9
  replace hH8 : Hp w [⟨p5, 71, (Ce.cs (⟨r, 0, 0, 0, 1, zeroP⟩ : Ce))⟩, ⟨p1, 35, #[Value.slice (some ⟨p5, 0, none⟩) 1 1, Value.bool false]⟩] w8 := hH8
  clear hf
  clear he7 a7 hH5
  refine wpList_nil ?_
  refine then_ok ?_
  have hm := made_blk (l := [tc r]) hH8 (i := 0) rfl rfl (by simp)
  refine wp_ret ?_
  try simp only [Exit.then, Exit.inBlock, Exit.noGoto]
  exact ret_row rfl he9 rfl (hH8.at (i := 1) rfl) undL rfl infoL2 ⟨_, _, rfl, hm⟩
theorem pair_eq (a : Ln) (l : List Ce) (s : Bool) : ((a.2 == s) && decide (a.1 = l)) = decide (a = (l, s)) := by
  obtain ⟨x, y⟩ := a
  rw [Bool.eq_iff_iff]
  simp only [Bool.and_eq_true, beq_iff_eq, decide_eq_true_eq, Prod.mk.injEq]
  exact ⟨fun h => ⟨h.2, h.1⟩, fun h => ⟨h.2, h.1⟩⟩
theorem get_len {L : List Ln} {i : Int} (h : ∀ l ∈ L, l.1.length ≤ 1000) : (getS L i).1.1.length ≤ 1000 := by
  unfold getS
  split
  · rename_i hi
    rw [List.getD_eq_getElem?_getD, List.getElem?_eq_getElem (by omega), Option.getD_some]
    exact h _ (List.getElem_mem _)
  · simp
theorem pop_len {L : List Ln} (h : ∀ l ∈ L, l.1.length ≤ 1000) : (popS L).2.1.1.length ≤ 1000 := by
  unfold popS
  split
  · simp
  · rw [List.getD_eq_getElem?_getD, List.getElem?_eq_getElem (by omega), Option.getD_some]
    exact h _ (List.getElem_mem _)
set_option linter.unusedSimpArgs false in
set_option maxRecDepth 100000 in
set_option maxHeartbeats 1600000 in
theorem gets_b (F : FP) (p pl gn : Nat) (L : List Ln) (i : Int) (x : Value) (lw : List Ce) (sw : Bool) (no : Int) (v : Bool) (hv : (decide ((getS L i).1 = (lw, sw)) && ((getS L i).2 == no)) = v) (w : World) (hs : (shD p L pl gn).P w F) (hT : Tab w) (hx : SlC w x lw) (hlw : lw.length ≤ 1000000) : Calls Tryd.prog 20 #[.pointer (some ⟨p, 0, none⟩), .int .i64 i, .agg #[x, .bool sw], .int .i64 no] w fun e w' => e = .returned (.bool v) ∧ New w w' := by
  have hok := sh_ok hs
  obtain ⟨B, cb, b, e_, hcb, hrx⟩ := id hx
  subst e_
  have hgl := get_len (i := i) hok.cells
  refine calls_args (vl := [Value.pointer (some ⟨p, 0, none⟩), Value.int .i64 i, Value.agg #[Value.slice B lw.length cb, Value.bool sw], Value.int .i64 no]) 25 Tryd.func20 rfl Tryd.ntmps20 (by kernel_rfl) (fun a he => ?_)
  have he0 : Env 25 [(0, Value.pointer (some ⟨p, 0, none⟩)), (1, Value.int .i64 i), (2, Value.agg #[Value.slice B lw.length cb, Value.bool sw]), (3, Value.int .i64 no)] a := he
  clear he
  have hH := Hp.start w
  have hx00 := hx
  have hD := Dt.start hT
  refine wp_seq ?_
  refine wp_region_lit ?_
  refine lNewP (fun p => .pointer (some ⟨p, 0, none⟩)) he0 hH rfl rfl (wanted_plain rfl _) (rn_boxL rfl (he0.op rfl) w) ?_
  intro p1 w1 a2 hp hn hH1 he2
  replace hD := hD.cons hn hp (hH1.at (i := 0) rfl).lt
  replace hx := hx.new hn
  replace hs := (shD _ _ _ _).fr hs hn (fun _ _ h => h)
  clear he0 a hH hn hp
  refine lV (Value.bool false) he2 rfl rfl (wanted_plain rfl _) (rn_asg rfl (he2.op rfl) w1) ?_
  intro a3 he3
  clear he2 a2
  refine wpList_nil ?_
  refine then_ok ?_
  refine wp_seq ?_
  refine wp_region_lit ?_
  refine lV (Value.pointer (some ⟨p, 0, none⟩)) he3 rfl rfl (wanted_plain rfl _) (rn_mv rfl (he3.op rfl) w1) ?_
  intro a4 he4
  clear he3 a3
  refine lV (Value.int .i64 i) he4 rfl rfl (wanted_plain rfl _) (rn_mv rfl (he4.op rfl) w1) ?_
  intro a5 he5
  clear he4 a4
  refine lCx he5 rfl rfl Tryd.func35 (by kernel_rfl) rfl rfl (wanted_plain rfl _) rfl (get_b F p pl gn L i w1 hs hD.tab) ?_
  rintro _ w6 ⟨Ag, cg, rfl, ht⟩
  have hD2 := hD.made ht
  have hH6 := hH1.call ht.new
  replace hx := hx.new ht.new
  clear hD
  have hD := hD2
  clear hD2 ht
  refine ⟨_, rfl, ?_⟩
  intro a7 he7
  clear he5 a5 hH1
  have hx0 := hx
  refine lV (Value.tuple #[Value.agg #[Value.slice Ag (getS L i).1.1.length cg, Value.bool (getS L i).1.2], Value.int .i64 (getS L i).2]) he7 rfl rfl (wanted_plain rfl _) (rn_mv rfl (he7.op rfl) w6) ?_
  intro a8 he8
  clear he7 a7
  refine lV (Value.agg #[Value.slice Ag (getS L i).1.1.length cg, Value.bool (getS L i).1.2]) he8 rfl rfl (wanted_plain rfl _) (rn_ext rfl (he8.op rfl) rfl w6) ?_
  intro a9 he9
  clear he8 a8
  refine lV (Value.int .i64 (getS L i).2) he9 rfl rfl (wanted_plain rfl _) (rn_ext rfl (he9.op rfl) rfl w6) ?_
  intro a10 he10
  clear he9 a9
  refine lNewP (fun p => .pointer (some ⟨p, 0, none⟩)) he10 hH6 rfl rfl (wanted_plain rfl _) (rn_allocL rfl w6) ?_
  intro p11 w11 a12 hp hn hH11 he12
  replace hD := hD.cons hn hp (hH11.at (i := 0) rfl).lt
  replace hx := hx.new hn
  clear he10 a10 hH6 hn hp
  refine lSetF 0 #[Value.slice Ag (getS L i).1.1.length cg, Value.bool (getS L i).1.2] (cs := #[Value.slice Ag (getS L i).1.1.length cg, Value.bool (getS L i).1.2]) he12 hH11 rfl (wanted_plain rfl _) rfl rfl rfl rfl rfl (by kernel_rfl) (by kernel_rfl) (by kernel_rfl) rfl ?_
  intro w13 a14 hH13 hf he14
  replace hD := hD.setb (i := 0) rfl rfl hf
  replace hH13 : Hp w [⟨p11, 35, #[Value.slice Ag (getS L i).1.1.length cg, Value.bool (getS L i).1.2]⟩, ⟨p1, 35, #[Value.slice B lw.length cb, Value.bool sw]⟩] w13 := hH13
  clear hf
  clear he12 a12 hH11
  refine lV (Value.int .i64 (getS L i).2) he14 rfl rfl (wanted_plain rfl _) (rn_asg rfl (he14.op rfl) w13) ?_
  intro a15 he15
  clear he14 a14
  refine wpList_nil ?_
  refine then_ok ?_
  have he16 : Env 25 [(10, Value.int .i64 (getS L i).2), (9, Value.pointer (some ⟨p11, 0, none⟩)), (8, Value.bool false), (6, Value.pointer (some ⟨p1, 0, none⟩)), (3, Value.int .i64 no)] a15 := he15.mem ⟨rfl, rfl, rfl, rfl, rfl, trivial⟩
  clear he15
  obtain ⟨q, hq⟩ : ∃ q, (((getS L i).1.2 == sw) && decide ((getS L i).1.1 = lw)) = q := ⟨_, rfl⟩
  have hqv : (q && ((getS L i).2 == no)) = v := by rw [← hq, ← hv, ← pair_eq]
  cases q with
  | false =>
    simp only [Bool.false_and] at hqv
    subst hqv
    refine wp_seq ?_
    refine wp_region_lit ?_
    refine lV (Value.agg #[Value.slice Ag (getS L i).1.1.length cg, Value.bool (getS L i).1.2]) he16 rfl rfl (wanted_plain rfl _) (rn_ldp [Value.slice Ag (getS L i).1.1.length cg, Value.bool (getS L i).1.2] rfl (he16.op rfl) undL rfl infoL2 (hH13.at (i := 0) rfl) rfl) ?_
    intro a17 he17
    clear he16 a15
    refine lV (Value.agg #[Value.slice B lw.length cb, Value.bool sw]) he17 rfl rfl (wanted_plain rfl _) (rn_ldp [Value.slice B lw.length cb, Value.bool sw] rfl (he17.op rfl) undL rfl infoL2 (hH13.at (i := 1) rfl) rfl) ?_
    intro a18 he18
    clear he17 a17
    refine lC he18 rfl rfl Tryd.func26 (by kernel_rfl) rfl rfl (wanted_plain rfl _) rfl (same_s _ (getS L i).1.1 (getS L i).1.2 _ lw sw false hq (by omega) hlw w13 (SlC.new (cells_sl (hD.get (i := 0) rfl).choose_spec) (Fr.refl _ _)) (hx00.new hD.fr)) ?_
    intro w19 a20 hn he20
    have hH19 := hH13.call hn
    replace hD := (hD).new hn
    clear he18 a18 hH13 hn
    refine lV (Value.bool false) he20 rfl rfl (wanted_plain rfl _) (rn_mv rfl (he20.op rfl) w19) ?_
    intro a21 he21
    clear he20 a20
    refine lSkip he21 rfl rfl (he21.wantNot rfl rfl rfl rfl rfl rfl) ?_
    intro a22 he22
    clear he21 a21
    refine lSkip he22 rfl rfl (he22.wantNot rfl rfl rfl rfl rfl rfl) ?_
    intro a23 he23
    clear he22 a22
    refine lSkip he23 rfl rfl (he23.wantNot rfl rfl rfl rfl rfl rfl) ?_
    intro a24 he24
    clear he23 a23
    refine lV (Value.bool false) he24 rfl rfl (wanted_plain rfl _) (rn_pk0 rfl (he24.op rfl) (he24.op rfl) w19) ?_
    intro a25 he25
    clear he24 a24
    refine lV (Value.bool false) he25 rfl rfl (wanted_plain rfl _) (rn_asg rfl (he25.op rfl) w19) ?_
    intro a26 he26
    clear he25 a25
    refine wpList_nil ?_
    refine then_ok ?_
    refine wp_ret ?_
    try simp only [Exit.then, Exit.inBlock]
    exact ret_env rfl he26 rfl ⟨rfl, hD.fr⟩
  | true =>
    simp only [Bool.true_and] at hqv
    refine wp_seq ?_
    refine wp_region_lit ?_
    refine lV (Value.agg #[Value.slice Ag (getS L i).1.1.length cg, Value.bool (getS L i).1.2]) he16 rfl rfl (wanted_plain rfl _) (rn_ldp [Value.slice Ag (getS L i).1.1.length cg, Value.bool (getS L i).1.2] rfl (he16.op rfl) undL rfl infoL2 (hH13.at (i := 0) rfl) rfl) ?_
    intro a27 he27
    clear he16 a15
    refine lV (Value.agg #[Value.slice B lw.length cb, Value.bool sw]) he27 rfl rfl (wanted_plain rfl _) (rn_ldp [Value.slice B lw.length cb, Value.bool sw] rfl (he27.op rfl) undL rfl infoL2 (hH13.at (i := 1) rfl) rfl) ?_
    intro a28 he28
    clear he27 a27
    refine lC he28 rfl rfl Tryd.func26 (by kernel_rfl) rfl rfl (wanted_plain rfl _) rfl (same_s _ (getS L i).1.1 (getS L i).1.2 _ lw sw true hq (by omega) hlw w13 (SlC.new (cells_sl (hD.get (i := 0) rfl).choose_spec) (Fr.refl _ _)) (hx00.new hD.fr)) ?_
    intro w29 a30 hn he30
    have hH29 := hH13.call hn
    replace hD := (hD).new hn
    clear he28 a28 hH13 hn
    refine lV (Value.bool true) he30 rfl rfl (wanted_plain rfl _) (rn_mv rfl (he30.op rfl) w29) ?_
    intro a31 he31
    clear he30 a30
    refine lV (Value.int .i64 (getS L i).2) he31 rfl rfl (he31.want rfl rfl rfl rfl rfl) (rn_mv rfl (he31.op rfl) w29) ?_
    intro a32 he32
    clear he31 a31
    refine lV (Value.int .i64 no) he32 rfl rfl (he32.want rfl rfl rfl rfl rfl) (rn_mv rfl (he32.op rfl) w29) ?_
    intro a33 he33
    clear he32 a32
    refine lV (Value.bool v) he33 rfl rfl (he33.want rfl rfl rfl rfl rfl) (rn_eqE rfl (he33.op rfl) (he33.op rfl) hqv w29) ?_
    intro a34 he34
    clear he33 a33
    refine lV (Value.bool v) he34 rfl rfl (wanted_plain rfl _) (rn_pk rfl (he34.op rfl) (he34.op rfl) w29) ?_
    intro a35 he35
    clear he34 a34
    refine lV (Value.bool v) he35 rfl rfl (wanted_plain rfl _) (rn_asg rfl (he35.op rfl) w29) ?_
    intro a36 he36
    clear he35 a35
    refine wpList_nil ?_
    refine then_ok ?_
    refine wp_ret ?_
    try simp only [Exit.then, Exit.inBlock]
    exact ret_env rfl he36 rfl ⟨rfl, hD.fr⟩
set_option linter.unusedSimpArgs false in
set_option maxRecDepth 100000 in
set_option maxHeartbeats 1600000 in
theorem pops_b (F : FP) (p pl gn : Nat) (L : List Ln) (x : Value) (lw : List Ce) (sw : Bool) (no : Int) (v : Bool) (hv : (decide ((popS L).2.1 = (lw, sw)) && ((popS L).2.2 == no)) = v) (w : World) (hs : (shD p L pl gn).P w F) (hF : ∀ k, F k → 2 ≤ k ∧ k < w.heap.size) (hT : Tab w) (hx : SlF w (fun k => ¬ F k) x lw) (hlw : lw.length ≤ 1000000) : Calls Tryd.prog 17 #[.pointer (some ⟨p, 0, none⟩), .agg #[x, .bool sw], .int .i64 no] w fun e w' => e = .returned (.bool v) ∧ Turned [shD p (popS L).1 pl gn] F w w' := by
  have hok := sh_ok hs
  obtain ⟨B, cb, e_⟩ := hx.sl.shape
  subst e_
  have hgl := pop_len hok.cells
  refine calls_args (vl := [Value.pointer (some ⟨p, 0, none⟩), Value.agg #[Value.slice B lw.length cb, Value.bool sw], Value.int .i64 no]) 22 Tryd.func17 rfl Tryd.ntmps17 (by kernel_rfl) (fun a he => ?_)
  have he0 : Env 22 [(0, Value.pointer (some ⟨p, 0, none⟩)), (1, Value.agg #[Value.slice B lw.length cb, Value.bool sw]), (2, Value.int .i64 no)] a := he
  clear he
  have hH := Hp.bare w
  have hD := Dt.begin hT (SepL.one hs) hF
  refine wp_seq ?_
  refine wp_region_lit ?_
  refine lNewP (fun p => .pointer (some ⟨p, 0, none⟩)) he0 hH rfl rfl (wanted_plain rfl _) (rn_boxL rfl (he0.op rfl) w) ?_
  intro p1 w1 a2 hp hn hH1 he2
  replace hD := hD.cons hn hp (hH1.at (i := 0) rfl).lt
  clear he0 a hH hn hp
  refine lV (Value.bool false) he2 rfl rfl (wanted_plain rfl _) (rn_asg rfl (he2.op rfl) w1) ?_
  intro a3 he3
  clear he2 a2
  refine wpList_nil ?_
  refine then_ok ?_
  refine wp_seq ?_
  refine wp_region_lit ?_
  refine lV (Value.pointer (some ⟨p, 0, none⟩)) he3 rfl rfl (wanted_plain rfl _) (rn_mv rfl (he3.op rfl) w1) ?_
  intro a4 he4
  clear he3 a3
  obtain ⟨F_, hsep, hF, hstep⟩ := Dt.step (A := [shD p L pl gn]) (D := []) hD
  refine lCx he4 rfl rfl Tryd.func25 (by kernel_rfl) rfl rfl (wanted_plain rfl _) rfl (pop_b F_ p pl gn L w1 hsep.the hF hD.tab) ?_
  rintro _ w5 ⟨Ag, cg, rfl, ht⟩
  obtain ⟨hD2, hHs⟩ := hstep _ _ ht
  have hH5 := hHs _ rfl hH1
  clear hHs hstep hsep hF
  clear hD
  have hD := hD2
  clear hD2 ht
  refine ⟨_, rfl, ?_⟩
  intro a6 he6
  clear he4 a4 hH1
  refine lV (Value.tuple #[Value.agg #[Value.slice Ag (popS L).2.1.1.length cg, Value.bool (popS L).2.1.2], Value.int .i64 (popS L).2.2]) he6 rfl rfl (wanted_plain rfl _) (rn_mv rfl (he6.op rfl) w5) ?_
  intro a7 he7
  clear he6 a6
  refine lV (Value.agg #[Value.slice Ag (popS L).2.1.1.length cg, Value.bool (popS L).2.1.2]) he7 rfl rfl (wanted_plain rfl _) (rn_ext rfl (he7.op rfl) rfl w5) ?_
  intro a8 he8
  clear he7 a7
  refine lV (Value.int .i64 (popS L).2.2) he8 rfl rfl (wanted_plain rfl _) (rn_ext rfl (he8.op rfl) rfl w5) ?_
  intro a9 he9
  clear he8 a8
  refine lNewP (fun p => .pointer (some ⟨p, 0, none⟩)) he9 hH5 rfl rfl (wanted_plain rfl _) (rn_allocL rfl w5) ?_
  intro p10 w10 a11 hp hn hH10 he11
  replace hD := hD.cons hn hp (hH10.at (i := 0) rfl).lt
  clear he9 a9 hH5 hn hp
  refine lSetF 0 #[Value.slice Ag (popS L).2.1.1.length cg, Value.bool (popS L).2.1.2] (cs := #[Value.slice Ag (popS L).2.1.1.length cg, Value.bool (popS L).2.1.2]) he11 hH10 rfl (wanted_plain rfl _) rfl rfl rfl rfl rfl (by kernel_rfl) (by kernel_rfl) (by kernel_rfl) rfl ?_
  intro w12 a13 hH12 hf he13
  replace hD := hD.setb (i := 0) rfl rfl hf
  replace hH12 : Hp (bare w) [⟨p10, 35, #[Value.slice Ag (popS L).2.1.1.length cg, Value.bool (popS L).2.1.2]⟩, ⟨p1, 35, #[Value.slice B lw.length cb, Value.bool sw]⟩] w12 := hH12
  clear hf
  clear he11 a11 hH10
  refine lV (Value.int .i64 (popS L).2.2) he13 rfl rfl (wanted_plain rfl _) (rn_asg rfl (he13.op rfl) w12) ?_
  intro a14 he14
  clear he13 a13
  refine wpList_nil ?_
  refine then_ok ?_
  have he15 : Env 22 [(8, Value.int .i64 (popS L).2.2), (7, Value.pointer (some ⟨p10, 0, none⟩)), (6, Value.bool false), (4, Value.pointer (some ⟨p1, 0, none⟩)), (2, Value.int .i64 no)] a14 := he14.mem ⟨rfl, rfl, rfl, rfl, rfl, trivial⟩
  clear he14
  obtain ⟨q, hq⟩ : ∃ q, (((popS L).2.1.2 == sw) && decide ((popS L).2.1.1 = lw)) = q := ⟨_, rfl⟩
  have hqv : (q && ((popS L).2.2 == no)) = v := by rw [← hq, ← hv, ← pair_eq]
  cases q with
  | false =>
    simp only [Bool.false_and] at hqv
    subst hqv
    refine wp_seq ?_
    refine wp_region_lit ?_
    refine lV (Value.agg #[Value.slice Ag (popS L).2.1.1.length cg, Value.bool (popS L).2.1.2]) he15 rfl rfl (wanted_plain rfl _) (rn_ldp [Value.slice Ag (popS L).2.1.1.length cg, Value.bool (popS L).2.1.2] rfl (he15.op rfl) undL rfl infoL2 (hH12.at (i := 0) rfl) rfl) ?_
    intro a16 he16
    clear he15 a14
    refine lV (Value.agg #[Value.slice B lw.length cb, Value.bool sw]) he16 rfl rfl (wanted_plain rfl _) (rn_ldp [Value.slice B lw.length cb, Value.bool sw] rfl (he16.op rfl) undL rfl infoL2 (hH12.at (i := 1) rfl) rfl) ?_
    intro a17 he17
    clear he16 a16
    refine lC he17 rfl rfl Tryd.func26 (by kernel_rfl) rfl rfl (wanted_plain rfl _) rfl (same_s _ (popS L).2.1.1 (popS L).2.1.2 _ lw sw false hq (by omega) hlw w12 (cells_sl (hD.get (i := 1) rfl).choose_spec) (hx.fr hD.fr (fun _ h => h)).sl) ?_
    intro w18 a19 hn he19
    have hH18 := hH12.call hn
    replace hD := (hD).new hn
    clear he17 a17 hH12 hn
    refine lV (Value.bool false) he19 rfl rfl (wanted_plain rfl _) (rn_mv rfl (he19.op rfl) w18) ?_
    intro a20 he20
    clear he19 a19
    refine lSkip he20 rfl rfl (he20.wantNot rfl rfl rfl rfl rfl rfl) ?_
    intro a21 he21
    clear he20 a20
    refine lSkip he21 rfl rfl (he21.wantNot rfl rfl rfl rfl rfl rfl) ?_
    intro a22 he22
    clear he21 a21
    refine lSkip he22 rfl rfl (he22.wantNot rfl rfl rfl rfl rfl rfl) ?_
    intro a23 he23
    clear he22 a22
    refine lV (Value.bool false) he23 rfl rfl (wanted_plain rfl _) (rn_pk0 rfl (he23.op rfl) (he23.op rfl) w18) ?_
    intro a24 he24
    clear he23 a23
    refine lV (Value.bool false) he24 rfl rfl (wanted_plain rfl _) (rn_asg rfl (he24.op rfl) w18) ?_
    intro a25 he25
    clear he24 a24
    refine wpList_nil ?_
    refine then_ok ?_
    refine wp_ret ?_
    try simp only [Exit.then, Exit.inBlock]
    exact ret_env rfl he25 rfl ⟨rfl, (hD.pick 1 rfl).drop.turned⟩
  | true =>
    simp only [Bool.true_and] at hqv
    refine wp_seq ?_
    refine wp_region_lit ?_
    refine lV (Value.agg #[Value.slice Ag (popS L).2.1.1.length cg, Value.bool (popS L).2.1.2]) he15 rfl rfl (wanted_plain rfl _) (rn_ldp [Value.slice Ag (popS L).2.1.1.length cg, Value.bool (popS L).2.1.2] rfl (he15.op rfl) undL rfl infoL2 (hH12.at (i := 0) rfl) rfl) ?_
    intro a26 he26
    clear he15 a14
    refine lV (Value.agg #[Value.slice B lw.length cb, Value.bool sw]) he26 rfl rfl (wanted_plain rfl _) (rn_ldp [Value.slice B lw.length cb, Value.bool sw] rfl (he26.op rfl) undL rfl infoL2 (hH12.at (i := 1) rfl) rfl) ?_
    intro a27 he27
    clear he26 a26
    refine lC he27 rfl rfl Tryd.func26 (by kernel_rfl) rfl rfl (wanted_plain rfl _) rfl (same_s _ (popS L).2.1.1 (popS L).2.1.2 _ lw sw true hq (by omega) hlw w12 (cells_sl (hD.get (i := 1) rfl).choose_spec) (hx.fr hD.fr (fun _ h => h)).sl) ?_
    intro w28 a29 hn he29
    have hH28 := hH12.call hn
    replace hD := (hD).new hn
    clear he27 a27 hH12 hn
    refine lV (Value.bool true) he29 rfl rfl (wanted_plain rfl _) (rn_mv rfl (he29.op rfl) w28) ?_
    intro a30 he30
    clear he29 a29
    refine lV (Value.int .i64 (popS L).2.2) he30 rfl rfl (he30.want rfl rfl rfl rfl rfl) (rn_mv rfl (he30.op rfl) w28) ?_
    intro a31 he31
    clear he30 a30
    refine lV (Value.int .i64 no) he31 rfl rfl (he31.want rfl rfl rfl rfl rfl) (rn_mv rfl (he31.op rfl) w28) ?_
    intro a32 he32
    clear he31 a31
    refine lV (Value.bool v) he32 rfl rfl (he32.want rfl rfl rfl rfl rfl) (rn_eqE rfl (he32.op rfl) (he32.op rfl) hqv w28) ?_
    intro a33 he33
    clear he32 a32
    refine lV (Value.bool v) he33 rfl rfl (wanted_plain rfl _) (rn_pk rfl (he33.op rfl) (he33.op rfl) w28) ?_
    intro a34 he34
    clear he33 a33
    refine lV (Value.bool v) he34 rfl rfl (wanted_plain rfl _) (rn_asg rfl (he34.op rfl) w28) ?_
    intro a35 he35
    clear he34 a34
    refine wpList_nil ?_
    refine then_ok ?_
    refine wp_ret ?_
    try simp only [Exit.then, Exit.inBlock]
    exact ret_env rfl he35 rfl ⟨rfl, (hD.pick 1 rfl).drop.turned⟩
set_option linter.unusedSimpArgs false in
set_option maxRecDepth 100000 in
set_option maxHeartbeats 1600000 in
theorem none_b (n : Int) (h : ¬ (1 ≤ n ∧ n ≤ 1024)) (w : World) : Calls Tryd.prog 7 #[.int .i64 n] w fun e w' => e = .returned (.bool true) ∧ New w w' := by
  refine calls_args (vl := [Value.int .i64 n]) 16 Tryd.func7 rfl Tryd.ntmps7 (by kernel_rfl) (fun a he => ?_)
  have he0 : Env 16 [(0, Value.int .i64 n)] a := he
  clear he
  have hH := Hp.start w
  refine wp_seq ?_
  refine wp_region_lit ?_
  refine lV (Value.bool false) he0 rfl rfl (wanted_plain rfl _) (rn_asg rfl (he0.op rfl) w) ?_
  intro a1 he1
  clear he0 a
  refine wpList_nil ?_
  refine then_ok ?_
  refine wp_seq ?_
  refine wp_region_lit ?_
  refine lV (Value.int .i64 n) he1 rfl rfl (wanted_plain rfl _) (rn_mv rfl (he1.op rfl) w) ?_
  intro a2 he2
  clear he1 a1
  refine lC he2 rfl rfl Tryd.func9 (by kernel_rfl) rfl rfl (wanted_plain rfl _) rfl (new_no n h w) ?_
  intro w3 a4 hn he4
  have hH3 := hH.call hn
  clear he2 a2 hH hn
  refine lV (Value.tuple #[Value.pointer none, Value.int .i64 2]) he4 rfl rfl (wanted_plain rfl _) (rn_mv rfl (he4.op rfl) w3) ?_
  intro a5 he5
  clear he4 a4
  refine lV (Value.pointer none) he5 rfl rfl (wanted_plain rfl _) (rn_ext rfl (he5.op rfl) rfl w3) ?_
  intro a6 he6
  clear he5 a5
  refine lV (Value.int .i64 2) he6 rfl rfl (wanted_plain rfl _) (rn_ext rfl (he6.op rfl) rfl w3) ?_
  intro a7 he7
  clear he6 a6
  refine lV (Value.pointer none) he7 rfl rfl (wanted_plain rfl _) (rn_asg rfl (he7.op rfl) w3) ?_
  intro a8 he8
  clear he7 a7
  refine lV (Value.int .i64 2) he8 rfl rfl (wanted_plain rfl _) (rn_asg rfl (he8.op rfl) w3) ?_
  intro a9 he9
  clear he8 a8
  refine wpList_nil ?_
  refine then_ok ?_
  refine wp_seq ?_
  refine wp_region_lit ?_
  refine lV (Value.pointer none) he9 rfl rfl (wanted_plain rfl _) (rn_mv rfl (he9.op rfl) w3) ?_
  intro a10 he10
  clear he9 a9
  refine lV (Value.bool true) he10 rfl rfl (wanted_plain rfl _) (rn_eqP0 rfl (he10.op rfl) (fun _ => rfl) w3) ?_
  intro a11 he11
  clear he10 a10
  refine lV (Value.bool true) he11 rfl rfl (wanted_plain rfl _) (rn_mv rfl (he11.op rfl) w3) ?_
  intro a12 he12
  clear he11 a11
  refine lV (Value.int .i64 2) he12 rfl rfl (he12.want rfl rfl rfl rfl rfl) (rn_mv rfl (he12.op rfl) w3) ?_
  intro a13 he13
  clear he12 a12
  refine lV (Value.bool true) he13 rfl rfl (he13.want rfl rfl rfl rfl rfl) (rn_eqE rfl (he13.op rfl) (he13.op rfl) (by rfl) w3) ?_
  intro a14 he14
  clear he13 a13
  refine lV (Value.bool true) he14 rfl rfl (wanted_plain rfl _) (rn_pk rfl (he14.op rfl) (he14.op rfl) w3) ?_
  intro a15 he15
  clear he14 a14
  refine lV (Value.bool true) he15 rfl rfl (wanted_plain rfl _) (rn_asg rfl (he15.op rfl) w3) ?_
  intro a16 he16
  clear he15 a15
  refine wpList_nil ?_
  refine then_ok ?_
  refine wp_ret ?_
  try simp only [Exit.then, Exit.inBlock]
  exact ret_env rfl he16 rfl ⟨rfl, hH3.new⟩
set_option linter.unusedSimpArgs false in
set_option maxRecDepth 100000 in
set_option maxHeartbeats 1600000 in
theorem gets_n (pa : Option Addr) (i : Int) (w : World) (h : Um w pa) (hT : Tab w) : Calls Tryd.prog 20 #[.pointer pa, .int .i64 i, .agg #[.slice none 0 0, .bool false], .int .i64 1] w fun e w' => e = .returned (.bool true) ∧ New w w' := by
  refine calls_args (vl := [Value.pointer pa, Value.int .i64 i, Value.agg #[Value.slice none 0 0, Value.bool false], Value.int .i64 1]) 25 Tryd.func20 rfl Tryd.ntmps20 (by kernel_rfl) (fun a he => ?_)
  have he0 : Env 25 [(0, Value.pointer pa), (1, Value.int .i64 i), (2, Value.agg #[Value.slice none 0 0, Value.bool false]), (3, Value.int .i64 1)] a := he
  clear he
  have hH := Hp.start w
  refine wp_seq ?_
  refine wp_region_lit ?_
  refine lNewP (fun p => .pointer (some ⟨p, 0, none⟩)) he0 hH rfl rfl (wanted_plain rfl _) (rn_boxL rfl (he0.op rfl) w) ?_
  intro p1 w1 a2 hp hn hH1 he2
  clear he0 a hH hn hp
  refine lV (Value.bool false) he2 rfl rfl (wanted_plain rfl _) (rn_asg rfl (he2.op rfl) w1) ?_
  intro a3 he3
  clear he2 a2
  refine wpList_nil ?_
  refine then_ok ?_
  refine wp_seq ?_
  refine wp_region_lit ?_
  refine lV (Value.pointer pa) he3 rfl rfl (wanted_plain rfl _) (rn_mv rfl (he3.op rfl) w1) ?_
  intro a4 he4
  clear he3 a3
  refine lV (Value.int .i64 i) he4 rfl rfl (wanted_plain rfl _) (rn_mv rfl (he4.op rfl) w1) ?_
  intro a5 he5
  clear he4 a4
  refine lC he5 rfl rfl Tryd.func35 (by kernel_rfl) rfl rfl (wanted_plain rfl _) rfl (get_n pa i w1 (h.new hH1.new) (hT.new hH1.new)) ?_
  intro w6 a7 hn he7
  have hH6 := hH1.call hn
  clear he5 a5 hH1 hn
  refine lV (Value.tuple #[Value.agg #[Value.slice none 0 0, Value.bool false], Value.int .i64 1]) he7 rfl rfl (wanted_plain rfl _) (rn_mv rfl (he7.op rfl) w6) ?_
  intro a8 he8
  clear he7 a7
  refine lV (Value.agg #[Value.slice none 0 0, Value.bool false]) he8 rfl rfl (wanted_plain rfl _) (rn_ext rfl (he8.op rfl) rfl w6) ?_
  intro a9 he9
  clear he8 a8
  refine lV (Value.int .i64 1) he9 rfl rfl (wanted_plain rfl _) (rn_ext rfl (he9.op rfl) rfl w6) ?_
  intro a10 he10
  clear he9 a9
  refine lNewP (fun p => .pointer (some ⟨p, 0, none⟩)) he10 hH6 rfl rfl (wanted_plain rfl _) (rn_allocL rfl w6) ?_
  intro p11 w11 a12 hp hn hH11 he12
  clear he10 a10 hH6 hn hp
  refine lSetF 0 #[Value.slice none 0 0, Value.bool false] (cs := #[Value.slice none 0 0, Value.bool false]) he12 hH11 rfl (wanted_plain rfl _) rfl rfl rfl rfl rfl (by kernel_rfl) (by kernel_rfl) (by kernel_rfl) rfl ?_
  intro w13 a14 hH13 hf he14
  replace hH13 : Hp w [⟨p11, 35, #[Value.slice none 0 0, Value.bool false]⟩, ⟨p1, 35, #[Value.slice none 0 0, Value.bool false]⟩] w13 := hH13
  clear hf
  clear he12 a12 hH11
  refine lV (Value.int .i64 1) he14 rfl rfl (wanted_plain rfl _) (rn_asg rfl (he14.op rfl) w13) ?_
  intro a15 he15
  clear he14 a14
  refine wpList_nil ?_
  refine then_ok ?_
  refine wp_seq ?_
  refine wp_region_lit ?_
  refine lV (Value.agg #[Value.slice none 0 0, Value.bool false]) he15 rfl rfl (wanted_plain rfl _) (rn_ldp [Value.slice none 0 0, Value.bool false] rfl (he15.op rfl) undL rfl infoL2 (hH13.at (i := 0) rfl) rfl) ?_
  intro a16 he16
  clear he15 a15
  refine lV (Value.agg #[Value.slice none 0 0, Value.bool false]) he16 rfl rfl (wanted_plain rfl _) (rn_ldp [Value.slice none 0 0, Value.bool false] rfl (he16.op rfl) undL rfl infoL2 (hH13.at (i := 1) rfl) rfl) ?_
  intro a17 he17
  clear he16 a16
  refine lC he17 rfl rfl Tryd.func26 (by kernel_rfl) rfl rfl (wanted_plain rfl _) rfl (same_s _ [] false _ [] false true (by simp) (by simp) (by simp) w13 (SlC.nil _) (SlC.nil _)) ?_
  intro w18 a19 hn he19
  have hH18 := hH13.call hn
  clear he17 a17 hH13 hn
  refine lV (Value.bool true) he19 rfl rfl (wanted_plain rfl _) (rn_mv rfl (he19.op rfl) w18) ?_
  intro a20 he20
  clear he19 a19
  refine lV (Value.int .i64 1) he20 rfl rfl (he20.want rfl rfl rfl rfl rfl) (rn_mv rfl (he20.op rfl) w18) ?_
  intro a21 he21
  clear he20 a20
  refine lV (Value.int .i64 1) he21 rfl rfl (he21.want rfl rfl rfl rfl rfl) (rn_mv rfl (he21.op rfl) w18) ?_
  intro a22 he22
  clear he21 a21
  refine lV (Value.bool true) he22 rfl rfl (he22.want rfl rfl rfl rfl rfl) (rn_eqE rfl (he22.op rfl) (he22.op rfl) (by rfl) w18) ?_
  intro a23 he23
  clear he22 a22
  refine lV (Value.bool true) he23 rfl rfl (wanted_plain rfl _) (rn_pk rfl (he23.op rfl) (he23.op rfl) w18) ?_
  intro a24 he24
  clear he23 a23
  refine lV (Value.bool true) he24 rfl rfl (wanted_plain rfl _) (rn_asg rfl (he24.op rfl) w18) ?_
  intro a25 he25
  clear he24 a24
  refine wpList_nil ?_
  refine then_ok ?_
  refine wp_ret ?_
  try simp only [Exit.then, Exit.inBlock]
  exact ret_env rfl he25 rfl ⟨rfl, hH18.new⟩
set_option linter.unusedSimpArgs false in
set_option maxRecDepth 100000 in
set_option maxHeartbeats 1600000 in
theorem pops_n (pa : Option Addr) (w : World) (h : Um w pa) (hT : Tab w) : Calls Tryd.prog 17 #[.pointer pa, .agg #[.slice none 0 0, .bool false], .int .i64 1] w fun e w' => e = .returned (.bool true) ∧ New w w' := by
  refine calls_args (vl := [Value.pointer pa, Value.agg #[Value.slice none 0 0, Value.bool false], Value.int .i64 1]) 22 Tryd.func17 rfl Tryd.ntmps17 (by kernel_rfl) (fun a he => ?_)
  have he0 : Env 22 [(0, Value.pointer pa), (1, Value.agg #[Value.slice none 0 0, Value.bool false]), (2, Value.int .i64 1)] a := he
  clear he
  have hH := Hp.start w
  refine wp_seq ?_
  refine wp_region_lit ?_
  refine lNewP (fun p => .pointer (some ⟨p, 0, none⟩)) he0 hH rfl rfl (wanted_plain rfl _) (rn_boxL rfl (he0.op rfl) w) ?_
  intro p1 w1 a2 hp hn hH1 he2
  clear he0 a hH hn hp
  refine lV (Value.bool false) he2 rfl rfl (wanted_plain rfl _) (rn_asg rfl (he2.op rfl) w1) ?_
  intro a3 he3
  clear he2 a2
  refine wpList_nil ?_
  refine then_ok ?_
  refine wp_seq ?_
  refine wp_region_lit ?_
  refine lV (Value.pointer pa) he3 rfl rfl (wanted_plain rfl _) (rn_mv rfl (he3.op rfl) w1) ?_
  intro a4 he4
  clear he3 a3
  refine lC he4 rfl rfl Tryd.func25 (by kernel_rfl) rfl rfl (wanted_plain rfl _) rfl (pop_n pa w1 (h.new hH1.new) (hT.new hH1.new)) ?_
  intro w5 a6 hn he6
  have hH5 := hH1.call hn
  clear he4 a4 hH1 hn
  refine lV (Value.tuple #[Value.agg #[Value.slice none 0 0, Value.bool false], Value.int .i64 1]) he6 rfl rfl (wanted_plain rfl _) (rn_mv rfl (he6.op rfl) w5) ?_
  intro a7 he7
  clear he6 a6
  refine lV (Value.agg #[Value.slice none 0 0, Value.bool false]) he7 rfl rfl (wanted_plain rfl _) (rn_ext rfl (he7.op rfl) rfl w5) ?_
  intro a8 he8
  clear he7 a7
  refine lV (Value.int .i64 1) he8 rfl rfl (wanted_plain rfl _) (rn_ext rfl (he8.op rfl) rfl w5) ?_
  intro a9 he9
  clear he8 a8
  refine lNewP (fun p => .pointer (some ⟨p, 0, none⟩)) he9 hH5 rfl rfl (wanted_plain rfl _) (rn_allocL rfl w5) ?_
  intro p10 w10 a11 hp hn hH10 he11
  clear he9 a9 hH5 hn hp
  refine lSetF 0 #[Value.slice none 0 0, Value.bool false] (cs := #[Value.slice none 0 0, Value.bool false]) he11 hH10 rfl (wanted_plain rfl _) rfl rfl rfl rfl rfl (by kernel_rfl) (by kernel_rfl) (by kernel_rfl) rfl ?_
  intro w12 a13 hH12 hf he13
  replace hH12 : Hp w [⟨p10, 35, #[Value.slice none 0 0, Value.bool false]⟩, ⟨p1, 35, #[Value.slice none 0 0, Value.bool false]⟩] w12 := hH12
  clear hf
  clear he11 a11 hH10
  refine lV (Value.int .i64 1) he13 rfl rfl (wanted_plain rfl _) (rn_asg rfl (he13.op rfl) w12) ?_
  intro a14 he14
  clear he13 a13
  refine wpList_nil ?_
  refine then_ok ?_
  refine wp_seq ?_
  refine wp_region_lit ?_
  refine lV (Value.agg #[Value.slice none 0 0, Value.bool false]) he14 rfl rfl (wanted_plain rfl _) (rn_ldp [Value.slice none 0 0, Value.bool false] rfl (he14.op rfl) undL rfl infoL2 (hH12.at (i := 0) rfl) rfl) ?_
  intro a15 he15
  clear he14 a14
  refine lV (Value.agg #[Value.slice none 0 0, Value.bool false]) he15 rfl rfl (wanted_plain rfl _) (rn_ldp [Value.slice none 0 0, Value.bool false] rfl (he15.op rfl) undL rfl infoL2 (hH12.at (i := 1) rfl) rfl) ?_
  intro a16 he16
  clear he15 a15
  refine lC he16 rfl rfl Tryd.func26 (by kernel_rfl) rfl rfl (wanted_plain rfl _) rfl (same_s _ [] false _ [] false true (by simp) (by simp) (by simp) w12 (SlC.nil _) (SlC.nil _)) ?_
  intro w17 a18 hn he18
  have hH17 := hH12.call hn
  clear he16 a16 hH12 hn
  refine lV (Value.bool true) he18 rfl rfl (wanted_plain rfl _) (rn_mv rfl (he18.op rfl) w17) ?_
  intro a19 he19
  clear he18 a18
  refine lV (Value.int .i64 1) he19 rfl rfl (he19.want rfl rfl rfl rfl rfl) (rn_mv rfl (he19.op rfl) w17) ?_
  intro a20 he20
  clear he19 a19
  refine lV (Value.int .i64 1) he20 rfl rfl (he20.want rfl rfl rfl rfl rfl) (rn_mv rfl (he20.op rfl) w17) ?_
  intro a21 he21
  clear he20 a20
  refine lV (Value.bool true) he21 rfl rfl (he21.want rfl rfl rfl rfl rfl) (rn_eqE rfl (he21.op rfl) (he21.op rfl) (by rfl) w17) ?_
  intro a22 he22
  clear he21 a21
  refine lV (Value.bool true) he22 rfl rfl (wanted_plain rfl _) (rn_pk rfl (he22.op rfl) (he22.op rfl) w17) ?_
  intro a23 he23
  clear he22 a22
  refine lV (Value.bool true) he23 rfl rfl (wanted_plain rfl _) (rn_asg rfl (he23.op rfl) w17) ?_
  intro a24 he24
  clear he23 a23
  refine wpList_nil ?_
  refine then_ok ?_
  refine wp_ret ?_
  try simp only [Exit.then, Exit.inBlock]
  exact ret_env rfl he24 rfl ⟨rfl, hH17.new⟩
end Go.Proofs.YtjnghaoboopflaaDoor
namespace Go.Proofs.YtjnghaoboopflaaDoor
open Go.RowKit

set_option linter.unusedSimpArgs false in
set_option maxRecDepth 100000 in
set_option maxHeartbeats 1600000 in
theorem looks_b (F : FP) (p pl gn : Nat) (L : List Ln) (A : Option Addr) (c : Nat) (w : World) (hs : (shD p L pl gn).P w F) (hT : Tab w) (hr : LnsR w (.slice A L.length c) L) : Calls Tryd.prog 12 #[.pointer (some ⟨p, 0, none⟩), Value.agg #[Value.int .i64 (pl : Int), Value.int .i64 (gn : Int), Value.slice A L.length c]] w fun e w' => e = .returned (.bool true) ∧ New w w' := by
  have hok := sh_ok hs
  have hlen := hok.len
  have hp9 := hok.2.1
  have hpg := hok.2.2.1
  have hr0 := hr
  obtain ⟨A', c', ba, xa, e_, hca, hra, -, hea⟩ := hr
  simp only [Value.slice.injEq] at e_
  obtain ⟨rfl, -, rfl⟩ := e_
  refine calls_args (vl := [Value.pointer (some ⟨p, 0, none⟩), Value.agg #[Value.int .i64 (pl : Int), Value.int .i64 (gn : Int), Value.slice A L.length c]]) 103 Tryd.func12 rfl Tryd.ntmps12 (by kernel_rfl) (fun a he => ?_)
  have he0 : Env 103 [(0, Value.pointer (some ⟨p, 0, none⟩)), (1, Value.agg #[Value.int .i64 (pl : Int), Value.int .i64 (gn : Int), Value.slice A L.length c])] a := he
  clear he
  have hH := Hp.start w
  have hD := Dt.start hT
  refine wp_seq ?_
  refine wp_region_lit ?_
  refine lNewP (fun p => .pointer (some ⟨p, 0, none⟩)) he0 hH rfl rfl (wanted_plain rfl _) (rn_boxQ rfl (he0.op rfl) w) ?_
  intro p1 w1 a2 hp hn hH1 he2
  replace hD := hD.cons hn hp (hH1.at (i := 0) rfl).lt
  clear he0 a hH hn hp
  refine lV (Value.bool false) he2 rfl rfl (wanted_plain rfl _) (rn_asg rfl (he2.op rfl) w1) ?_
  intro a3 he3
  clear he2 a2
  refine wpList_nil ?_
  refine then_ok ?_
  refine wp_seq ?_
  refine wp_seq ?_
  refine wp_region_held_drew (S := Hp w [⟨p1, 32, #[Value.int .i64 (pl : Int), Value.int .i64 (gn : Int), Value.slice A L.length c]⟩]) (by kernel_rfl) (hH1.drew) (fun _ => ?_)
  have hn : New w1 (World.drew w1) := (Fr.refl _ _).drew
  replace hD := (hD).new hn
  clear hn
  have hH4 := hH1.drew
  clear hH1
  generalize World.drew w1 = w4 at *
  refine hV (fuel := 26) (i := 0) (Value.pointer (some ⟨p, 0, none⟩)) he3 rfl rfl rfl (by kernel_rfl) (by kernel_rfl) (by kernel_rfl) (fun _ _ _ h => h) (wanted_plain rfl _) (fun w' _ => rn_mv rfl (he3.op rfl) w') hH4 ?_
  intro a5 he5
  clear he3 a3
  refine hV (fuel := 25) (i := 2) (Value.pointer (some ⟨p1, 2, none⟩)) he5 rfl rfl rfl (by kernel_rfl) (by kernel_rfl) (by kernel_rfl) (fun _ _ _ h => h) (wanted_plain rfl _) (fun w' _ => rn_faQ2 rfl (he5.op rfl) rfl w') hH4 ?_
  intro a6 he6
  clear he5 a5
  refine hV (fuel := 24) (i := 3) (Value.slice A L.length c) he6 rfl rfl rfl (by kernel_rfl) (by kernel_rfl) (by kernel_rfl) (fun _ _ _ h => h) (wanted_plain rfl _) (fun w' hw' => rn_ldLs rfl (he6.op rfl) (hw'.at (i := 0) rfl) rfl) hH4 ?_
  intro a7 he7
  clear he6 a6
  refine hV (fuel := 23) (i := 4) (Value.int .i64 (L.length : Nat)) he7 rfl rfl rfl (by kernel_rfl) (by kernel_rfl) (by kernel_rfl) (fun _ _ _ h => h) (wanted_plain rfl _) (fun w' _ => rn_lenL rfl (he7.op rfl) w') hH4 ?_
  intro a8 he8
  clear he7 a7
  refine hC (fuel := 22) (i := 1) he8 (by kernel_rfl) rfl rfl rfl Tryd.func18 (by kernel_rfl) rfl rfl (wanted_plain rfl _) rfl (lenS_b F p pl gn L w4 ((shD _ _ _ _).fr hs hD.fr (fun _ _ h => h)) hD.tab) ?_
  rintro _ w9 ⟨rfl, hn⟩
  have hH9 := hH4.call hn
  replace hD := (hD).new hn
  refine ⟨_, rfl, hH9, ?_⟩
  intro a10 he10
  clear he8 a8 hH4 hn
  refine hV (fuel := 21) (i := 5) (Value.bool false) he10 rfl rfl rfl (by kernel_rfl) (by kernel_rfl) (by kernel_rfl) (fun _ _ _ h => h) (wanted_plain rfl _) (fun w' _ => rn_neI rfl (he10.op rfl) (he10.op rfl) (by simp) w') hH9 ?_
  intro a11 he11
  clear he10 a10
  refine hV (fuel := 20) (i := 6) (Value.bool false) he11 rfl rfl rfl (by kernel_rfl) (by kernel_rfl) (by kernel_rfl) (fun _ _ _ h => h) (wanted_plain rfl _) (fun w' _ => rn_mv rfl (he11.op rfl) w') hH9 ?_
  intro a12 he12
  clear he11 a11
  refine hV (fuel := 19) (i := 7) (Value.pointer (some ⟨p, 0, none⟩)) he12 rfl rfl rfl (by kernel_rfl) (by kernel_rfl) (by kernel_rfl) (fun _ _ _ h => h) (he12.want rfl rfl rfl rfl rfl) (fun w' _ => rn_mv rfl (he12.op rfl) w') hH9 ?_
  intro a13 he13
  clear he12 a12
  refine hV (fuel := 18) (i := 9) (Value.pointer (some ⟨p1, 0, none⟩)) he13 rfl rfl rfl (by kernel_rfl) (by kernel_rfl) (by kernel_rfl) (fun _ _ _ h => h) (he13.want rfl rfl rfl rfl rfl) (fun w' _ => rn_faQ0 rfl (he13.op rfl) rfl w') hH9 ?_
  intro a14 he14
  clear he13 a13
  refine hV (fuel := 17) (i := 10) (Value.int .i64 (pl : Int)) he14 rfl rfl rfl (by kernel_rfl) (by kernel_rfl) (by kernel_rfl) (fun _ _ _ h => h) (he14.want rfl rfl rfl rfl rfl) (fun w' hw' => rn_ld1 rfl (he14.op rfl) Tryd.underlying3 (hw'.at (i := 0) rfl) rfl) hH9 ?_
  intro a15 he15
  clear he14 a14
  refine hC (fuel := 16) (i := 8) he15 (by kernel_rfl) rfl rfl rfl Tryd.func22 (by kernel_rfl) rfl rfl (he15.want rfl rfl rfl rfl rfl) rfl (capS_b F p pl gn L w9 ((shD _ _ _ _).fr hs hD.fr (fun _ _ h => h)) hD.tab) ?_
  rintro _ w16 ⟨rfl, hn⟩
  have hH16 := hH9.call hn
  replace hD := (hD).new hn
  refine ⟨_, rfl, hH16, ?_⟩
  intro a17 he17
  clear he15 a15 hH9 hn
  refine hV (fuel := 15) (i := 11) (Value.bool false) he17 rfl rfl rfl (by kernel_rfl) (by kernel_rfl) (by kernel_rfl) (fun _ _ _ h => h) (he17.want rfl rfl rfl rfl rfl) (fun w' _ => rn_neI rfl (he17.op rfl) (he17.op rfl) (by simp) w') hH16 ?_
  intro a18 he18
  clear he17 a17
  refine hV (fuel := 14) (i := 12) (Value.bool false) he18 rfl rfl rfl (by kernel_rfl) (by kernel_rfl) (by kernel_rfl) (fun _ _ _ h => h) (wanted_plain rfl _) (fun w' _ => rn_pk0 rfl (he18.op rfl) (he18.op rfl) w') hH16 ?_
  intro a19 he19
  clear he18 a18
  refine hV (fuel := 13) (i := 13) (Value.bool false) he19 rfl rfl rfl (by kernel_rfl) (by kernel_rfl) (by kernel_rfl) (fun _ _ _ h => h) (wanted_plain rfl _) (fun w' _ => rn_mv rfl (he19.op rfl) w') hH16 ?_
  intro a20 he20
  clear he19 a19
  refine hV (fuel := 12) (i := 14) (Value.pointer (some ⟨p, 0, none⟩)) he20 rfl rfl rfl (by kernel_rfl) (by kernel_rfl) (by kernel_rfl) (fun _ _ _ h => h) (he20.want rfl rfl rfl rfl rfl) (fun w' _ => rn_mv rfl (he20.op rfl) w') hH16 ?_
  intro a21 he21
  clear he20 a20
  refine hV (fuel := 11) (i := 16) (Value.pointer (some ⟨p1, 1, none⟩)) he21 rfl rfl rfl (by kernel_rfl) (by kernel_rfl) (by kernel_rfl) (fun _ _ _ h => h) (he21.want rfl rfl rfl rfl rfl) (fun w' _ => rn_faQ1 rfl (he21.op rfl) rfl w') hH16 ?_
  intro a22 he22
  clear he21 a21
  refine hV (fuel := 10) (i := 17) (Value.int .i64 (gn : Int)) he22 rfl rfl rfl (by kernel_rfl) (by kernel_rfl) (by kernel_rfl) (fun _ _ _ h => h) (he22.want rfl rfl rfl rfl rfl) (fun w' hw' => rn_ld1 rfl (he22.op rfl) Tryd.underlying3 (hw'.at (i := 0) rfl) rfl) hH16 ?_
  intro a23 he23
  clear he22 a22
  refine hC (fuel := 9) (i := 15) he23 (by kernel_rfl) rfl rfl rfl Tryd.func19 (by kernel_rfl) rfl rfl (he23.want rfl rfl rfl rfl rfl) rfl (goneS_b F p pl gn L w16 ((shD _ _ _ _).fr hs hD.fr (fun _ _ h => h)) hD.tab) ?_
  rintro _ w24 ⟨rfl, hn⟩
  have hH24 := hH16.call hn
  replace hD := (hD).new hn
  refine ⟨_, rfl, hH24, ?_⟩
  intro a25 he25
  clear he23 a23 hH16 hn
  refine hV (fuel := 8) (i := 18) (Value.bool false) he25 rfl rfl rfl (by kernel_rfl) (by kernel_rfl) (by kernel_rfl) (fun _ _ _ h => h) (he25.want rfl rfl rfl rfl rfl) (fun w' _ => rn_neI rfl (he25.op rfl) (he25.op rfl) (by simp) w') hH24 ?_
  intro a26 he26
  clear he25 a25
  refine hV (fuel := 7) (i := 19) (Value.bool false) he26 rfl rfl rfl (by kernel_rfl) (by kernel_rfl) (by kernel_rfl) (fun _ _ _ h => h) (wanted_plain rfl _) (fun w' _ => rn_pk0 rfl (he26.op rfl) (he26.op rfl) w') hH24 ?_
  intro a27 he27
  clear he26 a26
  refine hV (fuel := 6) (i := 20) (Value.bool false) he27 rfl rfl rfl (by kernel_rfl) (by kernel_rfl) (by kernel_rfl) (fun _ _ _ h => h) (wanted_plain rfl _) (fun w' _ => rn_mv rfl (he27.op rfl) w') hH24 ?_
  intro a28 he28
  clear he27 a27
  refine hV (fuel := 5) (i := 21) (Value.pointer (some ⟨p, 0, none⟩)) he28 rfl rfl rfl (by kernel_rfl) (by kernel_rfl) (by kernel_rfl) (fun _ _ _ h => h) (he28.want rfl rfl rfl rfl rfl) (fun w' _ => rn_mv rfl (he28.op rfl) w') hH24 ?_
  intro a29 he29
  clear he28 a28
  refine hV (fuel := 4) (i := 23) (Value.agg #[Value.int .i64 (pl : Int), Value.int .i64 (gn : Int), Value.slice A L.length c]) he29 rfl rfl rfl (by kernel_rfl) (by kernel_rfl) (by kernel_rfl) (fun _ _ _ h => h) (he29.want rfl rfl rfl rfl rfl) (fun w' hw' => rn_ldp [Value.int .i64 (pl : Int), Value.int .i64 (gn : Int), Value.slice A L.length c] rfl (he29.op rfl) undQ rfl infoQ3 (hw'.at (i := 0) rfl) rfl) hH24 ?_
  intro a30 he30
  clear he29 a29
  refine hC (fuel := 3) (i := 22) he30 (by kernel_rfl) rfl rfl rfl Tryd.func15 (by kernel_rfl) rfl rfl (he30.want rfl rfl rfl rfl rfl) rfl (room_b p pl gn L F w24 ((shD _ _ _ _).fr hs hD.fr (fun _ _ h => h)) hD.tab) ?_
  rintro _ w31 ⟨rfl, hn⟩
  have hH31 := hH24.call hn
  replace hD := (hD).new hn
  refine ⟨_, rfl, hH31, ?_⟩
  intro a32 he32
  clear he30 a30 hH24 hn
  refine hC (fuel := 2) (i := 24) he32 (by kernel_rfl) rfl rfl rfl Tryd.func34 (by kernel_rfl) rfl rfl (he32.want rfl rfl rfl rfl rfl) rfl (rroom_b A L.length c pl gn hpg hp9 w31) ?_
  rintro _ w33 ⟨rfl, hn⟩
  have hH33 := hH31.call hn
  replace hD := (hD).new hn
  refine ⟨_, rfl, hH33, ?_⟩
  intro a34 he34
  clear he32 a32 hH31 hn
  refine hV (fuel := 1) (i := 25) (Value.bool false) he34 rfl rfl rfl (by kernel_rfl) (by kernel_rfl) (by kernel_rfl) (fun _ _ _ h => h) (he34.want rfl rfl rfl rfl rfl) (fun w' _ => rn_neI rfl (he34.op rfl) (he34.op rfl) (by simp) w') hH33 ?_
  intro a35 he35
  clear he34 a34
  refine hV (fuel := 0) (i := 26) (Value.bool false) he35 rfl rfl rfl (by kernel_rfl) (by kernel_rfl) (by kernel_rfl) (fun _ _ _ h => h) (wanted_plain rfl _) (fun w' _ => rn_pk0 rfl (he35.op rfl) (he35.op rfl) w') hH33 ?_
  intro a36 he36
  clear he35 a35
  refine wpAnyH_done (by kernel_rfl) ?_ _
  refine then_ok ?_
  refine wp_cond_false (he36.op rfl) ?_
  refine wp_skip ?_
  refine then_ok ?_
  have he37 : Env 103 [(3, Value.pointer (some ⟨p1, 0, none⟩)), (0, Value.pointer (some ⟨p, 0, none⟩))] a36 := he36.mem ⟨rfl, rfl, trivial⟩
  clear he36
  as_aux_lemma =>
    refine wp_seq ?_
    refine wp_seq ?_
    refine wp_region_lit ?_
    refine lV (Value.int IntKind.i64 (-1)) he37 rfl rfl (wanted_plain rfl _) (rn_asg rfl (he37.op rfl) w33) ?_
    intro a38 he38
    clear he37 a36
    refine wpList_nil ?_
    refine then_ok ?_
    refine wp_block ?_
    refine loop_nat (fun q a w' => ∃ (i : Int), q = ((L.length : Int) + 1 - i).toNat ∧ -1 ≤ i ∧ i ≤ L.length + 1 ∧ Env 103 [(0, Value.pointer (some ⟨p, 0, none⟩)), (3, Value.pointer (some ⟨p1, 0, none⟩)), (5, Value.int .i64 i)] a ∧ Hp w [⟨p1, 32, #[Value.int .i64 (pl : Int), Value.int .i64 (gn : Int), Value.slice A L.length c]⟩] w' ∧ Dt w w (fun _ => False) 0 [p1] [] w') _ ⟨-1, rfl, by omega, by omega, he38.mem ⟨rfl, rfl, rfl, trivial⟩, hH33, hD⟩ ?_
    clear he38 hH33
    rintro q a39 w39 ⟨i, rfl, hi1, hi2, he39, hH39, hD⟩
    by_cases hin : i ≤ (L.length : Nat)
    · skip
      refine wp_seq ?_
      refine wp_seq ?_
      refine wp_region_lit ?_
      refine lV (Value.int .i64 i) he39 rfl rfl (wanted_plain rfl _) (rn_mv rfl (he39.op rfl) w39) ?_
      intro a40 he40
      clear he39 a39
      refine lV (Value.pointer (some ⟨p1, 2, none⟩)) he40 rfl rfl (wanted_plain rfl _) (rn_faQ2 rfl (he40.op rfl) rfl w39) ?_
      intro a41 he41
      clear he40 a40
      refine lV (Value.slice A L.length c) he41 rfl rfl (wanted_plain rfl _) (rn_ldLs rfl (he41.op rfl) (hH39.at (i := 0) rfl) rfl) ?_
      intro a42 he42
      clear he41 a41
      refine lV (Value.int .i64 (L.length : Nat)) he42 rfl rfl (wanted_plain rfl _) (rn_lenL rfl (he42.op rfl) w39) ?_
      intro a43 he43
      clear he42 a42
      refine lV (Value.bool true) he43 rfl rfl (wanted_plain rfl _) (rn_leq rfl (he43.op rfl) (he43.op rfl) (decide_eq_true hin) w39) ?_
      intro a44 he44
      clear he43 a43
      refine wpList_nil ?_
      refine then_ok ?_
      refine wp_cond_true (he44.op rfl) ?_
      refine wp_skip ?_
      refine then_ok ?_
      refine wp_seq ?_
      refine wp_block ?_
      by_cases h0 : i < 0
      · skip
        refine wp_seq ?_
        refine wp_seq ?_
        refine wp_region_lit ?_
        refine lV (Value.int .i64 i) he44 rfl rfl (wanted_plain rfl _) (rn_mv rfl (he44.op rfl) w39) ?_
        intro a45 he45
        clear he44 a44
        refine lV (Value.bool true) he45 rfl rfl (wanted_plain rfl _) (rn_lss rfl (he45.op rfl) (he45.op rfl) (decide_eq_true h0) w39) ?_
        intro a46 he46
        clear he45 a45
        refine lV (Value.bool true) he46 rfl rfl (wanted_plain rfl _) (rn_mv rfl (he46.op rfl) w39) ?_
        intro a47 he47
        clear he46 a46
        refine lSkip he47 rfl rfl (he47.wantNot rfl rfl rfl rfl rfl rfl) ?_
        intro a48 he48
        clear he47 a47
        refine lSkip he48 rfl rfl (he48.wantNot rfl rfl rfl rfl rfl rfl) ?_
        intro a49 he49
        clear he48 a48
        refine lSkip he49 rfl rfl (he49.wantNot rfl rfl rfl rfl rfl rfl) ?_
        intro a50 he50
        clear he49 a49
        refine lSkip he50 rfl rfl (he50.wantNot rfl rfl rfl rfl rfl rfl) ?_
        intro a51 he51
        clear he50 a50
        refine lSkip he51 rfl rfl (he51.wantNot rfl rfl rfl rfl rfl rfl) ?_
        intro a52 he52
        clear he51 a51
        refine lV (Value.bool true) he52 rfl rfl (wanted_plain rfl _) (rn_pk rfl (he52.op rfl) (he52.op rfl) w39) ?_
        intro a53 he53
        clear he52 a52
        refine wpList_nil ?_
        refine then_ok ?_
        refine wp_cond_true (he53.op rfl) ?_
        refine wp_seq ?_
        refine wp_seq ?_
        have hge : getS L i = (zLn, 3) := by unfold getS; rw [if_neg (by omega)]
        refine wp_region_lit ?_
        refine lV (Value.pointer (some ⟨p, 0, none⟩)) he53 rfl rfl (wanted_plain rfl _) (rn_mv rfl (he53.op rfl) w39) ?_
        intro a54 he54
        clear he53 a53
        refine lV (Value.int .i64 i) he54 rfl rfl (wanted_plain rfl _) (rn_mv rfl (he54.op rfl) w39) ?_
        intro a55 he55
        clear he54 a54
        refine lV (Value.agg #[Value.slice none 0 0, Value.bool false]) he55 rfl rfl (wanted_plain rfl _) (rn_bL rfl  w39) ?_
        intro a56 he56
        clear he55 a55
        refine lC he56 rfl rfl Tryd.func20 (by kernel_rfl) rfl rfl (wanted_plain rfl _) rfl (gets_b F p pl gn L i _ [] false 3 true (by rw [hge]; simp) w39 ((shD _ _ _ _).fr hs hD.fr (fun _ _ h => h)) hD.tab (SlC.nil _) (by simp)) ?_
        intro w57 a58 hn he58
        have hH57 := hH39.call hn
        replace hD := (hD).new hn
        clear he56 a56 hH39 hn
        refine lV (Value.bool false) he58 rfl rfl (wanted_plain rfl _) (rn_not (b := true) rfl (he58.op rfl) w57) ?_
        intro a59 he59
        clear he58 a58
        refine wpList_nil ?_
        refine then_ok ?_
        refine wp_cond_false (he59.op rfl) ?_
        refine wp_skip ?_
        refine then_ok ?_
        refine wp_exit ?_
        simp only [Exit.then, Exit.inBlock, if_true]
        refine wp_region_lit ?_
        refine lV (Value.int .i64 i) he59 rfl rfl (wanted_plain rfl _) (rn_mv rfl (he59.op rfl) w57) ?_
        intro a60 he60
        clear he59 a59
        refine lV (Value.int .i64 (i + 1)) he60 rfl rfl (wanted_plain rfl _) (rn_add1 rfl (he60.op rfl) (he60.op rfl) (by rw [IntWalk.i64_in _ ⟨by omega, by omega⟩]) w57) ?_
        intro a61 he61
        clear he60 a60
        refine lV (Value.int .i64 (i + 1)) he61 rfl rfl (wanted_plain rfl _) (rn_asg rfl (he61.op rfl) w57) ?_
        intro a62 he62
        clear he61 a61
        refine wpList_nil ?_
        refine then_ok ?_
        exact ⟨((L.length : Int) + 1 - (i + 1)).toNat, by omega, i + 1, rfl, by omega, by omega, he62.mem ⟨rfl, rfl, rfl, trivial⟩, hH57, hD⟩
      · skip
        by_cases h9 : i = (L.length : Nat)
        · skip
          refine wp_seq ?_
          refine wp_seq ?_
          refine wp_region_lit ?_
          refine lV (Value.int .i64 i) he44 rfl rfl (wanted_plain rfl _) (rn_mv rfl (he44.op rfl) w39) ?_
          intro a63 he63
          clear he44 a44
          refine lV (Value.bool false) he63 rfl rfl (wanted_plain rfl _) (rn_lss rfl (he63.op rfl) (he63.op rfl) (decide_eq_false h0) w39) ?_
          intro a64 he64
          clear he63 a63
          refine lV (Value.bool false) he64 rfl rfl (wanted_plain rfl _) (rn_mv rfl (he64.op rfl) w39) ?_
          intro a65 he65
          clear he64 a64
          refine lV (Value.int .i64 i) he65 rfl rfl (he65.want rfl rfl rfl rfl rfl) (rn_mv rfl (he65.op rfl) w39) ?_
          intro a66 he66
          clear he65 a65
          refine lV (Value.pointer (some ⟨p1, 2, none⟩)) he66 rfl rfl (he66.want rfl rfl rfl rfl rfl) (rn_faQ2 rfl (he66.op rfl) rfl w39) ?_
          intro a67 he67
          clear he66 a66
          refine lV (Value.slice A L.length c) he67 rfl rfl (he67.want rfl rfl rfl rfl rfl) (rn_ldLs rfl (he67.op rfl) (hH39.at (i := 0) rfl) rfl) ?_
          intro a68 he68
          clear he67 a67
          refine lV (Value.int .i64 (L.length : Nat)) he68 rfl rfl (he68.want rfl rfl rfl rfl rfl) (rn_lenL rfl (he68.op rfl) w39) ?_
          intro a69 he69
          clear he68 a68
          refine lV (Value.bool true) he69 rfl rfl (he69.want rfl rfl rfl rfl rfl) (rn_eqI rfl (he69.op rfl) (he69.op rfl) (by simp [h9]) w39) ?_
          intro a70 he70
          clear he69 a69
          refine lV (Value.bool true) he70 rfl rfl (wanted_plain rfl _) (rn_pk0 rfl (he70.op rfl) (he70.op rfl) w39) ?_
          intro a71 he71
          clear he70 a70
          refine wpList_nil ?_
          refine then_ok ?_
          refine wp_cond_true (he71.op rfl) ?_
          refine wp_seq ?_
          refine wp_seq ?_
          have hge : getS L i = (zLn, 3) := by unfold getS; rw [if_neg (by omega)]
          refine wp_region_lit ?_
          refine lV (Value.pointer (some ⟨p, 0, none⟩)) he71 rfl rfl (wanted_plain rfl _) (rn_mv rfl (he71.op rfl) w39) ?_
          intro a72 he72
          clear he71 a71
          refine lV (Value.int .i64 i) he72 rfl rfl (wanted_plain rfl _) (rn_mv rfl (he72.op rfl) w39) ?_
          intro a73 he73
          clear he72 a72
          refine lV (Value.agg #[Value.slice none 0 0, Value.bool false]) he73 rfl rfl (wanted_plain rfl _) (rn_bL rfl  w39) ?_
          intro a74 he74
          clear he73 a73
          refine lC he74 rfl rfl Tryd.func20 (by kernel_rfl) rfl rfl (wanted_plain rfl _) rfl (gets_b F p pl gn L i _ [] false 3 true (by rw [hge]; simp) w39 ((shD _ _ _ _).fr hs hD.fr (fun _ _ h => h)) hD.tab (SlC.nil _) (by simp)) ?_
          intro w75 a76 hn he76
          have hH75 := hH39.call hn
          replace hD := (hD).new hn
          clear he74 a74 hH39 hn
          refine lV (Value.bool false) he76 rfl rfl (wanted_plain rfl _) (rn_not (b := true) rfl (he76.op rfl) w75) ?_
          intro a77 he77
          clear he76 a76
          refine wpList_nil ?_
          refine then_ok ?_
          refine wp_cond_false (he77.op rfl) ?_
          refine wp_skip ?_
          refine then_ok ?_
          refine wp_exit ?_
          simp only [Exit.then, Exit.inBlock, if_true]
          refine wp_region_lit ?_
          refine lV (Value.int .i64 i) he77 rfl rfl (wanted_plain rfl _) (rn_mv rfl (he77.op rfl) w75) ?_
          intro a78 he78
          clear he77 a77
          refine lV (Value.int .i64 (i + 1)) he78 rfl rfl (wanted_plain rfl _) (rn_add1 rfl (he78.op rfl) (he78.op rfl) (by rw [IntWalk.i64_in _ ⟨by omega, by omega⟩]) w75) ?_
          intro a79 he79
          clear he78 a78
          refine lV (Value.int .i64 (i + 1)) he79 rfl rfl (wanted_plain rfl _) (rn_asg rfl (he79.op rfl) w75) ?_
          intro a80 he80
          clear he79 a79
          refine wpList_nil ?_
          refine then_ok ?_
          exact ⟨((L.length : Int) + 1 - (i + 1)).toNat, by omega, i + 1, rfl, by omega, by omega, he80.mem ⟨rfl, rfl, rfl, trivial⟩, hH75, hD⟩
        · skip
          refine wp_seq ?_
          refine wp_seq ?_
          refine wp_region_lit ?_
          refine lV (Value.int .i64 i) he44 rfl rfl (wanted_plain rfl _) (rn_mv rfl (he44.op rfl) w39) ?_
          intro a81 he81
          clear he44 a44
          refine lV (Value.bool false) he81 rfl rfl (wanted_plain rfl _) (rn_lss rfl (he81.op rfl) (he81.op rfl) (decide_eq_false h0) w39) ?_
          intro a82 he82
          clear he81 a81
          refine lV (Value.bool false) he82 rfl rfl (wanted_plain rfl _) (rn_mv rfl (he82.op rfl) w39) ?_
          intro a83 he83
          clear he82 a82
          refine lV (Value.int .i64 i) he83 rfl rfl (he83.want rfl rfl rfl rfl rfl) (rn_mv rfl (he83.op rfl) w39) ?_
          intro a84 he84
          clear he83 a83
          refine lV (Value.pointer (some ⟨p1, 2, none⟩)) he84 rfl rfl (he84.want rfl rfl rfl rfl rfl) (rn_faQ2 rfl (he84.op rfl) rfl w39) ?_
          intro a85 he85
          clear he84 a84
          refine lV (Value.slice A L.length c) he85 rfl rfl (he85.want rfl rfl rfl rfl rfl) (rn_ldLs rfl (he85.op rfl) (hH39.at (i := 0) rfl) rfl) ?_
          intro a86 he86
          clear he85 a85
          refine lV (Value.int .i64 (L.length : Nat)) he86 rfl rfl (he86.want rfl rfl rfl rfl rfl) (rn_lenL rfl (he86.op rfl) w39) ?_
          intro a87 he87
          clear he86 a86
          refine lV (Value.bool false) he87 rfl rfl (he87.want rfl rfl rfl rfl rfl) (rn_eqI rfl (he87.op rfl) (he87.op rfl) (by simpa using h9) w39) ?_
          intro a88 he88
          clear he87 a87
          refine lV (Value.bool false) he88 rfl rfl (wanted_plain rfl _) (rn_pk0 rfl (he88.op rfl) (he88.op rfl) w39) ?_
          intro a89 he89
          clear he88 a88
          refine wpList_nil ?_
          refine then_ok ?_
          refine wp_cond_false (he89.op rfl) ?_
          refine wp_skip ?_
          refine then_ok ?_
          obtain ⟨k, rfl⟩ : ∃ k : Nat, i = k := ⟨i.toNat, by omega⟩
          have hk : k < L.length := by omega
          obtain ⟨m, hLk⟩ : ∃ m, L[k]? = some m := ⟨_, List.getElem?_eq_getElem (by omega)⟩
          have hge : getS L k = (m, 0) := by unfold getS; rw [if_pos (by omega), Int.toNat_natCast, List.getD_eq_getElem?_getD, hLk]; rfl
          have hml := hok.cells m (List.mem_of_getElem? hLk)
          have hxal := hra.1
          obtain ⟨x, hX⟩ : ∃ m, xa[k]? = some m := ⟨_, List.getElem?_eq_getElem (by omega)⟩
          obtain ⟨hxs, hxf⟩ := hea k _ _ hX hLk
          have hxg := hxf.sl
          obtain ⟨Ax, cx, hxe⟩ := hxg.shape
          clear hxf
          obtain ⟨aa, an, ac, az⟩ := x
          simp only [Value.slice.injEq] at hxe hxs
          obtain ⟨rfl, rfl, rfl⟩ := hxe
          subst hxs
          obtain ⟨oa, eA⟩ := hra.base (by omega)
          subst eA
          refine wp_seq ?_
          refine wp_region_lit ?_
          refine lV (Value.pointer (some ⟨p, 0, none⟩)) he89 rfl rfl (wanted_plain rfl _) (rn_mv rfl (he89.op rfl) w39) ?_
          intro a90 he90
          clear he89 a89
          refine lV (Value.int .i64 (k : Int)) he90 rfl rfl (wanted_plain rfl _) (rn_mv rfl (he90.op rfl) w39) ?_
          intro a91 he91
          clear he90 a90
          refine lCx he91 rfl rfl Tryd.func35 (by kernel_rfl) rfl rfl (wanted_plain rfl _) rfl ((hge ▸ get_b F p pl gn L k w39 ((shD _ _ _ _).fr hs hD.fr (fun _ _ h => h)) hD.tab)) ?_
          rintro _ w92 ⟨Ag, cg, rfl, ht⟩
          have hD2 := hD.made ht
          have hH92 := hH39.call ht.new
          clear hD
          have hD := hD2
          clear hD2 ht
          refine ⟨_, rfl, ?_⟩
          intro a93 he93
          clear he91 a91 hH39
          refine lV (Value.tuple #[Value.agg #[Value.slice Ag m.1.length cg, Value.bool m.2], Value.int .i64 0]) he93 rfl rfl (wanted_plain rfl _) (rn_mv rfl (he93.op rfl) w92) ?_
          intro a94 he94
          clear he93 a93
          refine lV (Value.agg #[Value.slice Ag m.1.length cg, Value.bool m.2]) he94 rfl rfl (wanted_plain rfl _) (rn_ext rfl (he94.op rfl) rfl w92) ?_
          intro a95 he95
          clear he94 a94
          refine lV (Value.int .i64 0) he95 rfl rfl (wanted_plain rfl _) (rn_ext rfl (he95.op rfl) rfl w92) ?_
          intro a96 he96
          clear he95 a95
          refine lNewP (fun p => .pointer (some ⟨p, 0, none⟩)) he96 hH92 rfl rfl (wanted_plain rfl _) (rn_allocL rfl w92) ?_
          intro p97 w97 a98 hp hn hH97 he98
          replace hD := hD.cons hn hp (hH97.at (i := 0) rfl).lt
          clear he96 a96 hH92 hn hp
          refine lSetF 0 #[Value.slice Ag m.1.length cg, Value.bool m.2] (cs := #[Value.slice Ag m.1.length cg, Value.bool m.2]) he98 hH97 rfl (wanted_plain rfl _) rfl rfl rfl rfl rfl (by kernel_rfl) (by kernel_rfl) (by kernel_rfl) rfl ?_
          intro w99 a100 hH99 hf he100
          replace hD := hD.setb (i := 0) rfl rfl hf
          replace hH99 : Hp w [⟨p97, 35, #[Value.slice Ag m.1.length cg, Value.bool m.2]⟩, ⟨p1, 32, #[Value.int .i64 (pl : Int), Value.int .i64 (gn : Int), Value.slice (some ⟨ba, oa, none⟩) L.length c]⟩] w99 := hH99
          clear hf
          clear he98 a98 hH97
          refine lV (Value.int .i64 0) he100 rfl rfl (wanted_plain rfl _) (rn_asg rfl (he100.op rfl) w99) ?_
          intro a101 he101
          clear he100 a100
          refine wpList_nil ?_
          refine then_ok ?_
          refine wp_seq ?_
          refine wp_seq ?_
          refine wp_region_held_drew (S := Hp w [⟨p97, 35, #[Value.slice Ag m.1.length cg, Value.bool m.2]⟩, ⟨p1, 32, #[Value.int .i64 (pl : Int), Value.int .i64 (gn : Int), Value.slice (some ⟨ba, oa, none⟩) L.length c]⟩]) (by kernel_rfl) (hH99.drew) (fun _ => ?_)
          have hn : New w99 (World.drew w99) := (Fr.refl _ _).drew
          replace hD := (hD).new hn
          clear hn
          have hH102 := hH99.drew
          clear hH99
          generalize World.drew w99 = w102 at *
          refine hV (fuel := 11) (i := 0) (Value.agg #[Value.slice Ag m.1.length cg, Value.bool m.2]) he101 rfl rfl rfl (by kernel_rfl) (by kernel_rfl) (by kernel_rfl) (fun _ _ _ h => h) (wanted_plain rfl _) (fun w' hw' => rn_ldp [Value.slice Ag m.1.length cg, Value.bool m.2] rfl (he101.op rfl) undL rfl infoL2 (hw'.at (i := 0) rfl) rfl) hH102 ?_
          intro a103 he103
          clear he101 a101
          refine hV (fuel := 10) (i := 1) (Value.pointer (some ⟨p1, 2, none⟩)) he103 rfl rfl rfl (by kernel_rfl) (by kernel_rfl) (by kernel_rfl) (fun _ _ _ h => h) (wanted_plain rfl _) (fun w' _ => rn_faQ2 rfl (he103.op rfl) rfl w') hH102 ?_
          intro a104 he104
          clear he103 a103
          refine hV (fuel := 9) (i := 2) (Value.slice (some ⟨ba, oa, none⟩) L.length c) he104 rfl rfl rfl (by kernel_rfl) (by kernel_rfl) (by kernel_rfl) (fun _ _ _ h => h) (wanted_plain rfl _) (fun w' hw' => rn_ldLs rfl (he104.op rfl) (hw'.at (i := 1) rfl) rfl) hH102 ?_
          intro a105 he105
          clear he104 a104
          refine hV (fuel := 8) (i := 3) (Value.int .i64 (k : Int)) he105 rfl rfl rfl (by kernel_rfl) (by kernel_rfl) (by kernel_rfl) (fun _ _ _ h => h) (wanted_plain rfl _) (fun w' _ => rn_mv rfl (he105.op rfl) w') hH102 ?_
          intro a106 he106
          clear he105 a105
          refine hV (fuel := 7) (i := 4) (Value.pointer (some ⟨ba, oa + k * 2, none⟩)) he106 rfl rfl rfl (by kernel_rfl) (by kernel_rfl) (by kernel_rfl) (fun _ _ _ h => h) (wanted_plain rfl _) (fun w' _ => rn_idxL (i := k) rfl (he106.op rfl) (he106.op rfl) (by omega) (by rw [addr_add]) w') hH102 ?_
          intro a107 he107
          clear he106 a106
          refine hV (fuel := 6) (i := 5) (Value.agg #[Value.slice aa m.1.length ac, Value.bool m.2]) he107 rfl rfl rfl (by kernel_rfl) (by kernel_rfl) (by kernel_rfl) (fun _ _ _ h => h) (wanted_plain rfl _) (fun w' hw' => rn_ldLn (i := k) rfl (he107.op rfl) (hra.new hw'.new) rfl hX) hH102 ?_
          intro a108 he108
          clear he107 a107
          refine hC (fuel := 5) (i := 6) he108 (by kernel_rfl) rfl rfl rfl Tryd.func26 (by kernel_rfl) rfl rfl (wanted_plain rfl _) rfl (same_s _ m.1 m.2 _ m.1 m.2 true (by simp) (by omega) (by omega) w102 (cells_sl (hD.get (i := 0) rfl).choose_spec) (hxg.new hH102.new)) ?_
          rintro _ w109 ⟨rfl, hn⟩
          have hH109 := hH102.call hn
          replace hD := (hD).new hn
          refine ⟨_, rfl, hH109, ?_⟩
          intro a110 he110
          clear he108 a108 hH102 hn
          refine hV (fuel := 4) (i := 7) (Value.bool false) he110 rfl rfl rfl (by kernel_rfl) (by kernel_rfl) (by kernel_rfl) (fun _ _ _ h => h) (wanted_plain rfl _) (fun w' _ => rn_not (b := true) rfl (he110.op rfl) w') hH109 ?_
          intro a111 he111
          clear he110 a110
          refine hV (fuel := 3) (i := 8) (Value.bool false) he111 rfl rfl rfl (by kernel_rfl) (by kernel_rfl) (by kernel_rfl) (fun _ _ _ h => h) (wanted_plain rfl _) (fun w' _ => rn_mv rfl (he111.op rfl) w') hH109 ?_
          intro a112 he112
          clear he111 a111
          refine hV (fuel := 2) (i := 9) (Value.int .i64 0) he112 rfl rfl rfl (by kernel_rfl) (by kernel_rfl) (by kernel_rfl) (fun _ _ _ h => h) (he112.want rfl rfl rfl rfl rfl) (fun w' _ => rn_mv rfl (he112.op rfl) w') hH109 ?_
          intro a113 he113
          clear he112 a112
          refine hV (fuel := 1) (i := 10) (Value.bool false) he113 rfl rfl rfl (by kernel_rfl) (by kernel_rfl) (by kernel_rfl) (fun _ _ _ h => h) (he113.want rfl rfl rfl rfl rfl) (fun w' _ => rn_neE rfl (he113.op rfl) (he113.op rfl) (by simp) w') hH109 ?_
          intro a114 he114
          clear he113 a113
          refine hV (fuel := 0) (i := 11) (Value.bool false) he114 rfl rfl rfl (by kernel_rfl) (by kernel_rfl) (by kernel_rfl) (fun _ _ _ h => h) (wanted_plain rfl _) (fun w' _ => rn_pk0 rfl (he114.op rfl) (he114.op rfl) w') hH109 ?_
          intro a115 he115
          clear he114 a114
          refine wpAnyH_done (by kernel_rfl) ?_ _
          refine then_ok ?_
          refine wp_cond_false (he115.op rfl) ?_
          refine wp_skip ?_
          refine then_ok ?_
          refine wp_region_lit ?_
          refine lV (Value.pointer (some ⟨p97, 0, none⟩)) he115 rfl rfl (wanted_plain rfl _) (rn_faL0 rfl (he115.op rfl) rfl w109) ?_
          intro a116 he116
          clear he115 a115
          refine lV (Value.slice Ag m.1.length cg) he116 rfl rfl (wanted_plain rfl _) (rn_ldS rfl (he116.op rfl) (hH109.at (i := 0) rfl) rfl) ?_
          intro a117 he117
          clear he116 a116
          obtain ⟨F_, hsep, hF, hstep⟩ := Dt.step (A := [cellsD (.slice Ag m.1.length cg) m.1]) (D := []) hD
          refine lCx he117 rfl rfl Tryd.func30 (by kernel_rfl) rfl rfl (wanted_plain rfl _) rfl (stain_d hsep.the (by omega)) ?_
          rintro _ w118 ⟨rfl, ht⟩
          obtain ⟨hD2, hHs⟩ := hstep _ _ ht
          have hH118 := hHs _ rfl hH109
          clear hHs hstep hsep hF
          clear hD
          have hD := hD2
          clear hD2 ht
          refine ⟨_, rfl, ?_⟩
          intro a119 he119
          clear he117 a117 hH109
          refine wpList_nil ?_
          refine block_ok ?_
          refine then_ok ?_
          have hH120 := hH118.tail rfl
          clear hH118
          replace hD := hD.tail
          obtain ⟨i, hik⟩ : ∃ i : Int, (k : Int) = i := ⟨_, rfl⟩
          rw [hik] at he119 hi1 hi2 hin h0 h9
          refine wp_region_lit ?_
          refine lV (Value.int .i64 i) he119 rfl rfl (wanted_plain rfl _) (rn_mv rfl (he119.op rfl) w118) ?_
          intro a121 he121
          clear he119 a119
          refine lV (Value.int .i64 (i + 1)) he121 rfl rfl (wanted_plain rfl _) (rn_add1 rfl (he121.op rfl) (he121.op rfl) (by rw [IntWalk.i64_in _ ⟨by omega, by omega⟩]) w118) ?_
          intro a122 he122
          clear he121 a121
          refine lV (Value.int .i64 (i + 1)) he122 rfl rfl (wanted_plain rfl _) (rn_asg rfl (he122.op rfl) w118) ?_
          intro a123 he123
          clear he122 a122
          refine wpList_nil ?_
          refine then_ok ?_
          exact ⟨((L.length : Int) + 1 - (i + 1)).toNat, by omega, i + 1, rfl, by omega, by omega, he123.mem ⟨rfl, rfl, rfl, trivial⟩, hH120, hD⟩
    · skip
      refine wp_seq ?_
      refine wp_seq ?_
      refine wp_region_lit ?_
      refine lV (Value.int .i64 i) he39 rfl rfl (wanted_plain rfl _) (rn_mv rfl (he39.op rfl) w39) ?_
      intro a124 he124
      clear he39 a39
      refine lV (Value.pointer (some ⟨p1, 2, none⟩)) he124 rfl rfl (wanted_plain rfl _) (rn_faQ2 rfl (he124.op rfl) rfl w39) ?_
      intro a125 he125
      clear he124 a124
      refine lV (Value.slice A L.length c) he125 rfl rfl (wanted_plain rfl _) (rn_ldLs rfl (he125.op rfl) (hH39.at (i := 0) rfl) rfl) ?_
      intro a126 he126
      clear he125 a125
      refine lV (Value.int .i64 (L.length : Nat)) he126 rfl rfl (wanted_plain rfl _) (rn_lenL rfl (he126.op rfl) w39) ?_
      intro a127 he127
      clear he126 a126
      refine lV (Value.bool false) he127 rfl rfl (wanted_plain rfl _) (rn_leq rfl (he127.op rfl) (he127.op rfl) (decide_eq_false hin) w39) ?_
      intro a128 he128
      clear he127 a127
      refine wpList_nil ?_
      refine then_ok ?_
      refine wp_cond_false (he128.op rfl) ?_
      refine wp_exit ?_
      simp only [Exit.then, Exit.inBlock, if_true]
      have he129 : Env 103 [(0, Value.pointer (some ⟨p, 0, none⟩)), (3, Value.pointer (some ⟨p1, 0, none⟩))] a128 := he128.mem ⟨rfl, rfl, trivial⟩
      clear he128
      as_aux_lemma =>
        refine wp_seq ?_
        refine wp_region_lit ?_
        refine lV (Value.pointer (some ⟨p, 0, none⟩)) he129 rfl rfl (wanted_plain rfl _) (rn_mv rfl (he129.op rfl) w39) ?_
        intro a130 he130
        clear he129 a128
        refine lCx he130 rfl rfl Tryd.func23 (by kernel_rfl) rfl rfl (wanted_plain rfl _) rfl (lines_b F p pl gn L w39 ((shD _ _ _ _).fr hs hD.fr (fun _ _ h => h)) hD.tab) ?_
        rintro _ w131 ⟨A2, c2, rfl, ht⟩
        have hD2 := hD.made ht
        have hH131 := hH39.call ht.new
        clear hD
        have hD := hD2
        clear hD2 ht
        refine ⟨_, rfl, ?_⟩
        intro a132 he132
        clear he130 a130 hH39
        refine lV (Value.slice A2 L.length c2) he132 rfl rfl (wanted_plain rfl _) (rn_asg rfl (he132.op rfl) w131) ?_
        intro a133 he133
        clear he132 a132
        refine wpList_nil ?_
        refine then_ok ?_
        refine wp_seq ?_
        refine wp_seq ?_
        refine wp_region_lit ?_
        refine lV (Value.slice A2 L.length c2) he133 rfl rfl (wanted_plain rfl _) (rn_mv rfl (he133.op rfl) w131) ?_
        intro a134 he134
        clear he133 a133
        refine lV (Value.pointer (some ⟨p1, 2, none⟩)) he134 rfl rfl (wanted_plain rfl _) (rn_faQ2 rfl (he134.op rfl) rfl w131) ?_
        intro a135 he135
        clear he134 a134
        refine lV (Value.slice A L.length c) he135 rfl rfl (wanted_plain rfl _) (rn_ldLs rfl (he135.op rfl) (hH131.at (i := 0) rfl) rfl) ?_
        intro a136 he136
        clear he135 a135
        refine lC he136 rfl rfl Tryd.func27 (by kernel_rfl) rfl rfl (wanted_plain rfl _) rfl (all_b _ _ L L true (by simp) hok.big hok.big (by omega) (by omega) w131 (lines_lns (hD.get (i := 0) rfl).choose_spec).r (hr0.new hH131.new)) ?_
        intro w137 a138 hn he138
        have hH137 := hH131.call hn
        replace hD := (hD).new hn
        clear he136 a136 hH131 hn
        refine lV (Value.bool false) he138 rfl rfl (wanted_plain rfl _) (rn_not (b := true) rfl (he138.op rfl) w137) ?_
        intro a139 he139
        clear he138 a138
        refine wpList_nil ?_
        refine then_ok ?_
        refine wp_cond_false (he139.op rfl) ?_
        refine wp_skip ?_
        refine then_ok ?_
        obtain ⟨ys, hD3⟩ := Dt.lines hD
        clear hD
        have hD := hD3
        clear hD3
        have hyl : ys.length = L.length := (hD.get (i := 1) rfl).choose_spec.1
        refine wp_seq ?_
        refine wp_seq ?_
        refine wp_region_lit ?_
        refine lV (Value.slice A2 L.length c2) he139 rfl rfl (wanted_plain rfl _) (rn_mv rfl (he139.op rfl) w137) ?_
        intro a140 he140
        clear he139 a139
        refine lV (Value.int .i64 (L.length : Nat)) he140 rfl rfl (wanted_plain rfl _) (rn_lenL rfl (he140.op rfl) w137) ?_
        intro a141 he141
        clear he140 a140
        refine lV (Value.int .i64 0) he141 rfl rfl (wanted_plain rfl _) (rn_mv rfl (he141.op rfl) w137) ?_
        intro a142 he142
        clear he141 a141
        refine wpList_nil ?_
        refine then_ok ?_
        have he143 : Env 103 [(88, Value.int .i64 0), (87, Value.int .i64 (L.length : Nat)), (8, Value.slice A2 L.length c2), (0, Value.pointer (some ⟨p, 0, none⟩)), (3, Value.pointer (some ⟨p1, 0, none⟩))] a142 := he142.mem ⟨rfl, rfl, rfl, rfl, rfl, trivial⟩
        clear he142
        as_aux_lemma =>
          refine wp_block ?_
          refine loop_nat (fun q a w' => ∃ (k : Nat), q = L.length - k ∧ k ≤ L.length ∧ Env 103 [(0, Value.pointer (some ⟨p, 0, none⟩)), (3, Value.pointer (some ⟨p1, 0, none⟩)), (8, Value.slice A2 L.length c2), (87, Value.int .i64 (L.length : Nat)), (88, Value.int .i64 (k : Int))] a ∧ Hp w [⟨p1, 32, #[Value.int .i64 (pl : Int), Value.int .i64 (gn : Int), Value.slice A L.length c]⟩] w' ∧ Dt w w (fun _ => False) 0 [p1] [rowD (.slice A2 L.length c2) ys, elsD (ys.drop k) (L.drop k)] w') L.length ⟨0, by omega, by omega, he143.mem ⟨rfl, rfl, rfl, rfl, rfl, trivial⟩, hH137, hD⟩ ?_
          clear he143 hH137
          rintro q a144 w144 ⟨k, rfl, hk, he144, hH144, hD⟩
          by_cases hkn : k < L.length
          · skip
            refine wp_seq ?_
            refine wp_region_lit ?_
            refine lV (Value.bool true) he144 rfl rfl (wanted_plain rfl _) (rn_lss rfl (he144.op rfl) (he144.op rfl) (decide_eq_true (by omega)) w144) ?_
            intro a145 he145
            clear he144 a144
            refine wpList_nil ?_
            refine then_ok ?_
            refine wp_seq ?_
            refine wp_cond_true (he145.op rfl) ?_
            refine wp_skip ?_
            refine then_ok ?_
            obtain ⟨m, hLk⟩ : ∃ m, L[k]? = some m := ⟨_, List.getElem?_eq_getElem (by omega)⟩
            obtain ⟨x, hX⟩ : ∃ m, ys[k]? = some m := ⟨_, List.getElem?_eq_getElem (by omega)⟩
            have hml := hok.cells m (List.mem_of_getElem? hLk)
            have ed1 : ys.drop k = x :: ys.drop (k + 1) := by obtain ⟨h1, h2⟩ := List.getElem?_eq_some_iff.1 hX; rw [List.drop_eq_getElem_cons h1, h2]
            have ed2 : L.drop k = m :: L.drop (k + 1) := by obtain ⟨h1, h2⟩ := List.getElem?_eq_some_iff.1 hLk; rw [List.drop_eq_getElem_cons h1, h2]
            rw [ed1, ed2] at hD
            replace hD := hD.pick 1 rfl
            replace hD := Dt.front (A := [elsD (x :: ys.drop (k + 1)) (m :: L.drop (k + 1))]) (B := [cellsD x.v m.1, elsD (ys.drop (k + 1)) (L.drop (k + 1))]) (D := [rowD (.slice A2 L.length c2) ys]) hD (fun G h => (els_head h.the).2)
            have hxg := cells_sl (hD.get (i := 0) rfl).choose_spec
            obtain ⟨Ax, cx, hxe⟩ := hxg.shape
            clear hxg
            obtain ⟨xa_, xn, xc, xz⟩ := x
            simp only [Value.slice.injEq] at hxe
            obtain ⟨rfl, rfl, rfl⟩ := hxe
            obtain ⟨by_, hrd, -, -, -⟩ := (show OwnO rL _ _ _ _ from (hD.get (i := 2) rfl).choose_spec).rdg
            obtain ⟨oy, eA⟩ := hrd.base (by omega)
            subst eA
            refine wp_seq ?_
            refine wp_block ?_
            refine wp_seq ?_
            refine wp_region_lit ?_
            refine lV (Value.int .i64 (k : Int)) he145 rfl rfl (wanted_plain rfl _) (rn_mv rfl (he145.op rfl) w144) ?_
            intro a146 he146
            clear he145 a145
            refine lV (Value.int .i64 (k : Int)) he146 rfl rfl (wanted_plain rfl _) (rn_asg rfl (he146.op rfl) w144) ?_
            intro a147 he147
            clear he146 a146
            refine wpList_nil ?_
            refine then_ok ?_
            refine wp_region_lit ?_
            refine lV (Value.slice (some ⟨by_, oy, none⟩) L.length c2) he147 rfl rfl (wanted_plain rfl _) (rn_mv rfl (he147.op rfl) w144) ?_
            intro a148 he148
            clear he147 a147
            refine lV (Value.int .i64 (k : Int)) he148 rfl rfl (wanted_plain rfl _) (rn_mv rfl (he148.op rfl) w144) ?_
            intro a149 he149
            clear he148 a148
            refine lV (Value.pointer (some ⟨by_, oy + k * 2, none⟩)) he149 rfl rfl (wanted_plain rfl _) (rn_idxL (i := k) rfl (he149.op rfl) (he149.op rfl) (by omega) (by rw [addr_add]) w144) ?_
            intro a150 he150
            clear he149 a149
            refine lV (Value.pointer (some ⟨by_, oy + k * 2 + 0, none⟩)) he150 rfl rfl (wanted_plain rfl _) (rn_faL0 rfl (he150.op rfl) rfl w144) ?_
            intro a151 he151
            clear he150 a150
            refine lV (Value.slice xa_ m.1.length xc) he151 rfl rfl (wanted_plain rfl _) (rn_ldLn0 (i := k) rfl (he151.op rfl) hrd rfl hX) ?_
            intro a152 he152
            clear he151 a151
            obtain ⟨F_, hsep, hF, hstep⟩ := Dt.step (A := [cellsD (.slice xa_ m.1.length xc) m.1]) (D := [elsD (ys.drop (k + 1)) (L.drop (k + 1)), rowD (.slice (some ⟨by_, oy, none⟩) L.length c2) ys]) hD
            refine lCx he152 rfl rfl Tryd.func30 (by kernel_rfl) rfl rfl (wanted_plain rfl _) rfl (stain_d hsep.the (by omega)) ?_
            rintro _ w153 ⟨rfl, ht⟩
            obtain ⟨hD2, hHs⟩ := hstep _ _ ht
            have hH153 := hHs _ rfl hH144
            clear hHs hstep hsep hF
            clear hD
            have hD := hD2
            clear hD2 ht
            refine ⟨_, rfl, ?_⟩
            intro a154 he154
            clear he152 a152 hH144
            refine wpList_nil ?_
            refine block_ok ?_
            refine then_ok ?_
            refine wp_region_lit ?_
            refine lV (Value.int .i64 ((k + 1 : Nat) : Int)) he154 rfl rfl (wanted_plain rfl _) (rn_add1 rfl (he154.op rfl) (he154.op rfl) (by rw [IntWalk.i64_in _ ⟨by omega, by omega⟩]; omega) w153) ?_
            intro a155 he155
            clear he154 a154
            refine lV (Value.int .i64 ((k + 1 : Nat) : Int)) he155 rfl rfl (wanted_plain rfl _) (rn_mv rfl (he155.op rfl) w153) ?_
            intro a156 he156
            clear he155 a155
            refine wpList_nil ?_
            refine then_ok ?_
            replace hD := hD.pick 1 rfl
            exact ⟨L.length - (k + 1), by omega, k + 1, rfl, by omega, he156.mem ⟨rfl, rfl, rfl, rfl, rfl, trivial⟩, hH153, hD⟩
          · skip
            refine wp_seq ?_
            refine wp_region_lit ?_
            refine lV (Value.bool false) he144 rfl rfl (wanted_plain rfl _) (rn_lss rfl (he144.op rfl) (he144.op rfl) (decide_eq_false (by omega)) w144) ?_
            intro a157 he157
            clear he144 a144
            refine wpList_nil ?_
            refine then_ok ?_
            refine wp_seq ?_
            refine wp_cond_false (he157.op rfl) ?_
            refine wp_exit ?_
            simp only [Exit.then, Exit.inBlock, if_true]
            have he158 : Env 103 [(0, Value.pointer (some ⟨p, 0, none⟩)), (3, Value.pointer (some ⟨p1, 0, none⟩))] a157 := he157.mem ⟨rfl, rfl, trivial⟩
            clear he157
            as_aux_lemma =>
              replace hD := hD.drop.drop
              refine wp_seq ?_
              refine wp_region_held_drew (S := Hp w [⟨p1, 32, #[Value.int .i64 (pl : Int), Value.int .i64 (gn : Int), Value.slice A L.length c]⟩]) (by kernel_rfl) (hH144.drew) (fun _ => ?_)
              have hn : New w144 (World.drew w144) := (Fr.refl _ _).drew
              replace hD := (hD).new hn
              clear hn
              have hH159 := hH144.drew
              clear hH144
              generalize World.drew w144 = w159 at *
              refine hV (fuel := 5) (i := 0) (Value.pointer (some ⟨p, 0, none⟩)) he158 rfl rfl rfl (by kernel_rfl) (by kernel_rfl) (by kernel_rfl) (fun _ _ _ h => h) (wanted_plain rfl _) (fun w' _ => rn_mv rfl (he158.op rfl) w') hH159 ?_
              intro a160 he160
              clear he158 a157
              refine hV (fuel := 4) (i := 2) (Value.pointer (some ⟨p1, 2, none⟩)) he160 rfl rfl rfl (by kernel_rfl) (by kernel_rfl) (by kernel_rfl) (fun _ _ _ h => h) (wanted_plain rfl _) (fun w' _ => rn_faQ2 rfl (he160.op rfl) rfl w') hH159 ?_
              intro a161 he161
              clear he160 a160
              refine hV (fuel := 3) (i := 3) (Value.slice A L.length c) he161 rfl rfl rfl (by kernel_rfl) (by kernel_rfl) (by kernel_rfl) (fun _ _ _ h => h) (wanted_plain rfl _) (fun w' hw' => rn_ldLs rfl (he161.op rfl) (hw'.at (i := 0) rfl) rfl) hH159 ?_
              intro a162 he162
              clear he161 a161
              refine hC (fuel := 2) (i := 1) he162 (by kernel_rfl) rfl rfl rfl Tryd.func23 (by kernel_rfl) rfl rfl (wanted_plain rfl _) rfl (lines_b F p pl gn L w159 ((shD _ _ _ _).fr hs hD.fr (fun _ _ h => h)) hD.tab) ?_
              rintro _ w163 ⟨A3, c3, rfl, ht⟩
              have hD2 := hD.made ht
              have hH163 := hH159.call ht.new
              clear hD
              have hD := hD2
              clear hD2 ht
              refine ⟨_, rfl, hH163, ?_⟩
              intro a164 he164
              clear he162 a162 hH159
              refine hC (fuel := 1) (i := 4) he164 (by kernel_rfl) rfl rfl rfl Tryd.func27 (by kernel_rfl) rfl rfl (wanted_plain rfl _) rfl (all_b _ _ L L true (by simp) hok.big hok.big (by omega) (by omega) w163 (lines_lns (hD.get (i := 0) rfl).choose_spec).r (hr0.new hH163.new)) ?_
              rintro _ w165 ⟨rfl, hn⟩
              have hH165 := hH163.call hn
              replace hD := (hD).new hn
              refine ⟨_, rfl, hH165, ?_⟩
              intro a166 he166
              clear he164 a164 hH163 hn
              refine hV (fuel := 0) (i := 5) (Value.bool true) he166 rfl rfl rfl (by kernel_rfl) (by kernel_rfl) (by kernel_rfl) (fun _ _ _ h => h) (wanted_plain rfl _) (fun w' _ => rn_asg rfl (he166.op rfl) w') hH165 ?_
              intro a167 he167
              clear he166 a166
              refine wpAnyH_done (by kernel_rfl) ?_ _
              refine then_ok ?_
              refine wp_ret ?_
              try simp only [Exit.then, Exit.inBlock]
              exact ret_env rfl he167 rfl ⟨rfl, hD.fr⟩
end Go.Proofs.YtjnghaoboopflaaDoor
