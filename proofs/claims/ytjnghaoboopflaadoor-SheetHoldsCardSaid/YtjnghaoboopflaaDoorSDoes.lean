/-
  The law's calls: does.
-/
import Derived.Test.YtjnghaoboopflaaDoorA12
namespace Go.Proofs.YtjnghaoboopflaaDoor
open Go.RowKit

set_option linter.unusedSimpArgs false in
set_option maxRecDepth 100000 in
set_option maxHeartbeats 1600000 in
theorem does_b (F : FP) (p pl gn : Nat) (L : List Ln) (A : Option Addr) (c : Nat) (wh i : Int) (x : Value) (l : List Ce) (s : Bool) (w : World) (hsep : SepL [shD p L pl gn, rdD (.slice A L.length c) L] w F) (hF : ∀ k, F k → 2 ≤ k ∧ k < w.heap.size) (hT : Tab w) (hx : SlF w (fun k => ¬ F k) x l) (hl : l.length ≤ 1000000) :
    Calls Tryd.prog 11 #[.pointer (some ⟨p, 0, none⟩), Value.agg #[Value.int .i64 (pl : Int), Value.int .i64 (gn : Int), Value.slice A L.length c], .agg #[.int .i64 wh, .int .i64 i, x, .bool s]] w fun e w' => ∃ (p' : Nat) (L' : List Ln) (gn' : Nat) (A' : Option Addr) (c' : Nat), e = .returned (.tuple #[.pointer (some ⟨p', 0, none⟩), .agg #[.int .i64 (pl : Int), .int .i64 (gn' : Int), .slice A' L'.length c'], .bool true]) ∧ Turned [shD p' L' pl gn', rdD (.slice A' L'.length c') L'] F w w' := by
  obtain ⟨B, cb, e_⟩ := hx.sl.shape
  subst e_
  refine calls_args (vl := [Value.pointer (some ⟨p, 0, none⟩), Value.agg #[Value.int .i64 (pl : Int), Value.int .i64 (gn : Int), Value.slice A L.length c], Value.agg #[Value.int .i64 wh, Value.int .i64 i, Value.slice B l.length cb, Value.bool s]]) 134 Tryd.func11 rfl Tryd.ntmps11 (by kernel_rfl) (fun a he => ?_)
  have he0 : Env 134 [(0, Value.pointer (some ⟨p, 0, none⟩)), (1, Value.agg #[Value.int .i64 (pl : Int), Value.int .i64 (gn : Int), Value.slice A L.length c]), (2, Value.agg #[Value.int .i64 wh, Value.int .i64 i, Value.slice B l.length cb, Value.bool s])] a := he
  clear he
  have hH := Hp.bare w
  have hD := Dt.begin hT hsep hF
  have hok := sh_ok (hD.get (i := 0) rfl).choose_spec
  refine wp_seq ?_
  refine wp_region_lit ?_
  refine lNewP (fun p => .pointer (some ⟨p, 0, none⟩)) he0 hH rfl rfl (wanted_plain rfl _) (rn_boxQ rfl (he0.op rfl) w) ?_
  intro p1 w1 a2 hp hn hH1 he2
  replace hD := hD.cons hn hp (hH1.at (i := 0) rfl).lt
  clear he0 a hH hn hp
  refine lNewP (fun p => .pointer (some ⟨p, 0, none⟩)) he2 hH1 rfl rfl (wanted_plain rfl _) (rn_boxA rfl (he2.op rfl) w1) ?_
  intro p3 w3 a4 hp hn hH3 he4
  replace hD := hD.cons hn hp (hH3.at (i := 0) rfl).lt
  clear he2 a2 hH1 hn hp
  refine lV (Value.pointer none) he4 rfl rfl (wanted_plain rfl _) (rn_asg rfl (he4.op rfl) w3) ?_
  intro a5 he5
  clear he4 a4
  refine lNewP (fun p => .pointer (some ⟨p, 0, none⟩)) he5 hH3 rfl rfl (wanted_plain rfl _) (rn_allocQ rfl w3) ?_
  intro p6 w6 a7 hp hn hH6 he7
  replace hD := hD.cons hn hp (hH6.at (i := 0) rfl).lt
  clear he5 a5 hH3 hn hp
  refine lV (Value.bool false) he7 rfl rfl (wanted_plain rfl _) (rn_asg rfl (he7.op rfl) w6) ?_
  intro a8 he8
  clear he7 a7
  refine wpList_nil ?_
  refine then_ok ?_
  refine wp_seq ?_
  refine wp_region_lit ?_
  refine lV (Value.pointer (some ⟨p3, 2, none⟩)) he8 rfl rfl (wanted_plain rfl _) (rn_faA2 rfl (he8.op rfl) rfl w6) ?_
  intro a9 he9
  clear he8 a8
  refine lV (Value.agg #[Value.slice B l.length cb, Value.bool s]) he9 rfl rfl (wanted_plain rfl _) (rn_ldp [Value.slice B l.length cb, Value.bool s] rfl (he9.op rfl) undL rfl infoL2 (hH6.at (i := 1) rfl) rfl) ?_
  intro a10 he10
  clear he9 a9
  refine lCx he10 rfl rfl Tryd.func28 (by kernel_rfl) rfl rfl (wanted_plain rfl _) rfl (rcopy_d _ l s hl w6 (hx.fr hD.fr (fun _ h => h)).sl) ?_
  rintro _ w11 ⟨Ao, co, rfl, ht⟩
  have hD2 := hD.made ht
  have hH11 := hH6.call ht.new
  clear hD
  have hD := hD2
  clear hD2 ht
  refine ⟨_, rfl, ?_⟩
  intro a12 he12
  clear he10 a10 hH6
  refine lNewP (fun p => .pointer (some ⟨p, 0, none⟩)) he12 hH11 rfl rfl (wanted_plain rfl _) (rn_allocL rfl w11) ?_
  intro p13 w13 a14 hp hn hH13 he14
  replace hD := hD.cons hn hp (hH13.at (i := 0) rfl).lt
  clear he12 a12 hH11 hn hp
  refine lSetF 0 #[Value.slice Ao l.length co, Value.bool s] (cs := #[Value.slice Ao l.length co, Value.bool s]) he14 hH13 rfl (wanted_plain rfl _) rfl rfl rfl rfl rfl (by kernel_rfl) (by kernel_rfl) (by kernel_rfl) rfl ?_
  intro w15 a16 hH15 hf he16
  replace hD := hD.setb (i := 0) rfl rfl hf
  replace hH15 : Hp (bare w) [⟨p13, 35, #[Value.slice Ao l.length co, Value.bool s]⟩, ⟨p6, 32, #[Value.int .i64 0, Value.int .i64 0, Value.slice none 0 0]⟩, ⟨p3, 37, #[Value.int .i64 wh, Value.int .i64 i, Value.slice B l.length cb, Value.bool s]⟩, ⟨p1, 32, #[Value.int .i64 (pl : Int), Value.int .i64 (gn : Int), Value.slice A L.length c]⟩] w15 := hH15
  clear hf
  clear he14 a14 hH13
  refine wpList_nil ?_
  refine then_ok ?_
  have he17 : Env 134 [(9, Value.pointer (some ⟨p13, 0, none⟩)), (8, Value.bool false), (7, Value.pointer (some ⟨p6, 0, none⟩)), (6, Value.pointer none), (5, Value.pointer (some ⟨p3, 0, none⟩)), (4, Value.pointer (some ⟨p1, 0, none⟩)), (0, Value.pointer (some ⟨p, 0, none⟩))] a16 := he16.mem ⟨rfl, rfl, rfl, rfl, rfl, rfl, rfl, trivial⟩
  clear he16
  as_aux_lemma =>
    refine wp_seq ?_
    refine wp_seq ?_
    refine wp_region_lit ?_
    refine lV (Value.pointer (some ⟨p3, 0, none⟩)) he17 rfl rfl (wanted_plain rfl _) (rn_faA0 rfl (he17.op rfl) rfl w15) ?_
    intro a18 he18
    clear he17 a16
    refine lV (Value.int .i64 wh) he18 rfl rfl (wanted_plain rfl _) (rn_ld1 rfl (he18.op rfl) Tryd.underlying3 (hH15.at (i := 2) rfl) rfl) ?_
    intro a19 he19
    clear he18 a18
    refine wpList_nil ?_
    refine then_ok ?_
    refine wp_block ?_
    by_cases hw0 : wh = 0
    · skip
      refine wp_seq ?_
      refine wp_region_lit ?_
      refine lV (Value.bool true) he19 rfl rfl (wanted_plain rfl _) (rn_eqI rfl (he19.op rfl) (he19.op rfl) (by simp [hw0]) w15) ?_
      intro a20 he20
      clear he19 a19
      refine lV (Value.bool true) he20 rfl rfl (wanted_plain rfl _) (rn_asg rfl (he20.op rfl) w15) ?_
      intro a21 he21
      clear he20 a20
      refine wpList_nil ?_
      refine then_ok ?_
      refine wp_cond_true (he21.op rfl) ?_
      refine wp_seq ?_
      refine wp_region_lit ?_
      refine lV (Value.agg #[Value.int .i64 (pl : Int), Value.int .i64 (gn : Int), Value.slice A L.length c]) he21 rfl rfl (wanted_plain rfl _) (rn_ldp [Value.int .i64 (pl : Int), Value.int .i64 (gn : Int), Value.slice A L.length c] rfl (he21.op rfl) undQ rfl infoQ3 (hH15.at (i := 3) rfl) rfl) ?_
      intro a22 he22
      clear he21 a21
      refine lV (Value.pointer (some ⟨p3, 2, none⟩)) he22 rfl rfl (wanted_plain rfl _) (rn_faA2 rfl (he22.op rfl) rfl w15) ?_
      intro a23 he23
      clear he22 a22
      refine lV (Value.agg #[Value.slice B l.length cb, Value.bool s]) he23 rfl rfl (wanted_plain rfl _) (rn_ldp [Value.slice B l.length cb, Value.bool s] rfl (he23.op rfl) undL rfl infoL2 (hH15.at (i := 2) rfl) rfl) ?_
      intro a24 he24
      clear he23 a23
      replace hD := hD.pick 2 rfl
      obtain ⟨F_, hsep, hF, hstep⟩ := Dt.step (A := [rdD (Value.slice A L.length c) L]) (D := [cellsD (.slice Ao l.length co) l, shD p L pl gn]) hD
      refine lCx he24 rfl rfl Tryd.func29 (by kernel_rfl) rfl rfl (wanted_plain rfl _) rfl (rpush_b F_ pl gn L A c _ l s w15 hsep.the hF hok hD.tab (hx.fr hD.fr (fun _ h => h)).sl) ?_
      rintro _ w25 ⟨A2, c2, rfl, ht⟩
      obtain ⟨hD2, hHs⟩ := hstep _ _ ht
      have hH25 := hHs _ rfl hH15
      clear hHs hstep hsep hF
      clear hD
      have hD := hD2
      clear hD2 ht
      refine ⟨_, rfl, ?_⟩
      intro a26 he26
      clear he24 a24 hH15
      refine lV (Value.tuple #[Value.agg #[Value.int .i64 (pl : Int), Value.int .i64 (gn : Int), Value.slice A2 (pushS L pl gn (l, s)).1.length c2], Value.int .i64 (pushS L pl gn (l, s)).2]) he26 rfl rfl (wanted_plain rfl _) (rn_mv rfl (he26.op rfl) w25) ?_
      intro a27 he27
      clear he26 a26
      refine lV (Value.agg #[Value.int .i64 (pl : Int), Value.int .i64 (gn : Int), Value.slice A2 (pushS L pl gn (l, s)).1.length c2]) he27 rfl rfl (wanted_plain rfl _) (rn_ext rfl (he27.op rfl) rfl w25) ?_
      intro a28 he28
      clear he27 a27
      refine lV (Value.int .i64 (pushS L pl gn (l, s)).2) he28 rfl rfl (wanted_plain rfl _) (rn_ext rfl (he28.op rfl) rfl w25) ?_
      intro a29 he29
      clear he28 a28
      refine lNewP (fun p => .pointer (some ⟨p, 0, none⟩)) he29 hH25 rfl rfl (wanted_plain rfl _) (rn_allocQ rfl w25) ?_
      intro p30 w30 a31 hp hn hH30 he31
      replace hD := hD.cons hn hp (hH30.at (i := 0) rfl).lt
      clear he29 a29 hH25 hn hp
      refine lSetF 0 #[Value.int .i64 (pl : Int), Value.int .i64 (gn : Int), Value.slice A2 (pushS L pl gn (l, s)).1.length c2] (cs := #[Value.int .i64 (pl : Int), Value.int .i64 (gn : Int), Value.slice A2 (pushS L pl gn (l, s)).1.length c2]) he31 hH30 rfl (wanted_plain rfl _) rfl rfl rfl rfl rfl (by kernel_rfl) (by kernel_rfl) (by kernel_rfl) rfl ?_
      intro w32 a33 hH32 hf he33
      replace hD := hD.setb (i := 0) rfl rfl hf
      replace hH32 : Hp (bare w) [⟨p30, 32, #[Value.int .i64 (pl : Int), Value.int .i64 (gn : Int), Value.slice A2 (pushS L pl gn (l, s)).1.length c2]⟩, ⟨p13, 35, #[Value.slice Ao l.length co, Value.bool s]⟩, ⟨p6, 32, #[Value.int .i64 0, Value.int .i64 0, Value.slice none 0 0]⟩, ⟨p3, 37, #[Value.int .i64 wh, Value.int .i64 i, Value.slice B l.length cb, Value.bool s]⟩, ⟨p1, 32, #[Value.int .i64 (pl : Int), Value.int .i64 (gn : Int), Value.slice A L.length c]⟩] w32 := hH32
      clear hf
      clear he31 a31 hH30
      refine lV (Value.int .i64 (pushS L pl gn (l, s)).2) he33 rfl rfl (wanted_plain rfl _) (rn_asg rfl (he33.op rfl) w32) ?_
      intro a34 he34
      clear he33 a33
      refine wpList_nil ?_
      refine then_ok ?_
      refine wp_seq ?_
      refine wp_region_lit ?_
      refine lV (Value.pointer (some ⟨p, 0, none⟩)) he34 rfl rfl (wanted_plain rfl _) (rn_mv rfl (he34.op rfl) w32) ?_
      intro a35 he35
      clear he34 a34
      refine lV (Value.agg #[Value.slice Ao l.length co, Value.bool s]) he35 rfl rfl (wanted_plain rfl _) (rn_ldp [Value.slice Ao l.length co, Value.bool s] rfl (he35.op rfl) undL rfl infoL2 (hH32.at (i := 1) rfl) rfl) ?_
      intro a36 he36
      clear he35 a35
      have hown := (cells_sl (hD.get (i := 1) rfl).choose_spec)
      replace hD := hD.pick 2 rfl
      obtain ⟨F_, hsep, hF, hstep⟩ := Dt.step (A := [shD p L pl gn]) (D := [rdD (.slice A2 (pushS L pl gn (l, s)).1.length c2) (pushS L pl gn (l, s)).1, cellsD (.slice Ao l.length co) l]) hD
      refine lCx he36 rfl rfl Tryd.func13 (by kernel_rfl) rfl rfl (wanted_plain rfl _) rfl (push_b F_ p pl gn L _ l s w32 hsep.the hF hD.tab hown) ?_
      rintro _ w37 ⟨rfl, ht⟩
      obtain ⟨hD2, hHs⟩ := hstep _ _ ht
      have hH37 := hHs _ rfl hH32
      clear hHs hstep hsep hF
      clear hD
      have hD := hD2
      clear hD2 ht
      refine ⟨_, rfl, ?_⟩
      intro a38 he38
      clear he36 a36 hH32
      clear hown
      refine lV (Value.int .i64 (pushS L pl gn (l, s)).2) he38 rfl rfl (wanted_plain rfl _) (rn_asg rfl (he38.op rfl) w37) ?_
      intro a39 he39
      clear he38 a38
      refine wpList_nil ?_
      refine then_ok ?_
      refine wp_seq ?_
      refine wp_region_lit ?_
      refine lV (Value.pointer (some ⟨p13, 0, none⟩)) he39 rfl rfl (wanted_plain rfl _) (rn_faL0 rfl (he39.op rfl) rfl w37) ?_
      intro a40 he40
      clear he39 a39
      refine lV (Value.slice Ao l.length co) he40 rfl rfl (wanted_plain rfl _) (rn_ldS rfl (he40.op rfl) (hH37.at (i := 1) rfl) rfl) ?_
      intro a41 he41
      clear he40 a40
      replace hD := hD.pick 2 rfl
      obtain ⟨F_, hsep, hF, hstep⟩ := Dt.step (A := [cellsD (.slice Ao l.length co) l]) (D := [shD p (pushS L pl gn (l, s)).1 pl gn, rdD (.slice A2 (pushS L pl gn (l, s)).1.length c2) (pushS L pl gn (l, s)).1]) hD
      refine lCx he41 rfl rfl Tryd.func30 (by kernel_rfl) rfl rfl (wanted_plain rfl _) rfl (stain_d hsep.the hl) ?_
      rintro _ w42 ⟨rfl, ht⟩
      obtain ⟨hD2, hHs⟩ := hstep _ _ ht
      have hH42 := hHs _ rfl hH37
      clear hHs hstep hsep hF
      clear hD
      have hD := hD2
      clear hD2 ht
      refine ⟨_, rfl, ?_⟩
      intro a43 he43
      clear he41 a41 hH37
      refine wpList_nil ?_
      refine then_ok ?_
      refine wp_seq ?_
      refine wp_region_held_drew (S := Hp (bare w) [⟨p30, 32, #[Value.int .i64 (pl : Int), Value.int .i64 (gn : Int), Value.slice A2 (pushS L pl gn (l, s)).1.length c2]⟩, ⟨p13, 35, #[Value.slice Ao l.length co, Value.bool s]⟩, ⟨p3, 37, #[Value.int .i64 wh, Value.int .i64 i, Value.slice B l.length cb, Value.bool s]⟩, ⟨p1, 32, #[Value.int .i64 (pl : Int), Value.int .i64 (gn : Int), Value.slice A L.length c]⟩]) (by kernel_rfl) ((hH42.drew).drop1 2 rfl) (fun _ => ?_)
      have hn : New w42 (World.drew w42) := (Fr.refl _ _).drew
      replace hD := (hD).new hn
      clear hn
      have hH44 := hH42.drew
      clear hH42
      generalize World.drew w42 = w44 at *
      refine hV (fuel := 7) (i := 0) (Value.pointer (some ⟨p, 0, none⟩)) he43 rfl rfl rfl (by kernel_rfl) (by kernel_rfl) (by kernel_rfl) (fun _ _ _ h => h) (wanted_plain rfl _) (fun w' _ => rn_mv rfl (he43.op rfl) w') (hH44.drop1 2 rfl) ?_
      intro a45 he45
      clear he43 a43
      refine hV (fuel := 6) (i := 1) (Value.agg #[Value.int .i64 (pl : Int), Value.int .i64 (gn : Int), Value.slice A2 (pushS L pl gn (l, s)).1.length c2]) he45 rfl rfl rfl (by kernel_rfl) (by kernel_rfl) (by kernel_rfl) (fun _ _ _ h => h) (wanted_plain rfl _) (fun w' hw' => rn_ldp [Value.int .i64 (pl : Int), Value.int .i64 (gn : Int), Value.slice A2 (pushS L pl gn (l, s)).1.length c2] rfl (he45.op rfl) undQ rfl infoQ3 (hw'.at (i := 0) rfl) rfl) (hH44.drop1 2 rfl) ?_
      intro a46 he46
      clear he45 a45
      refine hV (fuel := 5) (i := 2) (Value.int .i64 (pushS L pl gn (l, s)).2) he46 rfl rfl rfl (by kernel_rfl) (by kernel_rfl) (by kernel_rfl) (fun _ _ _ h => h) (wanted_plain rfl _) (fun w' _ => rn_mv rfl (he46.op rfl) w') (hH44.drop1 2 rfl) ?_
      intro a47 he47
      clear he46 a46
      refine hV (fuel := 4) (i := 3) (Value.int .i64 (pushS L pl gn (l, s)).2) he47 rfl rfl rfl (by kernel_rfl) (by kernel_rfl) (by kernel_rfl) (fun _ _ _ h => h) (wanted_plain rfl _) (fun w' _ => rn_mv rfl (he47.op rfl) w') (hH44.drop1 2 rfl) ?_
      intro a48 he48
      clear he47 a47
      refine hV (fuel := 3) (i := 4) (Value.bool true) he48 rfl rfl rfl (by kernel_rfl) (by kernel_rfl) (by kernel_rfl) (fun _ _ _ h => h) (wanted_plain rfl _) (fun w' _ => rn_eqI rfl (he48.op rfl) (he48.op rfl) (by simp) w') (hH44.drop1 2 rfl) ?_
      intro a49 he49
      clear he48 a48
      refine hV (fuel := 2) (i := 5) (Value.pointer (some ⟨p, 0, none⟩)) he49 rfl rfl rfl (by kernel_rfl) (by kernel_rfl) (by kernel_rfl) (fun _ _ _ h => h) (wanted_plain rfl _) (fun w' _ => rn_asg rfl (he49.op rfl) w') (hH44.drop1 2 rfl) ?_
      intro a50 he50
      clear he49 a49
      refine hSetV (fuel := 1) (n := 6) 2 #[Value.int .i64 (pl : Int), Value.int .i64 (gn : Int), Value.slice A2 (pushS L pl gn (l, s)).1.length c2] (cs := #[Value.int .i64 (pl : Int), Value.int .i64 (gn : Int), Value.slice A2 (pushS L pl gn (l, s)).1.length c2]) he50 hH44 (by kernel_rfl) rfl rfl (wanted_plain rfl _) rfl rfl rfl rfl rfl (by kernel_rfl) (by kernel_rfl) (by kernel_rfl) rfl ?_
      intro w51 a52 hH51 hf he52
      replace hD := hD.setb (i := 2) rfl rfl hf
      replace hH51 : Hp (bare w) [⟨p30, 32, #[Value.int .i64 (pl : Int), Value.int .i64 (gn : Int), Value.slice A2 (pushS L pl gn (l, s)).1.length c2]⟩, ⟨p13, 35, #[Value.slice Ao l.length co, Value.bool s]⟩, ⟨p6, 32, #[Value.int .i64 (pl : Int), Value.int .i64 (gn : Int), Value.slice A2 (pushS L pl gn (l, s)).1.length c2]⟩, ⟨p3, 37, #[Value.int .i64 wh, Value.int .i64 i, Value.slice B l.length cb, Value.bool s]⟩, ⟨p1, 32, #[Value.int .i64 (pl : Int), Value.int .i64 (gn : Int), Value.slice A L.length c]⟩] w51 := hH51
      refine ⟨(hH51.drop1 2 rfl), ?_⟩
      clear hf
      clear he50 a50 hH44
      refine hV (fuel := 0) (i := 7) (Value.bool true) he52 rfl rfl rfl (by kernel_rfl) (by kernel_rfl) (by kernel_rfl) (fun _ _ _ h => h) (wanted_plain rfl _) (fun w' _ => rn_asg rfl (he52.op rfl) w') (hH51.drop1 2 rfl) ?_
      intro a53 he53
      clear he52 a52
      refine wpAnyH_done (by kernel_rfl) ?_ _
      refine then_ok ?_
      replace hD := hD.pick 1 rfl
      replace hD := hD.pick 1 rfl
      refine wp_ret ?_
      try simp only [Exit.then, Exit.inBlock, Exit.noGoto]
      exact ret_tct rfl he53 rfl rfl rfl (hH51.at (i := 2) rfl) undQ rfl infoQ3 ⟨p, (pushS L pl gn (l, s)).1, gn, A2, c2, rfl, (Dt.first (A := [shD p (pushS L pl gn (l, s)).1 pl gn, rdD (.slice A2 (pushS L pl gn (l, s)).1.length c2) (pushS L pl gn (l, s)).1]) hD).turned⟩
    · skip
      refine wp_seq ?_
      refine wp_region_lit ?_
      refine lV (Value.bool false) he19 rfl rfl (wanted_plain rfl _) (rn_eqI rfl (he19.op rfl) (he19.op rfl) (by simpa using hw0) w15) ?_
      intro a54 he54
      clear he19 a19
      refine lV (Value.bool false) he54 rfl rfl (wanted_plain rfl _) (rn_asg rfl (he54.op rfl) w15) ?_
      intro a55 he55
      clear he54 a54
      refine wpList_nil ?_
      refine then_ok ?_
      refine wp_cond_false (he55.op rfl) ?_
      by_cases hw1 : wh = 1
      · skip
        refine wp_seq ?_
        refine wp_region_lit ?_
        refine lV (Value.bool true) he55 rfl rfl (wanted_plain rfl _) (rn_eqI rfl (he55.op rfl) (he55.op rfl) (by simp [hw1]) w15) ?_
        intro a56 he56
        clear he55 a55
        refine lV (Value.bool true) he56 rfl rfl (wanted_plain rfl _) (rn_asg rfl (he56.op rfl) w15) ?_
        intro a57 he57
        clear he56 a56
        refine wpList_nil ?_
        refine then_ok ?_
        refine wp_cond_true (he57.op rfl) ?_
        refine wp_seq ?_
        refine wp_region_lit ?_
        refine lV (Value.agg #[Value.int .i64 (pl : Int), Value.int .i64 (gn : Int), Value.slice A L.length c]) he57 rfl rfl (wanted_plain rfl _) (rn_ldp [Value.int .i64 (pl : Int), Value.int .i64 (gn : Int), Value.slice A L.length c] rfl (he57.op rfl) undQ rfl infoQ3 (hH15.at (i := 3) rfl) rfl) ?_
        intro a58 he58
        clear he57 a57
        refine lV (Value.pointer (some ⟨p3, 1, none⟩)) he58 rfl rfl (wanted_plain rfl _) (rn_faA1 rfl (he58.op rfl) rfl w15) ?_
        intro a59 he59
        clear he58 a58
        refine lV (Value.int .i64 i) he59 rfl rfl (wanted_plain rfl _) (rn_ld1 rfl (he59.op rfl) Tryd.underlying3 (hH15.at (i := 2) rfl) rfl) ?_
        intro a60 he60
        clear he59 a59
        refine lV (Value.pointer (some ⟨p3, 2, none⟩)) he60 rfl rfl (wanted_plain rfl _) (rn_faA2 rfl (he60.op rfl) rfl w15) ?_
        intro a61 he61
        clear he60 a60
        refine lV (Value.agg #[Value.slice B l.length cb, Value.bool s]) he61 rfl rfl (wanted_plain rfl _) (rn_ldp [Value.slice B l.length cb, Value.bool s] rfl (he61.op rfl) undL rfl infoL2 (hH15.at (i := 2) rfl) rfl) ?_
        intro a62 he62
        clear he61 a61
        replace hD := hD.pick 2 rfl
        obtain ⟨F_, hsep, hF, hstep⟩ := Dt.step (A := [rdD (Value.slice A L.length c) L]) (D := [cellsD (.slice Ao l.length co) l, shD p L pl gn]) hD
        refine lCx he62 rfl rfl Tryd.func31 (by kernel_rfl) rfl rfl (wanted_plain rfl _) rfl (rset_b F_ pl gn L A c i _ l s w15 hsep.the hF hok hD.tab (hx.fr hD.fr (fun _ h => h)).sl) ?_
        rintro _ w63 ⟨A2, c2, rfl, ht⟩
        obtain ⟨hD2, hHs⟩ := hstep _ _ ht
        have hH63 := hHs _ rfl hH15
        clear hHs hstep hsep hF
        clear hD
        have hD := hD2
        clear hD2 ht
        refine ⟨_, rfl, ?_⟩
        intro a64 he64
        clear he62 a62 hH15
        refine lV (Value.tuple #[Value.agg #[Value.int .i64 (pl : Int), Value.int .i64 (gn : Int), Value.slice A2 (setS L i (l, s)).1.length c2], Value.int .i64 (setS L i (l, s)).2]) he64 rfl rfl (wanted_plain rfl _) (rn_mv rfl (he64.op rfl) w63) ?_
        intro a65 he65
        clear he64 a64
        refine lV (Value.agg #[Value.int .i64 (pl : Int), Value.int .i64 (gn : Int), Value.slice A2 (setS L i (l, s)).1.length c2]) he65 rfl rfl (wanted_plain rfl _) (rn_ext rfl (he65.op rfl) rfl w63) ?_
        intro a66 he66
        clear he65 a65
        refine lV (Value.int .i64 (setS L i (l, s)).2) he66 rfl rfl (wanted_plain rfl _) (rn_ext rfl (he66.op rfl) rfl w63) ?_
        intro a67 he67
        clear he66 a66
        refine lNewP (fun p => .pointer (some ⟨p, 0, none⟩)) he67 hH63 rfl rfl (wanted_plain rfl _) (rn_allocQ rfl w63) ?_
        intro p68 w68 a69 hp hn hH68 he69
        replace hD := hD.cons hn hp (hH68.at (i := 0) rfl).lt
        clear he67 a67 hH63 hn hp
        refine lSetF 0 #[Value.int .i64 (pl : Int), Value.int .i64 (gn : Int), Value.slice A2 (setS L i (l, s)).1.length c2] (cs := #[Value.int .i64 (pl : Int), Value.int .i64 (gn : Int), Value.slice A2 (setS L i (l, s)).1.length c2]) he69 hH68 rfl (wanted_plain rfl _) rfl rfl rfl rfl rfl (by kernel_rfl) (by kernel_rfl) (by kernel_rfl) rfl ?_
        intro w70 a71 hH70 hf he71
        replace hD := hD.setb (i := 0) rfl rfl hf
        replace hH70 : Hp (bare w) [⟨p68, 32, #[Value.int .i64 (pl : Int), Value.int .i64 (gn : Int), Value.slice A2 (setS L i (l, s)).1.length c2]⟩, ⟨p13, 35, #[Value.slice Ao l.length co, Value.bool s]⟩, ⟨p6, 32, #[Value.int .i64 0, Value.int .i64 0, Value.slice none 0 0]⟩, ⟨p3, 37, #[Value.int .i64 wh, Value.int .i64 i, Value.slice B l.length cb, Value.bool s]⟩, ⟨p1, 32, #[Value.int .i64 (pl : Int), Value.int .i64 (gn : Int), Value.slice A L.length c]⟩] w70 := hH70
        clear hf
        clear he69 a69 hH68
        refine lV (Value.int .i64 (setS L i (l, s)).2) he71 rfl rfl (wanted_plain rfl _) (rn_asg rfl (he71.op rfl) w70) ?_
        intro a72 he72
        clear he71 a71
        refine wpList_nil ?_
        refine then_ok ?_
        refine wp_seq ?_
        refine wp_region_lit ?_
        refine lV (Value.pointer (some ⟨p, 0, none⟩)) he72 rfl rfl (wanted_plain rfl _) (rn_mv rfl (he72.op rfl) w70) ?_
        intro a73 he73
        clear he72 a72
        refine lV (Value.pointer (some ⟨p3, 1, none⟩)) he73 rfl rfl (wanted_plain rfl _) (rn_faA1 rfl (he73.op rfl) rfl w70) ?_
        intro a74 he74
        clear he73 a73
        refine lV (Value.int .i64 i) he74 rfl rfl (wanted_plain rfl _) (rn_ld1 rfl (he74.op rfl) Tryd.underlying3 (hH70.at (i := 3) rfl) rfl) ?_
        intro a75 he75
        clear he74 a74
        refine lV (Value.agg #[Value.slice Ao l.length co, Value.bool s]) he75 rfl rfl (wanted_plain rfl _) (rn_ldp [Value.slice Ao l.length co, Value.bool s] rfl (he75.op rfl) undL rfl infoL2 (hH70.at (i := 1) rfl) rfl) ?_
        intro a76 he76
        clear he75 a75
        have hown := (cells_sl (hD.get (i := 1) rfl).choose_spec)
        replace hD := hD.pick 2 rfl
        obtain ⟨F_, hsep, hF, hstep⟩ := Dt.step (A := [shD p L pl gn]) (D := [rdD (.slice A2 (setS L i (l, s)).1.length c2) (setS L i (l, s)).1, cellsD (.slice Ao l.length co) l]) hD
        refine lCx he76 rfl rfl Tryd.func21 (by kernel_rfl) rfl rfl (wanted_plain rfl _) rfl (set_b F_ p pl gn L i _ l s w70 hsep.the hF hD.tab hown) ?_
        rintro _ w77 ⟨rfl, ht⟩
        obtain ⟨hD2, hHs⟩ := hstep _ _ ht
        have hH77 := hHs _ rfl hH70
        clear hHs hstep hsep hF
        clear hD
        have hD := hD2
        clear hD2 ht
        refine ⟨_, rfl, ?_⟩
        intro a78 he78
        clear he76 a76 hH70
        clear hown
        refine lV (Value.int .i64 (setS L i (l, s)).2) he78 rfl rfl (wanted_plain rfl _) (rn_asg rfl (he78.op rfl) w77) ?_
        intro a79 he79
        clear he78 a78
        refine wpList_nil ?_
        refine then_ok ?_
        refine wp_seq ?_
        refine wp_region_lit ?_
        refine lV (Value.pointer (some ⟨p13, 0, none⟩)) he79 rfl rfl (wanted_plain rfl _) (rn_faL0 rfl (he79.op rfl) rfl w77) ?_
        intro a80 he80
        clear he79 a79
        refine lV (Value.slice Ao l.length co) he80 rfl rfl (wanted_plain rfl _) (rn_ldS rfl (he80.op rfl) (hH77.at (i := 1) rfl) rfl) ?_
        intro a81 he81
        clear he80 a80
        replace hD := hD.pick 2 rfl
        obtain ⟨F_, hsep, hF, hstep⟩ := Dt.step (A := [cellsD (.slice Ao l.length co) l]) (D := [shD p (setS L i (l, s)).1 pl gn, rdD (.slice A2 (setS L i (l, s)).1.length c2) (setS L i (l, s)).1]) hD
        refine lCx he81 rfl rfl Tryd.func30 (by kernel_rfl) rfl rfl (wanted_plain rfl _) rfl (stain_d hsep.the hl) ?_
        rintro _ w82 ⟨rfl, ht⟩
        obtain ⟨hD2, hHs⟩ := hstep _ _ ht
        have hH82 := hHs _ rfl hH77
        clear hHs hstep hsep hF
        clear hD
        have hD := hD2
        clear hD2 ht
        refine ⟨_, rfl, ?_⟩
        intro a83 he83
        clear he81 a81 hH77
        refine wpList_nil ?_
        refine then_ok ?_
        refine wp_seq ?_
        refine wp_region_held_drew (S := Hp (bare w) [⟨p68, 32, #[Value.int .i64 (pl : Int), Value.int .i64 (gn : Int), Value.slice A2 (setS L i (l, s)).1.length c2]⟩, ⟨p13, 35, #[Value.slice Ao l.length co, Value.bool s]⟩, ⟨p3, 37, #[Value.int .i64 wh, Value.int .i64 i, Value.slice B l.length cb, Value.bool s]⟩, ⟨p1, 32, #[Value.int .i64 (pl : Int), Value.int .i64 (gn : Int), Value.slice A L.length c]⟩]) (by kernel_rfl) ((hH82.drew).drop1 2 rfl) (fun _ => ?_)
        have hn : New w82 (World.drew w82) := (Fr.refl _ _).drew
        replace hD := (hD).new hn
        clear hn
        have hH84 := hH82.drew
        clear hH82
        generalize World.drew w82 = w84 at *
        refine hV (fuel := 7) (i := 0) (Value.pointer (some ⟨p, 0, none⟩)) he83 rfl rfl rfl (by kernel_rfl) (by kernel_rfl) (by kernel_rfl) (fun _ _ _ h => h) (wanted_plain rfl _) (fun w' _ => rn_mv rfl (he83.op rfl) w') (hH84.drop1 2 rfl) ?_
        intro a85 he85
        clear he83 a83
        refine hV (fuel := 6) (i := 1) (Value.agg #[Value.int .i64 (pl : Int), Value.int .i64 (gn : Int), Value.slice A2 (setS L i (l, s)).1.length c2]) he85 rfl rfl rfl (by kernel_rfl) (by kernel_rfl) (by kernel_rfl) (fun _ _ _ h => h) (wanted_plain rfl _) (fun w' hw' => rn_ldp [Value.int .i64 (pl : Int), Value.int .i64 (gn : Int), Value.slice A2 (setS L i (l, s)).1.length c2] rfl (he85.op rfl) undQ rfl infoQ3 (hw'.at (i := 0) rfl) rfl) (hH84.drop1 2 rfl) ?_
        intro a86 he86
        clear he85 a85
        refine hV (fuel := 5) (i := 2) (Value.int .i64 (setS L i (l, s)).2) he86 rfl rfl rfl (by kernel_rfl) (by kernel_rfl) (by kernel_rfl) (fun _ _ _ h => h) (wanted_plain rfl _) (fun w' _ => rn_mv rfl (he86.op rfl) w') (hH84.drop1 2 rfl) ?_
        intro a87 he87
        clear he86 a86
        refine hV (fuel := 4) (i := 3) (Value.int .i64 (setS L i (l, s)).2) he87 rfl rfl rfl (by kernel_rfl) (by kernel_rfl) (by kernel_rfl) (fun _ _ _ h => h) (wanted_plain rfl _) (fun w' _ => rn_mv rfl (he87.op rfl) w') (hH84.drop1 2 rfl) ?_
        intro a88 he88
        clear he87 a87
        refine hV (fuel := 3) (i := 4) (Value.bool true) he88 rfl rfl rfl (by kernel_rfl) (by kernel_rfl) (by kernel_rfl) (fun _ _ _ h => h) (wanted_plain rfl _) (fun w' _ => rn_eqI rfl (he88.op rfl) (he88.op rfl) (by simp) w') (hH84.drop1 2 rfl) ?_
        intro a89 he89
        clear he88 a88
        refine hV (fuel := 2) (i := 5) (Value.pointer (some ⟨p, 0, none⟩)) he89 rfl rfl rfl (by kernel_rfl) (by kernel_rfl) (by kernel_rfl) (fun _ _ _ h => h) (wanted_plain rfl _) (fun w' _ => rn_asg rfl (he89.op rfl) w') (hH84.drop1 2 rfl) ?_
        intro a90 he90
        clear he89 a89
        refine hSetV (fuel := 1) (n := 6) 2 #[Value.int .i64 (pl : Int), Value.int .i64 (gn : Int), Value.slice A2 (setS L i (l, s)).1.length c2] (cs := #[Value.int .i64 (pl : Int), Value.int .i64 (gn : Int), Value.slice A2 (setS L i (l, s)).1.length c2]) he90 hH84 (by kernel_rfl) rfl rfl (wanted_plain rfl _) rfl rfl rfl rfl rfl (by kernel_rfl) (by kernel_rfl) (by kernel_rfl) rfl ?_
        intro w91 a92 hH91 hf he92
        replace hD := hD.setb (i := 2) rfl rfl hf
        replace hH91 : Hp (bare w) [⟨p68, 32, #[Value.int .i64 (pl : Int), Value.int .i64 (gn : Int), Value.slice A2 (setS L i (l, s)).1.length c2]⟩, ⟨p13, 35, #[Value.slice Ao l.length co, Value.bool s]⟩, ⟨p6, 32, #[Value.int .i64 (pl : Int), Value.int .i64 (gn : Int), Value.slice A2 (setS L i (l, s)).1.length c2]⟩, ⟨p3, 37, #[Value.int .i64 wh, Value.int .i64 i, Value.slice B l.length cb, Value.bool s]⟩, ⟨p1, 32, #[Value.int .i64 (pl : Int), Value.int .i64 (gn : Int), Value.slice A L.length c]⟩] w91 := hH91
        refine ⟨(hH91.drop1 2 rfl), ?_⟩
        clear hf
        clear he90 a90 hH84
        refine hV (fuel := 0) (i := 7) (Value.bool true) he92 rfl rfl rfl (by kernel_rfl) (by kernel_rfl) (by kernel_rfl) (fun _ _ _ h => h) (wanted_plain rfl _) (fun w' _ => rn_asg rfl (he92.op rfl) w') (hH91.drop1 2 rfl) ?_
        intro a93 he93
        clear he92 a92
        refine wpAnyH_done (by kernel_rfl) ?_ _
        refine then_ok ?_
        replace hD := hD.pick 1 rfl
        replace hD := hD.pick 1 rfl
        refine wp_ret ?_
        try simp only [Exit.then, Exit.inBlock, Exit.noGoto]
        exact ret_tct rfl he93 rfl rfl rfl (hH91.at (i := 2) rfl) undQ rfl infoQ3 ⟨p, (setS L i (l, s)).1, gn, A2, c2, rfl, (Dt.first (A := [shD p (setS L i (l, s)).1 pl gn, rdD (.slice A2 (setS L i (l, s)).1.length c2) (setS L i (l, s)).1]) hD).turned⟩
      · skip
        refine wp_seq ?_
        refine wp_region_lit ?_
        refine lV (Value.bool false) he55 rfl rfl (wanted_plain rfl _) (rn_eqI rfl (he55.op rfl) (he55.op rfl) (by simpa using hw1) w15) ?_
        intro a94 he94
        clear he55 a55
        refine lV (Value.bool false) he94 rfl rfl (wanted_plain rfl _) (rn_asg rfl (he94.op rfl) w15) ?_
        intro a95 he95
        clear he94 a94
        refine wpList_nil ?_
        refine then_ok ?_
        refine wp_cond_false (he95.op rfl) ?_
        by_cases hw2 : wh = 2
        · skip
          refine wp_seq ?_
          refine wp_region_lit ?_
          refine lV (Value.bool true) he95 rfl rfl (wanted_plain rfl _) (rn_eqI rfl (he95.op rfl) (he95.op rfl) (by simp [hw2]) w15) ?_
          intro a96 he96
          clear he95 a95
          refine lV (Value.bool true) he96 rfl rfl (wanted_plain rfl _) (rn_asg rfl (he96.op rfl) w15) ?_
          intro a97 he97
          clear he96 a96
          refine wpList_nil ?_
          refine then_ok ?_
          refine wp_cond_true (he97.op rfl) ?_
          refine wp_seq ?_
          refine wp_region_lit ?_
          refine lV (Value.agg #[Value.int .i64 (pl : Int), Value.int .i64 (gn : Int), Value.slice A L.length c]) he97 rfl rfl (wanted_plain rfl _) (rn_ldp [Value.int .i64 (pl : Int), Value.int .i64 (gn : Int), Value.slice A L.length c] rfl (he97.op rfl) undQ rfl infoQ3 (hH15.at (i := 3) rfl) rfl) ?_
          intro a98 he98
          clear he97 a97
          refine lV (Value.pointer (some ⟨p3, 1, none⟩)) he98 rfl rfl (wanted_plain rfl _) (rn_faA1 rfl (he98.op rfl) rfl w15) ?_
          intro a99 he99
          clear he98 a98
          refine lV (Value.int .i64 i) he99 rfl rfl (wanted_plain rfl _) (rn_ld1 rfl (he99.op rfl) Tryd.underlying3 (hH15.at (i := 2) rfl) rfl) ?_
          intro a100 he100
          clear he99 a99
          replace hD := hD.pick 2 rfl
          obtain ⟨F_, hsep, hF, hstep⟩ := Dt.step (A := [rdD (Value.slice A L.length c) L]) (D := [cellsD (.slice Ao l.length co) l, shD p L pl gn]) hD
          refine lCx he100 rfl rfl Tryd.func32 (by kernel_rfl) rfl rfl (wanted_plain rfl _) rfl (rdrop_b F_ pl gn L A c i w15 hsep.the hF hok hD.tab) ?_
          rintro _ w101 ⟨A2, c2, rfl, ht⟩
          obtain ⟨hD2, hHs⟩ := hstep _ _ ht
          have hH101 := hHs _ rfl hH15
          clear hHs hstep hsep hF
          clear hD
          have hD := hD2
          clear hD2 ht
          refine ⟨_, rfl, ?_⟩
          intro a102 he102
          clear he100 a100 hH15
          refine lV (Value.tuple #[Value.agg #[Value.int .i64 (pl : Int), Value.int .i64 ((dropS L gn i).2.1 : Int), Value.slice A2 (dropS L gn i).1.length c2], Value.int .i64 (dropS L gn i).2.2]) he102 rfl rfl (wanted_plain rfl _) (rn_mv rfl (he102.op rfl) w101) ?_
          intro a103 he103
          clear he102 a102
          refine lV (Value.agg #[Value.int .i64 (pl : Int), Value.int .i64 ((dropS L gn i).2.1 : Int), Value.slice A2 (dropS L gn i).1.length c2]) he103 rfl rfl (wanted_plain rfl _) (rn_ext rfl (he103.op rfl) rfl w101) ?_
          intro a104 he104
          clear he103 a103
          refine lV (Value.int .i64 (dropS L gn i).2.2) he104 rfl rfl (wanted_plain rfl _) (rn_ext rfl (he104.op rfl) rfl w101) ?_
          intro a105 he105
          clear he104 a104
          refine lNewP (fun p => .pointer (some ⟨p, 0, none⟩)) he105 hH101 rfl rfl (wanted_plain rfl _) (rn_allocQ rfl w101) ?_
          intro p106 w106 a107 hp hn hH106 he107
          replace hD := hD.cons hn hp (hH106.at (i := 0) rfl).lt
          clear he105 a105 hH101 hn hp
          refine lSetF 0 #[Value.int .i64 (pl : Int), Value.int .i64 ((dropS L gn i).2.1 : Int), Value.slice A2 (dropS L gn i).1.length c2] (cs := #[Value.int .i64 (pl : Int), Value.int .i64 ((dropS L gn i).2.1 : Int), Value.slice A2 (dropS L gn i).1.length c2]) he107 hH106 rfl (wanted_plain rfl _) rfl rfl rfl rfl rfl (by kernel_rfl) (by kernel_rfl) (by kernel_rfl) rfl ?_
          intro w108 a109 hH108 hf he109
          replace hD := hD.setb (i := 0) rfl rfl hf
          replace hH108 : Hp (bare w) [⟨p106, 32, #[Value.int .i64 (pl : Int), Value.int .i64 ((dropS L gn i).2.1 : Int), Value.slice A2 (dropS L gn i).1.length c2]⟩, ⟨p13, 35, #[Value.slice Ao l.length co, Value.bool s]⟩, ⟨p6, 32, #[Value.int .i64 0, Value.int .i64 0, Value.slice none 0 0]⟩, ⟨p3, 37, #[Value.int .i64 wh, Value.int .i64 i, Value.slice B l.length cb, Value.bool s]⟩, ⟨p1, 32, #[Value.int .i64 (pl : Int), Value.int .i64 (gn : Int), Value.slice A L.length c]⟩] w108 := hH108
          clear hf
          clear he107 a107 hH106
          refine lV (Value.int .i64 (dropS L gn i).2.2) he109 rfl rfl (wanted_plain rfl _) (rn_asg rfl (he109.op rfl) w108) ?_
          intro a110 he110
          clear he109 a109
          refine wpList_nil ?_
          refine then_ok ?_
          refine wp_seq ?_
          refine wp_region_held_drew (S := Hp (bare w) [⟨p106, 32, #[Value.int .i64 (pl : Int), Value.int .i64 ((dropS L gn i).2.1 : Int), Value.slice A2 (dropS L gn i).1.length c2]⟩, ⟨p13, 35, #[Value.slice Ao l.length co, Value.bool s]⟩, ⟨p3, 37, #[Value.int .i64 wh, Value.int .i64 i, Value.slice B l.length cb, Value.bool s]⟩, ⟨p1, 32, #[Value.int .i64 (pl : Int), Value.int .i64 (gn : Int), Value.slice A L.length c]⟩]) (by kernel_rfl) ((hH108.drew).drop1 2 rfl) (fun _ => ?_)
          have hn : New w108 (World.drew w108) := (Fr.refl _ _).drew
          replace hD := (hD).new hn
          clear hn
          have hH111 := hH108.drew
          clear hH108
          generalize World.drew w108 = w111 at *
          refine hV (fuel := 10) (i := 0) (Value.pointer (some ⟨p, 0, none⟩)) he110 rfl rfl rfl (by kernel_rfl) (by kernel_rfl) (by kernel_rfl) (fun _ _ _ h => h) (wanted_plain rfl _) (fun w' _ => rn_mv rfl (he110.op rfl) w') (hH111.drop1 2 rfl) ?_
          intro a112 he112
          clear he110 a110
          refine hV (fuel := 9) (i := 1) (Value.agg #[Value.int .i64 (pl : Int), Value.int .i64 ((dropS L gn i).2.1 : Int), Value.slice A2 (dropS L gn i).1.length c2]) he112 rfl rfl rfl (by kernel_rfl) (by kernel_rfl) (by kernel_rfl) (fun _ _ _ h => h) (wanted_plain rfl _) (fun w' hw' => rn_ldp [Value.int .i64 (pl : Int), Value.int .i64 ((dropS L gn i).2.1 : Int), Value.slice A2 (dropS L gn i).1.length c2] rfl (he112.op rfl) undQ rfl infoQ3 (hw'.at (i := 0) rfl) rfl) (hH111.drop1 2 rfl) ?_
          intro a113 he113
          clear he112 a112
          refine hV (fuel := 8) (i := 2) (Value.pointer (some ⟨p, 0, none⟩)) he113 rfl rfl rfl (by kernel_rfl) (by kernel_rfl) (by kernel_rfl) (fun _ _ _ h => h) (wanted_plain rfl _) (fun w' _ => rn_mv rfl (he113.op rfl) w') (hH111.drop1 2 rfl) ?_
          intro a114 he114
          clear he113 a113
          refine hV (fuel := 7) (i := 3) (Value.pointer (some ⟨p3, 1, none⟩)) he114 rfl rfl rfl (by kernel_rfl) (by kernel_rfl) (by kernel_rfl) (fun _ _ _ h => h) (wanted_plain rfl _) (fun w' _ => rn_faA1 rfl (he114.op rfl) rfl w') (hH111.drop1 2 rfl) ?_
          intro a115 he115
          clear he114 a114
          refine hV (fuel := 6) (i := 4) (Value.int .i64 i) he115 rfl rfl rfl (by kernel_rfl) (by kernel_rfl) (by kernel_rfl) (fun _ _ _ h => h) (wanted_plain rfl _) (fun w' hw' => rn_ld1 rfl (he115.op rfl) Tryd.underlying3 (hw'.at (i := 2) rfl) rfl) (hH111.drop1 2 rfl) ?_
          intro a116 he116
          clear he115 a115
          refine hV (fuel := 5) (i := 6) (Value.int .i64 (dropS L gn i).2.2) he116 rfl rfl rfl (by kernel_rfl) (by kernel_rfl) (by kernel_rfl) (fun _ _ _ h => h) (wanted_plain rfl _) (fun w' _ => rn_mv rfl (he116.op rfl) w') (hH111.drop1 2 rfl) ?_
          intro a117 he117
          clear he116 a116
          replace hD := hD.pick 2 rfl
          obtain ⟨F_, hsep, hF, hstep⟩ := Dt.step (A := [shD p L pl gn]) (D := [rdD (.slice A2 (dropS L gn i).1.length c2) (dropS L gn i).1, cellsD (.slice Ao l.length co) l]) hD
          refine hC (fuel := 4) (i := 5) he117 (by kernel_rfl) rfl rfl rfl Tryd.func16 (by kernel_rfl) rfl rfl (wanted_plain rfl _) rfl (drop_b F_ p pl gn L i w111 hsep.the hF hD.tab) ?_
          rintro _ w118 ⟨rfl, ht⟩
          obtain ⟨hD2, hHs⟩ := hstep _ _ ht
          have hH118 := hHs _ rfl hH111
          clear hHs hstep hsep hF
          clear hD
          have hD := hD2
          clear hD2 ht
          refine ⟨_, rfl, (hH118.drop1 2 rfl), ?_⟩
          intro a119 he119
          clear he117 a117 hH111
          refine hV (fuel := 3) (i := 7) (Value.bool true) he119 rfl rfl rfl (by kernel_rfl) (by kernel_rfl) (by kernel_rfl) (fun _ _ _ h => h) (wanted_plain rfl _) (fun w' _ => rn_eqI rfl (he119.op rfl) (he119.op rfl) (by simp) w') (hH118.drop1 2 rfl) ?_
          intro a120 he120
          clear he119 a119
          refine hV (fuel := 2) (i := 8) (Value.pointer (some ⟨p, 0, none⟩)) he120 rfl rfl rfl (by kernel_rfl) (by kernel_rfl) (by kernel_rfl) (fun _ _ _ h => h) (wanted_plain rfl _) (fun w' _ => rn_asg rfl (he120.op rfl) w') (hH118.drop1 2 rfl) ?_
          intro a121 he121
          clear he120 a120
          refine hSetV (fuel := 1) (n := 9) 2 #[Value.int .i64 (pl : Int), Value.int .i64 ((dropS L gn i).2.1 : Int), Value.slice A2 (dropS L gn i).1.length c2] (cs := #[Value.int .i64 (pl : Int), Value.int .i64 ((dropS L gn i).2.1 : Int), Value.slice A2 (dropS L gn i).1.length c2]) he121 hH118 (by kernel_rfl) rfl rfl (wanted_plain rfl _) rfl rfl rfl rfl rfl (by kernel_rfl) (by kernel_rfl) (by kernel_rfl) rfl ?_
          intro w122 a123 hH122 hf he123
          replace hD := hD.setb (i := 2) rfl rfl hf
          replace hH122 : Hp (bare w) [⟨p106, 32, #[Value.int .i64 (pl : Int), Value.int .i64 ((dropS L gn i).2.1 : Int), Value.slice A2 (dropS L gn i).1.length c2]⟩, ⟨p13, 35, #[Value.slice Ao l.length co, Value.bool s]⟩, ⟨p6, 32, #[Value.int .i64 (pl : Int), Value.int .i64 ((dropS L gn i).2.1 : Int), Value.slice A2 (dropS L gn i).1.length c2]⟩, ⟨p3, 37, #[Value.int .i64 wh, Value.int .i64 i, Value.slice B l.length cb, Value.bool s]⟩, ⟨p1, 32, #[Value.int .i64 (pl : Int), Value.int .i64 (gn : Int), Value.slice A L.length c]⟩] w122 := hH122
          refine ⟨(hH122.drop1 2 rfl), ?_⟩
          clear hf
          clear he121 a121 hH118
          refine hV (fuel := 0) (i := 10) (Value.bool true) he123 rfl rfl rfl (by kernel_rfl) (by kernel_rfl) (by kernel_rfl) (fun _ _ _ h => h) (wanted_plain rfl _) (fun w' _ => rn_asg rfl (he123.op rfl) w') (hH122.drop1 2 rfl) ?_
          intro a124 he124
          clear he123 a123
          refine wpAnyH_done (by kernel_rfl) ?_ _
          refine then_ok ?_
          replace hD := hD.pick 1 rfl
          replace hD := hD.pick 1 rfl
          refine wp_ret ?_
          try simp only [Exit.then, Exit.inBlock, Exit.noGoto]
          exact ret_tct rfl he124 rfl rfl rfl (hH122.at (i := 2) rfl) undQ rfl infoQ3 ⟨p, (dropS L gn i).1, (dropS L gn i).2.1, A2, c2, rfl, (Dt.first (A := [shD p (dropS L gn i).1 pl (dropS L gn i).2.1, rdD (.slice A2 (dropS L gn i).1.length c2) (dropS L gn i).1]) hD).turned⟩
        · skip
          refine wp_seq ?_
          refine wp_region_lit ?_
          refine lV (Value.bool false) he95 rfl rfl (wanted_plain rfl _) (rn_eqI rfl (he95.op rfl) (he95.op rfl) (by simpa using hw2) w15) ?_
          intro a125 he125
          clear he95 a95
          refine lV (Value.bool false) he125 rfl rfl (wanted_plain rfl _) (rn_asg rfl (he125.op rfl) w15) ?_
          intro a126 he126
          clear he125 a125
          refine wpList_nil ?_
          refine then_ok ?_
          refine wp_cond_false (he126.op rfl) ?_
          by_cases hw3 : wh = 3
          · skip
            refine wp_seq ?_
            refine wp_region_lit ?_
            refine lV (Value.bool true) he126 rfl rfl (wanted_plain rfl _) (rn_eqI rfl (he126.op rfl) (he126.op rfl) (by simp [hw3]) w15) ?_
            intro a127 he127
            clear he126 a126
            refine lV (Value.bool true) he127 rfl rfl (wanted_plain rfl _) (rn_asg rfl (he127.op rfl) w15) ?_
            intro a128 he128
            clear he127 a127
            refine wpList_nil ?_
            refine then_ok ?_
            refine wp_cond_true (he128.op rfl) ?_
            have hpl := pop_len hok.cells
            refine wp_seq ?_
            refine wp_region_lit ?_
            refine lV (Value.agg #[Value.int .i64 (pl : Int), Value.int .i64 (gn : Int), Value.slice A L.length c]) he128 rfl rfl (wanted_plain rfl _) (rn_ldp [Value.int .i64 (pl : Int), Value.int .i64 (gn : Int), Value.slice A L.length c] rfl (he128.op rfl) undQ rfl infoQ3 (hH15.at (i := 3) rfl) rfl) ?_
            intro a129 he129
            clear he128 a128
            replace hD := hD.pick 2 rfl
            obtain ⟨F_, hsep, hF, hstep⟩ := Dt.step (A := [rdD (Value.slice A L.length c) L]) (D := [cellsD (.slice Ao l.length co) l, shD p L pl gn]) hD
            refine lCx he129 rfl rfl Tryd.func33 (by kernel_rfl) rfl rfl (wanted_plain rfl _) rfl (rpop_b F_ pl gn L A c w15 hsep.the hF hok hD.tab) ?_
            rintro _ w130 ⟨A2, c2, B2, d2, rfl, ht⟩
            obtain ⟨hD2, hHs⟩ := hstep _ _ ht
            have hH130 := hHs _ rfl hH15
            clear hHs hstep hsep hF
            clear hD
            have hD := hD2
            clear hD2 ht
            refine ⟨_, rfl, ?_⟩
            intro a131 he131
            clear he129 a129 hH15
            refine lV (Value.tuple #[Value.agg #[Value.int .i64 (pl : Int), Value.int .i64 (gn : Int), Value.slice A2 (popS L).1.length c2], Value.agg #[Value.slice B2 (popS L).2.1.1.length d2, Value.bool (popS L).2.1.2], Value.int .i64 (popS L).2.2]) he131 rfl rfl (wanted_plain rfl _) (rn_mv rfl (he131.op rfl) w130) ?_
            intro a132 he132
            clear he131 a131
            refine lV (Value.agg #[Value.int .i64 (pl : Int), Value.int .i64 (gn : Int), Value.slice A2 (popS L).1.length c2]) he132 rfl rfl (wanted_plain rfl _) (rn_ext rfl (he132.op rfl) rfl w130) ?_
            intro a133 he133
            clear he132 a132
            refine lV (Value.agg #[Value.slice B2 (popS L).2.1.1.length d2, Value.bool (popS L).2.1.2]) he133 rfl rfl (wanted_plain rfl _) (rn_ext rfl (he133.op rfl) rfl w130) ?_
            intro a134 he134
            clear he133 a133
            refine lV (Value.int .i64 (popS L).2.2) he134 rfl rfl (wanted_plain rfl _) (rn_ext rfl (he134.op rfl) rfl w130) ?_
            intro a135 he135
            clear he134 a134
            refine lNewP (fun p => .pointer (some ⟨p, 0, none⟩)) he135 hH130 rfl rfl (wanted_plain rfl _) (rn_allocQ rfl w130) ?_
            intro p136 w136 a137 hp hn hH136 he137
            replace hD := hD.cons hn hp (hH136.at (i := 0) rfl).lt
            clear he135 a135 hH130 hn hp
            refine lNewP (fun p => .pointer (some ⟨p, 0, none⟩)) he137 hH136 rfl rfl (wanted_plain rfl _) (rn_allocL rfl w136) ?_
            intro p138 w138 a139 hp hn hH138 he139
            replace hD := hD.cons hn hp (hH138.at (i := 0) rfl).lt
            clear he137 a137 hH136 hn hp
            refine lSetF 1 #[Value.int .i64 (pl : Int), Value.int .i64 (gn : Int), Value.slice A2 (popS L).1.length c2] (cs := #[Value.int .i64 (pl : Int), Value.int .i64 (gn : Int), Value.slice A2 (popS L).1.length c2]) he139 hH138 rfl (wanted_plain rfl _) rfl rfl rfl rfl rfl (by kernel_rfl) (by kernel_rfl) (by kernel_rfl) rfl ?_
            intro w140 a141 hH140 hf he141
            replace hD := hD.setb (i := 1) rfl rfl hf
            replace hH140 : Hp (bare w) [⟨p138, 35, #[Value.slice none 0 0, Value.bool false]⟩, ⟨p136, 32, #[Value.int .i64 (pl : Int), Value.int .i64 (gn : Int), Value.slice A2 (popS L).1.length c2]⟩, ⟨p13, 35, #[Value.slice Ao l.length co, Value.bool s]⟩, ⟨p6, 32, #[Value.int .i64 0, Value.int .i64 0, Value.slice none 0 0]⟩, ⟨p3, 37, #[Value.int .i64 wh, Value.int .i64 i, Value.slice B l.length cb, Value.bool s]⟩, ⟨p1, 32, #[Value.int .i64 (pl : Int), Value.int .i64 (gn : Int), Value.slice A L.length c]⟩] w140 := hH140
            clear hf
            clear he139 a139 hH138
            refine lSetF 0 #[Value.slice B2 (popS L).2.1.1.length d2, Value.bool (popS L).2.1.2] (cs := #[Value.slice B2 (popS L).2.1.1.length d2, Value.bool (popS L).2.1.2]) he141 hH140 rfl (wanted_plain rfl _) rfl rfl rfl rfl rfl (by kernel_rfl) (by kernel_rfl) (by kernel_rfl) rfl ?_
            intro w142 a143 hH142 hf he143
            replace hD := hD.setb (i := 0) rfl rfl hf
            replace hH142 : Hp (bare w) [⟨p138, 35, #[Value.slice B2 (popS L).2.1.1.length d2, Value.bool (popS L).2.1.2]⟩, ⟨p136, 32, #[Value.int .i64 (pl : Int), Value.int .i64 (gn : Int), Value.slice A2 (popS L).1.length c2]⟩, ⟨p13, 35, #[Value.slice Ao l.length co, Value.bool s]⟩, ⟨p6, 32, #[Value.int .i64 0, Value.int .i64 0, Value.slice none 0 0]⟩, ⟨p3, 37, #[Value.int .i64 wh, Value.int .i64 i, Value.slice B l.length cb, Value.bool s]⟩, ⟨p1, 32, #[Value.int .i64 (pl : Int), Value.int .i64 (gn : Int), Value.slice A L.length c]⟩] w142 := hH142
            clear hf
            clear he141 a141 hH140
            refine lV (Value.int .i64 (popS L).2.2) he143 rfl rfl (wanted_plain rfl _) (rn_asg rfl (he143.op rfl) w142) ?_
            intro a144 he144
            clear he143 a143
            refine wpList_nil ?_
            refine then_ok ?_
            refine wp_seq ?_
            refine wp_region_lit ?_
            refine lV (Value.pointer (some ⟨p, 0, none⟩)) he144 rfl rfl (wanted_plain rfl _) (rn_mv rfl (he144.op rfl) w142) ?_
            intro a145 he145
            clear he144 a144
            replace hD := hD.pick 2 rfl
            obtain ⟨F_, hsep, hF, hstep⟩ := Dt.step (A := [shD p L pl gn]) (D := [andD (rdD (.slice A2 (popS L).1.length c2) (popS L).1) (slD (.slice B2 (popS L).2.1.1.length d2) (popS L).2.1.1), cellsD (.slice Ao l.length co) l]) hD
            refine lCx he145 rfl rfl Tryd.func25 (by kernel_rfl) rfl rfl (wanted_plain rfl _) rfl (pop_b F_ p pl gn L w142 hsep.the hF hD.tab) ?_
            rintro _ w146 ⟨A3, c3, rfl, ht⟩
            obtain ⟨hD2, hHs⟩ := hstep _ _ ht
            have hH146 := hHs _ rfl hH142
            clear hHs hstep hsep hF
            clear hD
            have hD := hD2
            clear hD2 ht
            refine ⟨_, rfl, ?_⟩
            intro a147 he147
            clear he145 a145 hH142
            refine lV (Value.tuple #[Value.agg #[Value.slice A3 (popS L).2.1.1.length c3, Value.bool (popS L).2.1.2], Value.int .i64 (popS L).2.2]) he147 rfl rfl (wanted_plain rfl _) (rn_mv rfl (he147.op rfl) w146) ?_
            intro a148 he148
            clear he147 a147
            refine lV (Value.agg #[Value.slice A3 (popS L).2.1.1.length c3, Value.bool (popS L).2.1.2]) he148 rfl rfl (wanted_plain rfl _) (rn_ext rfl (he148.op rfl) rfl w146) ?_
            intro a149 he149
            clear he148 a148
            refine lV (Value.int .i64 (popS L).2.2) he149 rfl rfl (wanted_plain rfl _) (rn_ext rfl (he149.op rfl) rfl w146) ?_
            intro a150 he150
            clear he149 a149
            refine lNewP (fun p => .pointer (some ⟨p, 0, none⟩)) he150 hH146 rfl rfl (wanted_plain rfl _) (rn_allocL rfl w146) ?_
            intro p151 w151 a152 hp hn hH151 he152
            replace hD := hD.cons hn hp (hH151.at (i := 0) rfl).lt
            clear he150 a150 hH146 hn hp
            refine lSetF 0 #[Value.slice A3 (popS L).2.1.1.length c3, Value.bool (popS L).2.1.2] (cs := #[Value.slice A3 (popS L).2.1.1.length c3, Value.bool (popS L).2.1.2]) he152 hH151 rfl (wanted_plain rfl _) rfl rfl rfl rfl rfl (by kernel_rfl) (by kernel_rfl) (by kernel_rfl) rfl ?_
            intro w153 a154 hH153 hf he154
            replace hD := hD.setb (i := 0) rfl rfl hf
            replace hH153 : Hp (bare w) [⟨p151, 35, #[Value.slice A3 (popS L).2.1.1.length c3, Value.bool (popS L).2.1.2]⟩, ⟨p138, 35, #[Value.slice B2 (popS L).2.1.1.length d2, Value.bool (popS L).2.1.2]⟩, ⟨p136, 32, #[Value.int .i64 (pl : Int), Value.int .i64 (gn : Int), Value.slice A2 (popS L).1.length c2]⟩, ⟨p13, 35, #[Value.slice Ao l.length co, Value.bool s]⟩, ⟨p6, 32, #[Value.int .i64 0, Value.int .i64 0, Value.slice none 0 0]⟩, ⟨p3, 37, #[Value.int .i64 wh, Value.int .i64 i, Value.slice B l.length cb, Value.bool s]⟩, ⟨p1, 32, #[Value.int .i64 (pl : Int), Value.int .i64 (gn : Int), Value.slice A L.length c]⟩] w153 := hH153
            clear hf
            clear he152 a152 hH151
            refine lV (Value.int .i64 (popS L).2.2) he154 rfl rfl (wanted_plain rfl _) (rn_asg rfl (he154.op rfl) w153) ?_
            intro a155 he155
            clear he154 a154
            refine wpList_nil ?_
            refine then_ok ?_
            refine wp_seq ?_
            refine wp_region_lit ?_
            refine lV (Value.agg #[Value.slice A3 (popS L).2.1.1.length c3, Value.bool (popS L).2.1.2]) he155 rfl rfl (wanted_plain rfl _) (rn_ldp [Value.slice A3 (popS L).2.1.1.length c3, Value.bool (popS L).2.1.2] rfl (he155.op rfl) undL rfl infoL2 (hH153.at (i := 0) rfl) rfl) ?_
            intro a156 he156
            clear he155 a155
            refine lV (Value.agg #[Value.slice B2 (popS L).2.1.1.length d2, Value.bool (popS L).2.1.2]) he156 rfl rfl (wanted_plain rfl _) (rn_ldp [Value.slice B2 (popS L).2.1.1.length d2, Value.bool (popS L).2.1.2] rfl (he156.op rfl) undL rfl infoL2 (hH153.at (i := 1) rfl) rfl) ?_
            intro a157 he157
            clear he156 a156
            refine lC he157 rfl rfl Tryd.func26 (by kernel_rfl) rfl rfl (wanted_plain rfl _) rfl (same_s _ (popS L).2.1.1 (popS L).2.1.2 _ (popS L).2.1.1 (popS L).2.1.2 true (by simp) (by omega) (by omega) w153 (cells_sl (hD.get (i := 1) rfl).choose_spec) (hD.get (i := 2) rfl).choose_spec.2.sl) ?_
            intro w158 a159 hn he159
            have hH158 := hH153.call hn
            replace hD := (hD).new hn
            clear he157 a157 hH153 hn
            refine lV (Value.bool true) he159 rfl rfl (wanted_plain rfl _) (rn_mv rfl (he159.op rfl) w158) ?_
            intro a160 he160
            clear he159 a159
            refine lV (Value.int .i64 (popS L).2.2) he160 rfl rfl (he160.want rfl rfl rfl rfl rfl) (rn_mv rfl (he160.op rfl) w158) ?_
            intro a161 he161
            clear he160 a160
            refine lV (Value.int .i64 (popS L).2.2) he161 rfl rfl (he161.want rfl rfl rfl rfl rfl) (rn_mv rfl (he161.op rfl) w158) ?_
            intro a162 he162
            clear he161 a161
            refine lV (Value.bool true) he162 rfl rfl (he162.want rfl rfl rfl rfl rfl) (rn_eqI rfl (he162.op rfl) (he162.op rfl) (by simp) w158) ?_
            intro a163 he163
            clear he162 a162
            refine lV (Value.bool true) he163 rfl rfl (wanted_plain rfl _) (rn_pk rfl (he163.op rfl) (he163.op rfl) w158) ?_
            intro a164 he164
            clear he163 a163
            refine lV (Value.bool true) he164 rfl rfl (wanted_plain rfl _) (rn_asg rfl (he164.op rfl) w158) ?_
            intro a165 he165
            clear he164 a164
            refine wpList_nil ?_
            refine then_ok ?_
            refine wp_seq ?_
            refine wp_region_lit ?_
            refine lV (Value.pointer (some ⟨p151, 0, none⟩)) he165 rfl rfl (wanted_plain rfl _) (rn_faL0 rfl (he165.op rfl) rfl w158) ?_
            intro a166 he166
            clear he165 a165
            refine lV (Value.slice A3 (popS L).2.1.1.length c3) he166 rfl rfl (wanted_plain rfl _) (rn_ldS rfl (he166.op rfl) (hH158.at (i := 0) rfl) rfl) ?_
            intro a167 he167
            clear he166 a166
            replace hD := hD.pick 1 rfl
            obtain ⟨F_, hsep, hF, hstep⟩ := Dt.step (A := [cellsD (.slice A3 (popS L).2.1.1.length c3) (popS L).2.1.1]) (D := [shD p (popS L).1 pl gn, andD (rdD (.slice A2 (popS L).1.length c2) (popS L).1) (slD (.slice B2 (popS L).2.1.1.length d2) (popS L).2.1.1), cellsD (.slice Ao l.length co) l]) hD
            refine lCx he167 rfl rfl Tryd.func30 (by kernel_rfl) rfl rfl (wanted_plain rfl _) rfl (stain_d hsep.the (by omega)) ?_
            rintro _ w168 ⟨rfl, ht⟩
            obtain ⟨hD2, hHs⟩ := hstep _ _ ht
            have hH168 := hHs _ rfl hH158
            clear hHs hstep hsep hF
            clear hD
            have hD := hD2
            clear hD2 ht
            refine ⟨_, rfl, ?_⟩
            intro a169 he169
            clear he167 a167 hH158
            refine wpList_nil ?_
            refine then_ok ?_
            refine wp_seq ?_
            refine wp_region_held_drew (S := Hp (bare w) [⟨p151, 35, #[Value.slice A3 (popS L).2.1.1.length c3, Value.bool (popS L).2.1.2]⟩, ⟨p138, 35, #[Value.slice B2 (popS L).2.1.1.length d2, Value.bool (popS L).2.1.2]⟩, ⟨p136, 32, #[Value.int .i64 (pl : Int), Value.int .i64 (gn : Int), Value.slice A2 (popS L).1.length c2]⟩, ⟨p13, 35, #[Value.slice Ao l.length co, Value.bool s]⟩, ⟨p3, 37, #[Value.int .i64 wh, Value.int .i64 i, Value.slice B l.length cb, Value.bool s]⟩, ⟨p1, 32, #[Value.int .i64 (pl : Int), Value.int .i64 (gn : Int), Value.slice A L.length c]⟩]) (by kernel_rfl) ((hH168.drew).drop1 4 rfl) (fun _ => ?_)
            have hn : New w168 (World.drew w168) := (Fr.refl _ _).drew
            replace hD := (hD).new hn
            clear hn
            have hH170 := hH168.drew
            clear hH168
            generalize World.drew w168 = w170 at *
            refine hV (fuel := 5) (i := 0) (Value.pointer (some ⟨p, 0, none⟩)) he169 rfl rfl rfl (by kernel_rfl) (by kernel_rfl) (by kernel_rfl) (fun _ _ _ h => h) (wanted_plain rfl _) (fun w' _ => rn_mv rfl (he169.op rfl) w') (hH170.drop1 4 rfl) ?_
            intro a171 he171
            clear he169 a169
            refine hV (fuel := 4) (i := 1) (Value.agg #[Value.int .i64 (pl : Int), Value.int .i64 (gn : Int), Value.slice A2 (popS L).1.length c2]) he171 rfl rfl rfl (by kernel_rfl) (by kernel_rfl) (by kernel_rfl) (fun _ _ _ h => h) (wanted_plain rfl _) (fun w' hw' => rn_ldp [Value.int .i64 (pl : Int), Value.int .i64 (gn : Int), Value.slice A2 (popS L).1.length c2] rfl (he171.op rfl) undQ rfl infoQ3 (hw'.at (i := 2) rfl) rfl) (hH170.drop1 4 rfl) ?_
            intro a172 he172
            clear he171 a171
            refine hV (fuel := 3) (i := 2) (Value.bool true) he172 rfl rfl rfl (by kernel_rfl) (by kernel_rfl) (by kernel_rfl) (fun _ _ _ h => h) (wanted_plain rfl _) (fun w' _ => rn_mv rfl (he172.op rfl) w') (hH170.drop1 4 rfl) ?_
            intro a173 he173
            clear he172 a172
            refine hV (fuel := 2) (i := 3) (Value.pointer (some ⟨p, 0, none⟩)) he173 rfl rfl rfl (by kernel_rfl) (by kernel_rfl) (by kernel_rfl) (fun _ _ _ h => h) (wanted_plain rfl _) (fun w' _ => rn_asg rfl (he173.op rfl) w') (hH170.drop1 4 rfl) ?_
            intro a174 he174
            clear he173 a173
            refine hSetV (fuel := 1) (n := 4) 4 #[Value.int .i64 (pl : Int), Value.int .i64 (gn : Int), Value.slice A2 (popS L).1.length c2] (cs := #[Value.int .i64 (pl : Int), Value.int .i64 (gn : Int), Value.slice A2 (popS L).1.length c2]) he174 hH170 (by kernel_rfl) rfl rfl (wanted_plain rfl _) rfl rfl rfl rfl rfl (by kernel_rfl) (by kernel_rfl) (by kernel_rfl) rfl ?_
            intro w175 a176 hH175 hf he176
            replace hD := hD.setb (i := 4) rfl rfl hf
            replace hH175 : Hp (bare w) [⟨p151, 35, #[Value.slice A3 (popS L).2.1.1.length c3, Value.bool (popS L).2.1.2]⟩, ⟨p138, 35, #[Value.slice B2 (popS L).2.1.1.length d2, Value.bool (popS L).2.1.2]⟩, ⟨p136, 32, #[Value.int .i64 (pl : Int), Value.int .i64 (gn : Int), Value.slice A2 (popS L).1.length c2]⟩, ⟨p13, 35, #[Value.slice Ao l.length co, Value.bool s]⟩, ⟨p6, 32, #[Value.int .i64 (pl : Int), Value.int .i64 (gn : Int), Value.slice A2 (popS L).1.length c2]⟩, ⟨p3, 37, #[Value.int .i64 wh, Value.int .i64 i, Value.slice B l.length cb, Value.bool s]⟩, ⟨p1, 32, #[Value.int .i64 (pl : Int), Value.int .i64 (gn : Int), Value.slice A L.length c]⟩] w175 := hH175
            refine ⟨(hH175.drop1 4 rfl), ?_⟩
            clear hf
            clear he174 a174 hH170
            refine hV (fuel := 0) (i := 5) (Value.bool true) he176 rfl rfl rfl (by kernel_rfl) (by kernel_rfl) (by kernel_rfl) (fun _ _ _ h => h) (wanted_plain rfl _) (fun w' _ => rn_asg rfl (he176.op rfl) w') (hH175.drop1 4 rfl) ?_
            intro a177 he177
            clear he176 a176
            refine wpAnyH_done (by kernel_rfl) ?_ _
            refine then_ok ?_
            replace hD := hD.pick 1 rfl
            replace hD := Dt.front (A := [andD (rdD (.slice A2 (popS L).1.length c2) (popS L).1) (slD (.slice B2 (popS L).2.1.1.length d2) (popS L).2.1.1)]) (B := [rdD (.slice A2 (popS L).1.length c2) (popS L).1]) (D := [shD p (popS L).1 pl gn, cellsD (.slice Ao l.length co) l]) hD (fun G h => SepL.one h.the.1)
            replace hD := hD.pick 1 rfl
            refine wp_ret ?_
            try simp only [Exit.then, Exit.inBlock, Exit.noGoto]
            exact ret_tct rfl he177 rfl rfl rfl (hH175.at (i := 4) rfl) undQ rfl infoQ3 ⟨p, (popS L).1, gn, A2, c2, rfl, (Dt.first (A := [shD p (popS L).1 pl gn, rdD (.slice A2 (popS L).1.length c2) (popS L).1]) hD).turned⟩
          · skip
            refine wp_seq ?_
            refine wp_region_lit ?_
            refine lV (Value.bool false) he126 rfl rfl (wanted_plain rfl _) (rn_eqI rfl (he126.op rfl) (he126.op rfl) (by simpa using hw3) w15) ?_
            intro a178 he178
            clear he126 a126
            refine lV (Value.bool false) he178 rfl rfl (wanted_plain rfl _) (rn_asg rfl (he178.op rfl) w15) ?_
            intro a179 he179
            clear he178 a178
            refine wpList_nil ?_
            refine then_ok ?_
            refine wp_cond_false (he179.op rfl) ?_
            refine wp_skip ?_
            refine block_ok ?_
            refine then_ok ?_
            refine wp_seq ?_
            refine wp_region_lit ?_
            refine lV (Value.pointer (some ⟨p, 0, none⟩)) he179 rfl rfl (wanted_plain rfl _) (rn_mv rfl (he179.op rfl) w15) ?_
            intro a180 he180
            clear he179 a179
            obtain ⟨Fs_, hs_⟩ := hD.get (i := 1) rfl
            refine lCx he180 rfl rfl Tryd.func24 (by kernel_rfl) rfl rfl (wanted_plain rfl _) rfl (copy_b _ p pl gn L w15 hs_ hD.tab) ?_
            rintro _ w181 ⟨pq, rfl, ht⟩
            have hD2 := hD.made ht
            have hH181 := hH15.call ht.new
            clear hD
            have hD := hD2
            clear hD2 ht
            refine ⟨_, rfl, ?_⟩
            intro a182 he182
            clear he180 a180 hH15
            clear hs_
            refine lV (Value.pointer (some ⟨pq, 0, none⟩)) he182 rfl rfl (wanted_plain rfl _) (rn_asg rfl (he182.op rfl) w181) ?_
            intro a183 he183
            clear he182 a182
            refine wpList_nil ?_
            refine then_ok ?_
            refine wp_seq ?_
            refine wp_seq ?_
            refine wp_region_lit ?_
            refine lV (Value.pointer (some ⟨pq, 0, none⟩)) he183 rfl rfl (wanted_plain rfl _) (rn_mv rfl (he183.op rfl) w181) ?_
            intro a184 he184
            clear he183 a183
            refine lV (Value.bool false) he184 rfl rfl (wanted_plain rfl _) (rn_eqP1 rfl (he184.op rfl) (fun _ => rfl) w181) ?_
            intro a185 he185
            clear he184 a184
            refine wpList_nil ?_
            refine then_ok ?_
            refine wp_cond_false (he185.op rfl) ?_
            refine wp_skip ?_
            refine then_ok ?_
            have he186 : Env 134 [(24, Value.pointer (some ⟨pq, 0, none⟩)), (8, Value.bool false), (7, Value.pointer (some ⟨p6, 0, none⟩)), (6, Value.pointer none), (5, Value.pointer (some ⟨p3, 0, none⟩)), (4, Value.pointer (some ⟨p1, 0, none⟩)), (0, Value.pointer (some ⟨p, 0, none⟩))] a185 := he185.mem ⟨rfl, rfl, rfl, rfl, rfl, rfl, rfl, trivial⟩
            clear he185
            as_aux_lemma =>
              refine wp_seq ?_
              refine wp_region_lit ?_
              refine lV (Value.pointer (some ⟨p, 0, none⟩)) he186 rfl rfl (wanted_plain rfl _) (rn_mv rfl (he186.op rfl) w181) ?_
              intro a187 he187
              clear he186 a185
              refine lCx he187 rfl rfl Tryd.func14 (by kernel_rfl) rfl rfl (wanted_plain rfl _) rfl (text_b 113 w181) ?_
              rintro _ w188 ⟨Aq, cq, rfl, ht⟩
              have hD2 := hD.made ht
              have hH188 := hH181.call ht.new
              clear hD
              have hD := hD2
              clear hD2 ht
              refine ⟨_, rfl, ?_⟩
              intro a189 he189
              clear he187 a187 hH181
              have hown := cells_sl (hD.get (i := 0) rfl).choose_spec
              replace hD := hD.pick 3 rfl
              obtain ⟨F_, hsep, hF, hstep⟩ := Dt.step (A := [shD p L pl gn]) (D := [cellsD (.slice Aq 1 cq) [tc 113], shD pq L pl gn, cellsD (.slice Ao l.length co) l, rdD (Value.slice A L.length c) L]) hD
              refine lCx he189 rfl rfl Tryd.func13 (by kernel_rfl) rfl rfl (wanted_plain rfl _) rfl (push_b F_ p pl gn L _ [tc 113] false w188 hsep.the hF hD.tab hown) ?_
              rintro _ w190 ⟨rfl, ht⟩
              obtain ⟨hD2, hHs⟩ := hstep _ _ ht
              have hH190 := hHs _ rfl hH188
              clear hHs hstep hsep hF
              clear hD
              have hD := hD2
              clear hD2 ht
              refine ⟨_, rfl, ?_⟩
              intro a191 he191
              clear he189 a189 hH188
              clear hown
              refine wpList_nil ?_
              refine then_ok ?_
              refine wp_seq ?_
              refine wp_region_lit ?_
              refine lV (Value.pointer (some ⟨p, 0, none⟩)) he191 rfl rfl (wanted_plain rfl _) (rn_mv rfl (he191.op rfl) w190) ?_
              intro a192 he192
              clear he191 a191
              refine lCx he192 rfl rfl Tryd.func14 (by kernel_rfl) rfl rfl (wanted_plain rfl _) rfl (text_b 112 w190) ?_
              rintro _ w193 ⟨Ar, cr, rfl, ht⟩
              have hD2 := hD.made ht
              have hH193 := hH190.call ht.new
              clear hD
              have hD := hD2
              clear hD2 ht
              refine ⟨_, rfl, ?_⟩
              intro a194 he194
              clear he192 a192 hH190
              have hown := cells_sl (hD.get (i := 0) rfl).choose_spec
              replace hD := hD.pick 1 rfl
              obtain ⟨F_, hsep, hF, hstep⟩ := Dt.step (A := [shD p (pushS L pl gn ([tc 113], false)).1 pl gn]) (D := [cellsD (.slice Ar 1 cr) [tc 112], cellsD (.slice Aq 1 cq) [tc 113], shD pq L pl gn, cellsD (.slice Ao l.length co) l, rdD (Value.slice A L.length c) L]) hD
              refine lCx he194 rfl rfl Tryd.func21 (by kernel_rfl) rfl rfl (wanted_plain rfl _) rfl (set_b F_ p pl gn (pushS L pl gn ([tc 113], false)).1 0 _ [tc 112] false w193 hsep.the hF hD.tab hown) ?_
              rintro _ w195 ⟨rfl, ht⟩
              obtain ⟨hD2, hHs⟩ := hstep _ _ ht
              have hH195 := hHs _ rfl hH193
              clear hHs hstep hsep hF
              clear hD
              have hD := hD2
              clear hD2 ht
              refine ⟨_, rfl, ?_⟩
              intro a196 he196
              clear he194 a194 hH193
              clear hown
              refine wpList_nil ?_
              refine then_ok ?_
              refine wp_seq ?_
              refine wp_region_lit ?_
              refine lV (Value.pointer (some ⟨p, 0, none⟩)) he196 rfl rfl (wanted_plain rfl _) (rn_mv rfl (he196.op rfl) w195) ?_
              intro a197 he197
              clear he196 a196
              obtain ⟨F_, hsep, hF, hstep⟩ := Dt.step (A := [shD p (setS (pushS L pl gn ([tc 113], false)).1 0 ([tc 112], false)).1 pl gn]) (D := [cellsD (.slice Ar 1 cr) [tc 112], cellsD (.slice Aq 1 cq) [tc 113], shD pq L pl gn, cellsD (.slice Ao l.length co) l, rdD (Value.slice A L.length c) L]) hD
              refine lCx he197 rfl rfl Tryd.func16 (by kernel_rfl) rfl rfl (wanted_plain rfl _) rfl (drop_b F_ p pl gn (setS (pushS L pl gn ([tc 113], false)).1 0 ([tc 112], false)).1 1 w195 hsep.the hF hD.tab) ?_
              rintro _ w198 ⟨rfl, ht⟩
              obtain ⟨hD2, hHs⟩ := hstep _ _ ht
              have hH198 := hHs _ rfl hH195
              clear hHs hstep hsep hF
              clear hD
              have hD := hD2
              clear hD2 ht
              refine ⟨_, rfl, ?_⟩
              intro a199 he199
              clear he197 a197 hH195
              refine wpList_nil ?_
              refine then_ok ?_
              refine wp_seq ?_
              refine wp_region_held_drew (S := Hp (bare w) [⟨p13, 35, #[Value.slice Ao l.length co, Value.bool s]⟩, ⟨p3, 37, #[Value.int .i64 wh, Value.int .i64 i, Value.slice B l.length cb, Value.bool s]⟩, ⟨p1, 32, #[Value.int .i64 (pl : Int), Value.int .i64 (gn : Int), Value.slice A L.length c]⟩]) (by kernel_rfl) ((hH198.drew).drop1 1 rfl) (fun _ => ?_)
              have hn : New w198 (World.drew w198) := (Fr.refl _ _).drew
              replace hD := (hD).new hn
              clear hn
              have hH200 := hH198.drew
              clear hH198
              generalize World.drew w198 = w200 at *
              refine hV (fuel := 4) (i := 0) (Value.pointer (some ⟨pq, 0, none⟩)) he199 rfl rfl rfl (by kernel_rfl) (by kernel_rfl) (by kernel_rfl) (fun _ _ _ h => h) (wanted_plain rfl _) (fun w' _ => rn_mv rfl (he199.op rfl) w') (hH200.drop1 1 rfl) ?_
              intro a201 he201
              clear he199 a199
              refine hV (fuel := 3) (i := 1) (Value.agg #[Value.int .i64 (pl : Int), Value.int .i64 (gn : Int), Value.slice A L.length c]) he201 rfl rfl rfl (by kernel_rfl) (by kernel_rfl) (by kernel_rfl) (fun _ _ _ h => h) (wanted_plain rfl _) (fun w' hw' => rn_ldp [Value.int .i64 (pl : Int), Value.int .i64 (gn : Int), Value.slice A L.length c] rfl (he201.op rfl) undQ rfl infoQ3 (hw'.at (i := 2) rfl) rfl) (hH200.drop1 1 rfl) ?_
              intro a202 he202
              clear he201 a201
              refine hV (fuel := 2) (i := 2) (Value.pointer (some ⟨pq, 0, none⟩)) he202 rfl rfl rfl (by kernel_rfl) (by kernel_rfl) (by kernel_rfl) (fun _ _ _ h => h) (wanted_plain rfl _) (fun w' _ => rn_asg rfl (he202.op rfl) w') (hH200.drop1 1 rfl) ?_
              intro a203 he203
              clear he202 a202
              refine hSetV (fuel := 1) (n := 3) 1 #[Value.int .i64 (pl : Int), Value.int .i64 (gn : Int), Value.slice A L.length c] (cs := #[Value.int .i64 (pl : Int), Value.int .i64 (gn : Int), Value.slice A L.length c]) he203 hH200 (by kernel_rfl) rfl rfl (wanted_plain rfl _) rfl rfl rfl rfl rfl (by kernel_rfl) (by kernel_rfl) (by kernel_rfl) rfl ?_
              intro w204 a205 hH204 hf he205
              replace hD := hD.setb (i := 1) rfl rfl hf
              replace hH204 : Hp (bare w) [⟨p13, 35, #[Value.slice Ao l.length co, Value.bool s]⟩, ⟨p6, 32, #[Value.int .i64 (pl : Int), Value.int .i64 (gn : Int), Value.slice A L.length c]⟩, ⟨p3, 37, #[Value.int .i64 wh, Value.int .i64 i, Value.slice B l.length cb, Value.bool s]⟩, ⟨p1, 32, #[Value.int .i64 (pl : Int), Value.int .i64 (gn : Int), Value.slice A L.length c]⟩] w204 := hH204
              refine ⟨(hH204.drop1 1 rfl), ?_⟩
              clear hf
              clear he203 a203 hH200
              refine hV (fuel := 0) (i := 4) (Value.bool true) he205 rfl rfl rfl (by kernel_rfl) (by kernel_rfl) (by kernel_rfl) (fun _ _ _ h => h) (wanted_plain rfl _) (fun w' _ => rn_asg rfl (he205.op rfl) w') (hH204.drop1 1 rfl) ?_
              intro a206 he206
              clear he205 a205
              refine wpAnyH_done (by kernel_rfl) ?_ _
              refine then_ok ?_
              replace hD := hD.pick 5 rfl
              replace hD := hD.pick 4 rfl
              refine wp_ret ?_
              try simp only [Exit.then, Exit.inBlock, Exit.noGoto]
              exact ret_tct rfl he206 rfl rfl rfl (hH204.at (i := 1) rfl) undQ rfl infoQ3 ⟨pq, L, gn, A, c, rfl, (Dt.first (A := [shD pq L pl gn, rdD (Value.slice A L.length c) L]) hD).turned⟩
end Go.Proofs.YtjnghaoboopflaaDoor
