/-
  The law's small functions; the examples of the chapter.
-/
import Derived.Test.YtijaemfalljdoaaDoorPRt
namespace Go.Proofs.YtijaemfalljdoaaDoor
open Go.RowKit

set_option linter.unusedSimpArgs false in
set_option maxRecDepth 100000 in
set_option maxHeartbeats 1600000 in
theorem at_c (x y : Int) (w : World) : Calls Tryd.prog 31 #[.int .i64 x, .int .i64 y] w fun e w' => e = .returned ((⟨x, y⟩ : Pl).v) ∧ New w w' := by
  refine calls_args (vl := [Value.int .i64 x, Value.int .i64 y]) 8 Tryd.func31 rfl Tryd.ntmps31 (by kernel_rfl) (fun a he => ?_)
  have he0 : Env 8 [(0, Value.int .i64 x), (1, Value.int .i64 y)] a := he
  clear he
  have hH := Hp.start w
  refine wp_seq ?_
  refine wp_region_lit ?_
  refine lNewP (fun p => .pointer (some ⟨p, 0, none⟩)) he0 hH rfl rfl (wanted_plain rfl _) (rn_allocZ rfl w) ?_
  intro p1 w1 a2 hp hn hH1 he2
  clear he0 a hH hn hp
  refine wpList_nil ?_
  refine then_ok ?_
  refine wp_seq ?_
  refine wp_region_lit ?_
  refine lV (Value.int .i64 x) he2 rfl rfl (wanted_plain rfl _) (rn_mv rfl (he2.op rfl) w1) ?_
  intro a3 he3
  clear he2 a2
  refine lV (Value.int .i64 y) he3 rfl rfl (wanted_plain rfl _) (rn_mv rfl (he3.op rfl) w1) ?_
  intro a4 he4
  clear he3 a3
  refine lV (Value.agg #[Value.int .i64 x, Value.int .i64 y]) he4 rfl rfl (wanted_plain rfl _) (rn_bZ01 rfl (he4.op rfl) (he4.op rfl) w1) ?_
  intro a5 he5
  clear he4 a4
  refine lSetF 0 #[Value.int .i64 x, Value.int .i64 y] (cs := #[Value.int .i64 x, Value.int .i64 y]) he5 hH1 rfl (wanted_plain rfl _) rfl rfl rfl rfl rfl (by kernel_rfl) (by kernel_rfl) (by kernel_rfl) rfl ?_
  intro w6 a7 hH6 hf he7
  replace hH6 : Hp w [⟨p1, 23, #[Value.int .i64 x, Value.int .i64 y]⟩] w6 := hH6
  clear hf
  clear he5 a5 hH1
  refine wpList_nil ?_
  refine then_ok ?_
  refine wp_ret ?_
  try simp only [Exit.then, Exit.inBlock, Exit.noGoto]
  exact ret_row rfl he7 rfl (hH6.at (i := 0) rfl) undZ rfl infoZ2 ⟨by rfl, hH6.new⟩
set_option linter.unusedSimpArgs false in
set_option maxRecDepth 100000 in
set_option maxHeartbeats 1600000 in
theorem clamps_c (p : Pl) (f n c : Int) (want : Pl) (no : Int) (b : Bool) (hb : decide (clampP p f n c = (want, no)) = b) (w : World) : Calls Tryd.prog 16 #[.agg #[.int .i64 p.l, .int .i64 p.c], .int .i64 f, .int .i64 n, .int .i64 c, .agg #[.int .i64 want.l, .int .i64 want.c], .int .i64 no] w fun e w' => e = .returned (.bool b) ∧ New w w' := by
  subst hb
  refine calls_args (vl := [Value.agg #[Value.int .i64 p.l, Value.int .i64 p.c], Value.int .i64 f, Value.int .i64 n, Value.int .i64 c, Value.agg #[Value.int .i64 want.l, Value.int .i64 want.c], Value.int .i64 no]) 31 Tryd.func16 rfl Tryd.ntmps16 (by kernel_rfl) (fun a he => ?_)
  have he0 : Env 31 [(0, Value.agg #[Value.int .i64 p.l, Value.int .i64 p.c]), (1, Value.int .i64 f), (2, Value.int .i64 n), (3, Value.int .i64 c), (4, Value.agg #[Value.int .i64 want.l, Value.int .i64 want.c]), (5, Value.int .i64 no)] a := he
  clear he
  have hH := Hp.start w
  refine wp_seq ?_
  refine wp_region_lit ?_
  refine lNewP (fun p => .pointer (some ⟨p, 0, none⟩)) he0 hH rfl rfl (wanted_plain rfl _) (rn_boxZ rfl (he0.op rfl) w) ?_
  intro p1 w1 a2 hp hn hH1 he2
  clear he0 a hH hn hp
  refine lNewP (fun p => .pointer (some ⟨p, 0, none⟩)) he2 hH1 rfl rfl (wanted_plain rfl _) (rn_boxZ rfl (he2.op rfl) w1) ?_
  intro p3 w3 a4 hp hn hH3 he4
  clear he2 a2 hH1 hn hp
  refine lV (Value.bool false) he4 rfl rfl (wanted_plain rfl _) (rn_asg rfl (he4.op rfl) w3) ?_
  intro a5 he5
  clear he4 a4
  refine wpList_nil ?_
  refine then_ok ?_
  refine wp_seq ?_
  refine wp_region_lit ?_
  refine lV (Value.agg #[Value.int .i64 p.l, Value.int .i64 p.c]) he5 rfl rfl (wanted_plain rfl _) (rn_ldp [Value.int .i64 p.l, Value.int .i64 p.c] rfl (he5.op rfl) undZ rfl infoZ2 (hH3.at (i := 1) rfl) rfl) ?_
  intro a6 he6
  clear he5 a5
  refine lV (Value.int .i64 f) he6 rfl rfl (wanted_plain rfl _) (rn_mv rfl (he6.op rfl) w3) ?_
  intro a7 he7
  clear he6 a6
  refine lV (Value.int .i64 n) he7 rfl rfl (wanted_plain rfl _) (rn_mv rfl (he7.op rfl) w3) ?_
  intro a8 he8
  clear he7 a7
  refine lV (Value.int .i64 c) he8 rfl rfl (wanted_plain rfl _) (rn_mv rfl (he8.op rfl) w3) ?_
  intro a9 he9
  clear he8 a8
  refine lC he9 rfl rfl Tryd.func27 (by kernel_rfl) rfl rfl (wanted_plain rfl _) rfl (Clamp_c p f n c (clampP p f n c).1 (clampP p f n c).2 rfl w3) ?_
  intro w10 a11 hn he11
  have hH10 := hH3.call hn
  clear he9 a9 hH3 hn
  refine lV (Value.tuple #[Value.agg #[Value.int .i64 (clampP p f n c).1.l, Value.int .i64 (clampP p f n c).1.c], Value.int .i64 (clampP p f n c).2]) he11 rfl rfl (wanted_plain rfl _) (rn_mv rfl (he11.op rfl) w10) ?_
  intro a12 he12
  clear he11 a11
  refine lV (Value.agg #[Value.int .i64 (clampP p f n c).1.l, Value.int .i64 (clampP p f n c).1.c]) he12 rfl rfl (wanted_plain rfl _) (rn_ext rfl (he12.op rfl) rfl w10) ?_
  intro a13 he13
  clear he12 a12
  refine lV (Value.int .i64 (clampP p f n c).2) he13 rfl rfl (wanted_plain rfl _) (rn_ext rfl (he13.op rfl) rfl w10) ?_
  intro a14 he14
  clear he13 a13
  refine lNewP (fun p => .pointer (some ⟨p, 0, none⟩)) he14 hH10 rfl rfl (wanted_plain rfl _) (rn_allocZ rfl w10) ?_
  intro p15 w15 a16 hp hn hH15 he16
  clear he14 a14 hH10 hn hp
  refine lSetF 0 #[Value.int .i64 (clampP p f n c).1.l, Value.int .i64 (clampP p f n c).1.c] (cs := #[Value.int .i64 (clampP p f n c).1.l, Value.int .i64 (clampP p f n c).1.c]) he16 hH15 rfl (wanted_plain rfl _) rfl rfl rfl rfl rfl (by kernel_rfl) (by kernel_rfl) (by kernel_rfl) rfl ?_
  intro w17 a18 hH17 hf he18
  replace hH17 : Hp w [⟨p15, 23, #[Value.int .i64 (clampP p f n c).1.l, Value.int .i64 (clampP p f n c).1.c]⟩, ⟨p3, 23, #[Value.int .i64 want.l, Value.int .i64 want.c]⟩, ⟨p1, 23, #[Value.int .i64 p.l, Value.int .i64 p.c]⟩] w17 := hH17
  clear hf
  clear he16 a16 hH15
  refine lV (Value.int .i64 (clampP p f n c).2) he18 rfl rfl (wanted_plain rfl _) (rn_asg rfl (he18.op rfl) w17) ?_
  intro a19 he19
  clear he18 a18
  refine wpList_nil ?_
  refine then_ok ?_
  refine wp_seq ?_
  refine wp_region_lit ?_
  refine lV (Value.agg #[Value.int .i64 (clampP p f n c).1.l, Value.int .i64 (clampP p f n c).1.c]) he19 rfl rfl (wanted_plain rfl _) (rn_ldp [Value.int .i64 (clampP p f n c).1.l, Value.int .i64 (clampP p f n c).1.c] rfl (he19.op rfl) undZ rfl infoZ2 (hH17.at (i := 0) rfl) rfl) ?_
  intro a20 he20
  clear he19 a19
  refine lV (Value.agg #[Value.int .i64 want.l, Value.int .i64 want.c]) he20 rfl rfl (wanted_plain rfl _) (rn_ldp [Value.int .i64 want.l, Value.int .i64 want.c] rfl (he20.op rfl) undZ rfl infoZ2 (hH17.at (i := 1) rfl) rfl) ?_
  intro a21 he21
  clear he20 a20
  by_cases hb0 : (clampP p f n c).1.l = want.l ∧ (clampP p f n c).1.c = want.c
  · skip
    refine lV (Value.bool true) he21 rfl rfl (wanted_plain rfl _) (rn_eqZ (p := (clampP p f n c).1) (q := want) rfl (he21.op rfl) (he21.op rfl) (decide_eq_true (pl_eq.2 hb0)) w17) ?_
    intro a22 he22
    clear he21 a21
    refine lV (Value.bool true) he22 rfl rfl (wanted_plain rfl _) (rn_mv rfl (he22.op rfl) w17) ?_
    intro a23 he23
    clear he22 a22
    refine lV (Value.int .i64 (clampP p f n c).2) he23 rfl rfl (he23.want rfl rfl rfl rfl rfl) (rn_mv rfl (he23.op rfl) w17) ?_
    intro a24 he24
    clear he23 a23
    refine lV (Value.int .i64 no) he24 rfl rfl (he24.want rfl rfl rfl rfl rfl) (rn_mv rfl (he24.op rfl) w17) ?_
    intro a25 he25
    clear he24 a24
    by_cases hb1 : (clampP p f n c).2 = no
    · skip
      refine lV (Value.bool true) he25 rfl rfl (he25.want rfl rfl rfl rfl rfl) (rn_eqE rfl (he25.op rfl) (he25.op rfl) (beqT hb1) w17) ?_
      intro a26 he26
      clear he25 a25
      refine lV (Value.bool true) he26 rfl rfl (wanted_plain rfl _) (rn_pk rfl (he26.op rfl) (he26.op rfl) w17) ?_
      intro a27 he27
      clear he26 a26
      refine lV (Value.bool true) he27 rfl rfl (wanted_plain rfl _) (rn_asg rfl (he27.op rfl) w17) ?_
      intro a28 he28
      clear he27 a27
      refine wpList_nil ?_
      refine then_ok ?_
      refine wp_ret ?_
      try simp only [Exit.then, Exit.inBlock, Exit.noGoto]
      exact ret_env rfl he28 rfl ⟨by (refine congrArg (fun b => Ending.returned (.bool b)) ?_; first | exact (decide_eq_true (Prod.ext (by assumption) (by assumption))).symm | exact (decide_eq_true (Prod.ext (pl_eq.2 (by assumption)) (by assumption))).symm | exact (decide_eq_false (fun hh => absurd (pl_eq.1 (congrArg Prod.fst hh)) (by assumption))).symm | exact (decide_eq_false (fun hh => absurd (congrArg Prod.fst hh) (by assumption))).symm | exact (decide_eq_false (fun hh => absurd (congrArg Prod.snd hh) (by assumption))).symm), hH17.new⟩
    · skip
      refine lV (Value.bool false) he25 rfl rfl (he25.want rfl rfl rfl rfl rfl) (rn_eqE rfl (he25.op rfl) (he25.op rfl) (beqF hb1) w17) ?_
      intro a26 he26
      clear he25 a25
      refine lV (Value.bool false) he26 rfl rfl (wanted_plain rfl _) (rn_pk rfl (he26.op rfl) (he26.op rfl) w17) ?_
      intro a27 he27
      clear he26 a26
      refine lV (Value.bool false) he27 rfl rfl (wanted_plain rfl _) (rn_asg rfl (he27.op rfl) w17) ?_
      intro a28 he28
      clear he27 a27
      refine wpList_nil ?_
      refine then_ok ?_
      refine wp_ret ?_
      try simp only [Exit.then, Exit.inBlock, Exit.noGoto]
      exact ret_env rfl he28 rfl ⟨by (refine congrArg (fun b => Ending.returned (.bool b)) ?_; first | exact (decide_eq_true (Prod.ext (by assumption) (by assumption))).symm | exact (decide_eq_true (Prod.ext (pl_eq.2 (by assumption)) (by assumption))).symm | exact (decide_eq_false (fun hh => absurd (pl_eq.1 (congrArg Prod.fst hh)) (by assumption))).symm | exact (decide_eq_false (fun hh => absurd (congrArg Prod.fst hh) (by assumption))).symm | exact (decide_eq_false (fun hh => absurd (congrArg Prod.snd hh) (by assumption))).symm), hH17.new⟩
  · skip
    refine lV (Value.bool false) he21 rfl rfl (wanted_plain rfl _) (rn_eqZ (p := (clampP p f n c).1) (q := want) rfl (he21.op rfl) (he21.op rfl) (decide_eq_false (fun h_ => hb0 (pl_eq.1 h_))) w17) ?_
    intro a22 he22
    clear he21 a21
    refine lV (Value.bool false) he22 rfl rfl (wanted_plain rfl _) (rn_mv rfl (he22.op rfl) w17) ?_
    intro a23 he23
    clear he22 a22
    refine lSkip he23 rfl rfl (he23.wantNot rfl rfl rfl rfl rfl rfl) ?_
    intro a24 he24
    clear he23 a23
    refine lSkip he24 rfl rfl (he24.wantNot rfl rfl rfl rfl rfl rfl) ?_
    intro a25 he25
    clear he24 a24
    refine lSkip he25 rfl rfl (he25.wantNot rfl rfl rfl rfl rfl rfl) ?_
    intro a26 he26
    clear he25 a25
    refine lV (Value.bool false) he26 rfl rfl (wanted_plain rfl _) (rn_pk0 rfl (he26.op rfl) (he26.op rfl) w17) ?_
    intro a27 he27
    clear he26 a26
    refine lV (Value.bool false) he27 rfl rfl (wanted_plain rfl _) (rn_asg rfl (he27.op rfl) w17) ?_
    intro a28 he28
    clear he27 a27
    refine wpList_nil ?_
    refine then_ok ?_
    refine wp_ret ?_
    try simp only [Exit.then, Exit.inBlock, Exit.noGoto]
    exact ret_env rfl he28 rfl ⟨by (refine congrArg (fun b => Ending.returned (.bool b)) ?_; first | exact (decide_eq_true (Prod.ext (by assumption) (by assumption))).symm | exact (decide_eq_true (Prod.ext (pl_eq.2 (by assumption)) (by assumption))).symm | exact (decide_eq_false (fun hh => absurd (pl_eq.1 (congrArg Prod.fst hh)) (by assumption))).symm | exact (decide_eq_false (fun hh => absurd (congrArg Prod.fst hh) (by assumption))).symm | exact (decide_eq_false (fun hh => absurd (congrArg Prod.snd hh) (by assumption))).symm), hH17.new⟩
set_option linter.unusedSimpArgs false in
set_option maxRecDepth 100000 in
set_option maxHeartbeats 1600000 in
theorem steps_c (p : Pl) (n c : Int) (hn : I64 n) (want : Pl) (no : Int) (b : Bool) (hb : decide (stepP p n c = (want, no)) = b) (w : World) : Calls Tryd.prog 18 #[.agg #[.int .i64 p.l, .int .i64 p.c], .int .i64 n, .int .i64 c, .agg #[.int .i64 want.l, .int .i64 want.c], .int .i64 no] w fun e w' => e = .returned (.bool b) ∧ New w w' := by
  subst hb
  refine calls_args (vl := [Value.agg #[Value.int .i64 p.l, Value.int .i64 p.c], Value.int .i64 n, Value.int .i64 c, Value.agg #[Value.int .i64 want.l, Value.int .i64 want.c], Value.int .i64 no]) 28 Tryd.func18 rfl Tryd.ntmps18 (by kernel_rfl) (fun a he => ?_)
  have he0 : Env 28 [(0, Value.agg #[Value.int .i64 p.l, Value.int .i64 p.c]), (1, Value.int .i64 n), (2, Value.int .i64 c), (3, Value.agg #[Value.int .i64 want.l, Value.int .i64 want.c]), (4, Value.int .i64 no)] a := he
  clear he
  have hH := Hp.start w
  refine wp_seq ?_
  refine wp_region_lit ?_
  refine lNewP (fun p => .pointer (some ⟨p, 0, none⟩)) he0 hH rfl rfl (wanted_plain rfl _) (rn_boxZ rfl (he0.op rfl) w) ?_
  intro p1 w1 a2 hp hn hH1 he2
  clear he0 a hH hn hp
  refine lNewP (fun p => .pointer (some ⟨p, 0, none⟩)) he2 hH1 rfl rfl (wanted_plain rfl _) (rn_boxZ rfl (he2.op rfl) w1) ?_
  intro p3 w3 a4 hp hn hH3 he4
  clear he2 a2 hH1 hn hp
  refine lV (Value.bool false) he4 rfl rfl (wanted_plain rfl _) (rn_asg rfl (he4.op rfl) w3) ?_
  intro a5 he5
  clear he4 a4
  refine wpList_nil ?_
  refine then_ok ?_
  refine wp_seq ?_
  refine wp_region_lit ?_
  refine lV (Value.agg #[Value.int .i64 p.l, Value.int .i64 p.c]) he5 rfl rfl (wanted_plain rfl _) (rn_ldp [Value.int .i64 p.l, Value.int .i64 p.c] rfl (he5.op rfl) undZ rfl infoZ2 (hH3.at (i := 1) rfl) rfl) ?_
  intro a6 he6
  clear he5 a5
  refine lV (Value.int .i64 n) he6 rfl rfl (wanted_plain rfl _) (rn_mv rfl (he6.op rfl) w3) ?_
  intro a7 he7
  clear he6 a6
  refine lV (Value.int .i64 c) he7 rfl rfl (wanted_plain rfl _) (rn_mv rfl (he7.op rfl) w3) ?_
  intro a8 he8
  clear he7 a7
  refine lC he8 rfl rfl Tryd.func26 (by kernel_rfl) rfl rfl (wanted_plain rfl _) rfl (Step_c p n c hn (stepP p n c).1 (stepP p n c).2 rfl w3) ?_
  intro w9 a10 hn he10
  have hH9 := hH3.call hn
  clear he8 a8 hH3 hn
  refine lV (Value.tuple #[Value.agg #[Value.int .i64 (stepP p n c).1.l, Value.int .i64 (stepP p n c).1.c], Value.int .i64 (stepP p n c).2]) he10 rfl rfl (wanted_plain rfl _) (rn_mv rfl (he10.op rfl) w9) ?_
  intro a11 he11
  clear he10 a10
  refine lV (Value.agg #[Value.int .i64 (stepP p n c).1.l, Value.int .i64 (stepP p n c).1.c]) he11 rfl rfl (wanted_plain rfl _) (rn_ext rfl (he11.op rfl) rfl w9) ?_
  intro a12 he12
  clear he11 a11
  refine lV (Value.int .i64 (stepP p n c).2) he12 rfl rfl (wanted_plain rfl _) (rn_ext rfl (he12.op rfl) rfl w9) ?_
  intro a13 he13
  clear he12 a12
  refine lNewP (fun p => .pointer (some ⟨p, 0, none⟩)) he13 hH9 rfl rfl (wanted_plain rfl _) (rn_allocZ rfl w9) ?_
  intro p14 w14 a15 hp hn hH14 he15
  clear he13 a13 hH9 hn hp
  refine lSetF 0 #[Value.int .i64 (stepP p n c).1.l, Value.int .i64 (stepP p n c).1.c] (cs := #[Value.int .i64 (stepP p n c).1.l, Value.int .i64 (stepP p n c).1.c]) he15 hH14 rfl (wanted_plain rfl _) rfl rfl rfl rfl rfl (by kernel_rfl) (by kernel_rfl) (by kernel_rfl) rfl ?_
  intro w16 a17 hH16 hf he17
  replace hH16 : Hp w [⟨p14, 23, #[Value.int .i64 (stepP p n c).1.l, Value.int .i64 (stepP p n c).1.c]⟩, ⟨p3, 23, #[Value.int .i64 want.l, Value.int .i64 want.c]⟩, ⟨p1, 23, #[Value.int .i64 p.l, Value.int .i64 p.c]⟩] w16 := hH16
  clear hf
  clear he15 a15 hH14
  refine lV (Value.int .i64 (stepP p n c).2) he17 rfl rfl (wanted_plain rfl _) (rn_asg rfl (he17.op rfl) w16) ?_
  intro a18 he18
  clear he17 a17
  refine wpList_nil ?_
  refine then_ok ?_
  refine wp_seq ?_
  refine wp_region_lit ?_
  refine lV (Value.agg #[Value.int .i64 (stepP p n c).1.l, Value.int .i64 (stepP p n c).1.c]) he18 rfl rfl (wanted_plain rfl _) (rn_ldp [Value.int .i64 (stepP p n c).1.l, Value.int .i64 (stepP p n c).1.c] rfl (he18.op rfl) undZ rfl infoZ2 (hH16.at (i := 0) rfl) rfl) ?_
  intro a19 he19
  clear he18 a18
  refine lV (Value.agg #[Value.int .i64 want.l, Value.int .i64 want.c]) he19 rfl rfl (wanted_plain rfl _) (rn_ldp [Value.int .i64 want.l, Value.int .i64 want.c] rfl (he19.op rfl) undZ rfl infoZ2 (hH16.at (i := 1) rfl) rfl) ?_
  intro a20 he20
  clear he19 a19
  by_cases hb0 : (stepP p n c).1.l = want.l ∧ (stepP p n c).1.c = want.c
  · skip
    refine lV (Value.bool true) he20 rfl rfl (wanted_plain rfl _) (rn_eqZ (p := (stepP p n c).1) (q := want) rfl (he20.op rfl) (he20.op rfl) (decide_eq_true (pl_eq.2 hb0)) w16) ?_
    intro a21 he21
    clear he20 a20
    refine lV (Value.bool true) he21 rfl rfl (wanted_plain rfl _) (rn_mv rfl (he21.op rfl) w16) ?_
    intro a22 he22
    clear he21 a21
    refine lV (Value.int .i64 (stepP p n c).2) he22 rfl rfl (he22.want rfl rfl rfl rfl rfl) (rn_mv rfl (he22.op rfl) w16) ?_
    intro a23 he23
    clear he22 a22
    refine lV (Value.int .i64 no) he23 rfl rfl (he23.want rfl rfl rfl rfl rfl) (rn_mv rfl (he23.op rfl) w16) ?_
    intro a24 he24
    clear he23 a23
    by_cases hb1 : (stepP p n c).2 = no
    · skip
      refine lV (Value.bool true) he24 rfl rfl (he24.want rfl rfl rfl rfl rfl) (rn_eqE rfl (he24.op rfl) (he24.op rfl) (beqT hb1) w16) ?_
      intro a25 he25
      clear he24 a24
      refine lV (Value.bool true) he25 rfl rfl (wanted_plain rfl _) (rn_pk rfl (he25.op rfl) (he25.op rfl) w16) ?_
      intro a26 he26
      clear he25 a25
      refine lV (Value.bool true) he26 rfl rfl (wanted_plain rfl _) (rn_asg rfl (he26.op rfl) w16) ?_
      intro a27 he27
      clear he26 a26
      refine wpList_nil ?_
      refine then_ok ?_
      refine wp_ret ?_
      try simp only [Exit.then, Exit.inBlock, Exit.noGoto]
      exact ret_env rfl he27 rfl ⟨by (refine congrArg (fun b => Ending.returned (.bool b)) ?_; first | exact (decide_eq_true (Prod.ext (by assumption) (by assumption))).symm | exact (decide_eq_true (Prod.ext (pl_eq.2 (by assumption)) (by assumption))).symm | exact (decide_eq_false (fun hh => absurd (pl_eq.1 (congrArg Prod.fst hh)) (by assumption))).symm | exact (decide_eq_false (fun hh => absurd (congrArg Prod.fst hh) (by assumption))).symm | exact (decide_eq_false (fun hh => absurd (congrArg Prod.snd hh) (by assumption))).symm), hH16.new⟩
    · skip
      refine lV (Value.bool false) he24 rfl rfl (he24.want rfl rfl rfl rfl rfl) (rn_eqE rfl (he24.op rfl) (he24.op rfl) (beqF hb1) w16) ?_
      intro a25 he25
      clear he24 a24
      refine lV (Value.bool false) he25 rfl rfl (wanted_plain rfl _) (rn_pk rfl (he25.op rfl) (he25.op rfl) w16) ?_
      intro a26 he26
      clear he25 a25
      refine lV (Value.bool false) he26 rfl rfl (wanted_plain rfl _) (rn_asg rfl (he26.op rfl) w16) ?_
      intro a27 he27
      clear he26 a26
      refine wpList_nil ?_
      refine then_ok ?_
      refine wp_ret ?_
      try simp only [Exit.then, Exit.inBlock, Exit.noGoto]
      exact ret_env rfl he27 rfl ⟨by (refine congrArg (fun b => Ending.returned (.bool b)) ?_; first | exact (decide_eq_true (Prod.ext (by assumption) (by assumption))).symm | exact (decide_eq_true (Prod.ext (pl_eq.2 (by assumption)) (by assumption))).symm | exact (decide_eq_false (fun hh => absurd (pl_eq.1 (congrArg Prod.fst hh)) (by assumption))).symm | exact (decide_eq_false (fun hh => absurd (congrArg Prod.fst hh) (by assumption))).symm | exact (decide_eq_false (fun hh => absurd (congrArg Prod.snd hh) (by assumption))).symm), hH16.new⟩
  · skip
    refine lV (Value.bool false) he20 rfl rfl (wanted_plain rfl _) (rn_eqZ (p := (stepP p n c).1) (q := want) rfl (he20.op rfl) (he20.op rfl) (decide_eq_false (fun h_ => hb0 (pl_eq.1 h_))) w16) ?_
    intro a21 he21
    clear he20 a20
    refine lV (Value.bool false) he21 rfl rfl (wanted_plain rfl _) (rn_mv rfl (he21.op rfl) w16) ?_
    intro a22 he22
    clear he21 a21
    refine lSkip he22 rfl rfl (he22.wantNot rfl rfl rfl rfl rfl rfl) ?_
    intro a23 he23
    clear he22 a22
    refine lSkip he23 rfl rfl (he23.wantNot rfl rfl rfl rfl rfl rfl) ?_
    intro a24 he24
    clear he23 a23
    refine lSkip he24 rfl rfl (he24.wantNot rfl rfl rfl rfl rfl rfl) ?_
    intro a25 he25
    clear he24 a24
    refine lV (Value.bool false) he25 rfl rfl (wanted_plain rfl _) (rn_pk0 rfl (he25.op rfl) (he25.op rfl) w16) ?_
    intro a26 he26
    clear he25 a25
    refine lV (Value.bool false) he26 rfl rfl (wanted_plain rfl _) (rn_asg rfl (he26.op rfl) w16) ?_
    intro a27 he27
    clear he26 a26
    refine wpList_nil ?_
    refine then_ok ?_
    refine wp_ret ?_
    try simp only [Exit.then, Exit.inBlock, Exit.noGoto]
    exact ret_env rfl he27 rfl ⟨by (refine congrArg (fun b => Ending.returned (.bool b)) ?_; first | exact (decide_eq_true (Prod.ext (by assumption) (by assumption))).symm | exact (decide_eq_true (Prod.ext (pl_eq.2 (by assumption)) (by assumption))).symm | exact (decide_eq_false (fun hh => absurd (pl_eq.1 (congrArg Prod.fst hh)) (by assumption))).symm | exact (decide_eq_false (fun hh => absurd (congrArg Prod.fst hh) (by assumption))).symm | exact (decide_eq_false (fun hh => absurd (congrArg Prod.snd hh) (by assumption))).symm), hH16.new⟩
set_option linter.unusedSimpArgs false in
set_option maxRecDepth 100000 in
set_option maxHeartbeats 1600000 in
theorem distance_c (p q : Pl) (c : Int) (want : Int) (no : Int) (b : Bool) (hb : decide (distP p q c = (want, no)) = b) (w : World) : Calls Tryd.prog 20 #[.agg #[.int .i64 p.l, .int .i64 p.c], .agg #[.int .i64 q.l, .int .i64 q.c], .int .i64 c, .int .i64 want, .int .i64 no] w fun e w' => e = .returned (.bool b) ∧ New w w' := by
  subst hb
  refine calls_args (vl := [Value.agg #[Value.int .i64 p.l, Value.int .i64 p.c], Value.agg #[Value.int .i64 q.l, Value.int .i64 q.c], Value.int .i64 c, Value.int .i64 want, Value.int .i64 no]) 28 Tryd.func20 rfl Tryd.ntmps20 (by kernel_rfl) (fun a he => ?_)
  have he0 : Env 28 [(0, Value.agg #[Value.int .i64 p.l, Value.int .i64 p.c]), (1, Value.agg #[Value.int .i64 q.l, Value.int .i64 q.c]), (2, Value.int .i64 c), (3, Value.int .i64 want), (4, Value.int .i64 no)] a := he
  clear he
  have hH := Hp.start w
  refine wp_seq ?_
  refine wp_region_lit ?_
  refine lNewP (fun p => .pointer (some ⟨p, 0, none⟩)) he0 hH rfl rfl (wanted_plain rfl _) (rn_boxZ rfl (he0.op rfl) w) ?_
  intro p1 w1 a2 hp hn hH1 he2
  clear he0 a hH hn hp
  refine lNewP (fun p => .pointer (some ⟨p, 0, none⟩)) he2 hH1 rfl rfl (wanted_plain rfl _) (rn_boxZ rfl (he2.op rfl) w1) ?_
  intro p3 w3 a4 hp hn hH3 he4
  clear he2 a2 hH1 hn hp
  refine lV (Value.bool false) he4 rfl rfl (wanted_plain rfl _) (rn_asg rfl (he4.op rfl) w3) ?_
  intro a5 he5
  clear he4 a4
  refine wpList_nil ?_
  refine then_ok ?_
  refine wp_seq ?_
  refine wp_region_lit ?_
  refine lV (Value.agg #[Value.int .i64 p.l, Value.int .i64 p.c]) he5 rfl rfl (wanted_plain rfl _) (rn_ldp [Value.int .i64 p.l, Value.int .i64 p.c] rfl (he5.op rfl) undZ rfl infoZ2 (hH3.at (i := 1) rfl) rfl) ?_
  intro a6 he6
  clear he5 a5
  refine lV (Value.agg #[Value.int .i64 q.l, Value.int .i64 q.c]) he6 rfl rfl (wanted_plain rfl _) (rn_ldp [Value.int .i64 q.l, Value.int .i64 q.c] rfl (he6.op rfl) undZ rfl infoZ2 (hH3.at (i := 0) rfl) rfl) ?_
  intro a7 he7
  clear he6 a6
  refine lV (Value.int .i64 c) he7 rfl rfl (wanted_plain rfl _) (rn_mv rfl (he7.op rfl) w3) ?_
  intro a8 he8
  clear he7 a7
  refine lC he8 rfl rfl Tryd.func21 (by kernel_rfl) rfl rfl (wanted_plain rfl _) rfl (Distance_c p q c (distP p q c).1 (distP p q c).2 rfl w3) ?_
  intro w9 a10 hn he10
  have hH9 := hH3.call hn
  clear he8 a8 hH3 hn
  refine lV (Value.tuple #[Value.int .i64 (distP p q c).1, Value.int .i64 (distP p q c).2]) he10 rfl rfl (wanted_plain rfl _) (rn_mv rfl (he10.op rfl) w9) ?_
  intro a11 he11
  clear he10 a10
  refine lV (Value.int .i64 (distP p q c).1) he11 rfl rfl (wanted_plain rfl _) (rn_ext rfl (he11.op rfl) rfl w9) ?_
  intro a12 he12
  clear he11 a11
  refine lV (Value.int .i64 (distP p q c).2) he12 rfl rfl (wanted_plain rfl _) (rn_ext rfl (he12.op rfl) rfl w9) ?_
  intro a13 he13
  clear he12 a12
  refine lV (Value.int .i64 (distP p q c).1) he13 rfl rfl (wanted_plain rfl _) (rn_asg rfl (he13.op rfl) w9) ?_
  intro a14 he14
  clear he13 a13
  refine lV (Value.int .i64 (distP p q c).2) he14 rfl rfl (wanted_plain rfl _) (rn_asg rfl (he14.op rfl) w9) ?_
  intro a15 he15
  clear he14 a14
  refine wpList_nil ?_
  refine then_ok ?_
  refine wp_seq ?_
  refine wp_region_lit ?_
  refine lV (Value.int .i64 (distP p q c).1) he15 rfl rfl (wanted_plain rfl _) (rn_mv rfl (he15.op rfl) w9) ?_
  intro a16 he16
  clear he15 a15
  refine lV (Value.int .i64 want) he16 rfl rfl (wanted_plain rfl _) (rn_mv rfl (he16.op rfl) w9) ?_
  intro a17 he17
  clear he16 a16
  by_cases hb0 : (distP p q c).1 = want
  · skip
    refine lV (Value.bool true) he17 rfl rfl (wanted_plain rfl _) (rn_eqI rfl (he17.op rfl) (he17.op rfl) (beqT hb0) w9) ?_
    intro a18 he18
    clear he17 a17
    refine lV (Value.bool true) he18 rfl rfl (wanted_plain rfl _) (rn_mv rfl (he18.op rfl) w9) ?_
    intro a19 he19
    clear he18 a18
    refine lV (Value.int .i64 (distP p q c).2) he19 rfl rfl (he19.want rfl rfl rfl rfl rfl) (rn_mv rfl (he19.op rfl) w9) ?_
    intro a20 he20
    clear he19 a19
    refine lV (Value.int .i64 no) he20 rfl rfl (he20.want rfl rfl rfl rfl rfl) (rn_mv rfl (he20.op rfl) w9) ?_
    intro a21 he21
    clear he20 a20
    by_cases hb1 : (distP p q c).2 = no
    · skip
      refine lV (Value.bool true) he21 rfl rfl (he21.want rfl rfl rfl rfl rfl) (rn_eqE rfl (he21.op rfl) (he21.op rfl) (beqT hb1) w9) ?_
      intro a22 he22
      clear he21 a21
      refine lV (Value.bool true) he22 rfl rfl (wanted_plain rfl _) (rn_pk rfl (he22.op rfl) (he22.op rfl) w9) ?_
      intro a23 he23
      clear he22 a22
      refine lV (Value.bool true) he23 rfl rfl (wanted_plain rfl _) (rn_asg rfl (he23.op rfl) w9) ?_
      intro a24 he24
      clear he23 a23
      refine wpList_nil ?_
      refine then_ok ?_
      refine wp_ret ?_
      try simp only [Exit.then, Exit.inBlock, Exit.noGoto]
      exact ret_env rfl he24 rfl ⟨by (refine congrArg (fun b => Ending.returned (.bool b)) ?_; first | exact (decide_eq_true (Prod.ext (by assumption) (by assumption))).symm | exact (decide_eq_true (Prod.ext (pl_eq.2 (by assumption)) (by assumption))).symm | exact (decide_eq_false (fun hh => absurd (pl_eq.1 (congrArg Prod.fst hh)) (by assumption))).symm | exact (decide_eq_false (fun hh => absurd (congrArg Prod.fst hh) (by assumption))).symm | exact (decide_eq_false (fun hh => absurd (congrArg Prod.snd hh) (by assumption))).symm), hH9.new⟩
    · skip
      refine lV (Value.bool false) he21 rfl rfl (he21.want rfl rfl rfl rfl rfl) (rn_eqE rfl (he21.op rfl) (he21.op rfl) (beqF hb1) w9) ?_
      intro a22 he22
      clear he21 a21
      refine lV (Value.bool false) he22 rfl rfl (wanted_plain rfl _) (rn_pk rfl (he22.op rfl) (he22.op rfl) w9) ?_
      intro a23 he23
      clear he22 a22
      refine lV (Value.bool false) he23 rfl rfl (wanted_plain rfl _) (rn_asg rfl (he23.op rfl) w9) ?_
      intro a24 he24
      clear he23 a23
      refine wpList_nil ?_
      refine then_ok ?_
      refine wp_ret ?_
      try simp only [Exit.then, Exit.inBlock, Exit.noGoto]
      exact ret_env rfl he24 rfl ⟨by (refine congrArg (fun b => Ending.returned (.bool b)) ?_; first | exact (decide_eq_true (Prod.ext (by assumption) (by assumption))).symm | exact (decide_eq_true (Prod.ext (pl_eq.2 (by assumption)) (by assumption))).symm | exact (decide_eq_false (fun hh => absurd (pl_eq.1 (congrArg Prod.fst hh)) (by assumption))).symm | exact (decide_eq_false (fun hh => absurd (congrArg Prod.fst hh) (by assumption))).symm | exact (decide_eq_false (fun hh => absurd (congrArg Prod.snd hh) (by assumption))).symm), hH9.new⟩
  · skip
    refine lV (Value.bool false) he17 rfl rfl (wanted_plain rfl _) (rn_eqI rfl (he17.op rfl) (he17.op rfl) (beqF hb0) w9) ?_
    intro a18 he18
    clear he17 a17
    refine lV (Value.bool false) he18 rfl rfl (wanted_plain rfl _) (rn_mv rfl (he18.op rfl) w9) ?_
    intro a19 he19
    clear he18 a18
    refine lSkip he19 rfl rfl (he19.wantNot rfl rfl rfl rfl rfl rfl) ?_
    intro a20 he20
    clear he19 a19
    refine lSkip he20 rfl rfl (he20.wantNot rfl rfl rfl rfl rfl rfl) ?_
    intro a21 he21
    clear he20 a20
    refine lSkip he21 rfl rfl (he21.wantNot rfl rfl rfl rfl rfl rfl) ?_
    intro a22 he22
    clear he21 a21
    refine lV (Value.bool false) he22 rfl rfl (wanted_plain rfl _) (rn_pk0 rfl (he22.op rfl) (he22.op rfl) w9) ?_
    intro a23 he23
    clear he22 a22
    refine lV (Value.bool false) he23 rfl rfl (wanted_plain rfl _) (rn_asg rfl (he23.op rfl) w9) ?_
    intro a24 he24
    clear he23 a23
    refine wpList_nil ?_
    refine then_ok ?_
    refine wp_ret ?_
    try simp only [Exit.then, Exit.inBlock, Exit.noGoto]
    exact ret_env rfl he24 rfl ⟨by (refine congrArg (fun b => Ending.returned (.bool b)) ?_; first | exact (decide_eq_true (Prod.ext (by assumption) (by assumption))).symm | exact (decide_eq_true (Prod.ext (pl_eq.2 (by assumption)) (by assumption))).symm | exact (decide_eq_false (fun hh => absurd (pl_eq.1 (congrArg Prod.fst hh)) (by assumption))).symm | exact (decide_eq_false (fun hh => absurd (congrArg Prod.fst hh) (by assumption))).symm | exact (decide_eq_false (fun hh => absurd (congrArg Prod.snd hh) (by assumption))).symm), hH9.new⟩
set_option linter.unusedSimpArgs false in
set_option maxRecDepth 100000 in
set_option maxHeartbeats 1600000 in
theorem text_c (p : Pl) (want : List UInt8) (no : Int) (b : Bool) (hb : decide (textE p = (want, no)) = b) (w : World) (hT : Tab w) : Calls Tryd.prog 22 #[.agg #[.int .i64 p.l, .int .i64 p.c], .string (bs want), .int .i64 no] w fun e w' => e = .returned (.bool b) ∧ New w w' := by
  subst hb
  refine calls_args (vl := [Value.agg #[Value.int .i64 p.l, Value.int .i64 p.c], Value.string (bs want), Value.int .i64 no]) 22 Tryd.func22 rfl Tryd.ntmps22 (by kernel_rfl) (fun a he => ?_)
  have he0 : Env 22 [(0, Value.agg #[Value.int .i64 p.l, Value.int .i64 p.c]), (1, Value.string (bs want)), (2, Value.int .i64 no)] a := he
  clear he
  have hH := Hp.start w
  refine wp_seq ?_
  refine wp_region_lit ?_
  refine lNewP (fun p => .pointer (some ⟨p, 0, none⟩)) he0 hH rfl rfl (wanted_plain rfl _) (rn_boxZ rfl (he0.op rfl) w) ?_
  intro p1 w1 a2 hp hn hH1 he2
  clear he0 a hH hn hp
  refine lV (Value.bool false) he2 rfl rfl (wanted_plain rfl _) (rn_asg rfl (he2.op rfl) w1) ?_
  intro a3 he3
  clear he2 a2
  refine wpList_nil ?_
  refine then_ok ?_
  refine wp_seq ?_
  refine wp_region_lit ?_
  refine lV (Value.agg #[Value.int .i64 p.l, Value.int .i64 p.c]) he3 rfl rfl (wanted_plain rfl _) (rn_ldp [Value.int .i64 p.l, Value.int .i64 p.c] rfl (he3.op rfl) undZ rfl infoZ2 (hH1.at (i := 0) rfl) rfl) ?_
  intro a4 he4
  clear he3 a3
  refine lC he4 rfl rfl Tryd.func28 (by kernel_rfl) rfl rfl (wanted_plain rfl _) rfl (Text_c p (textE p).1 (textE p).2 rfl w1 (hT.new hH1.new)) ?_
  intro w5 a6 hn he6
  have hH5 := hH1.call hn
  clear he4 a4 hH1 hn
  refine lV (Value.tuple #[Value.string (bs (textE p).1), Value.int .i64 (textE p).2]) he6 rfl rfl (wanted_plain rfl _) (rn_mv rfl (he6.op rfl) w5) ?_
  intro a7 he7
  clear he6 a6
  refine lV (Value.string (bs (textE p).1)) he7 rfl rfl (wanted_plain rfl _) (rn_ext rfl (he7.op rfl) rfl w5) ?_
  intro a8 he8
  clear he7 a7
  refine lV (Value.int .i64 (textE p).2) he8 rfl rfl (wanted_plain rfl _) (rn_ext rfl (he8.op rfl) rfl w5) ?_
  intro a9 he9
  clear he8 a8
  refine lV (Value.string (bs (textE p).1)) he9 rfl rfl (wanted_plain rfl _) (rn_asg rfl (he9.op rfl) w5) ?_
  intro a10 he10
  clear he9 a9
  refine lV (Value.int .i64 (textE p).2) he10 rfl rfl (wanted_plain rfl _) (rn_asg rfl (he10.op rfl) w5) ?_
  intro a11 he11
  clear he10 a10
  refine wpList_nil ?_
  refine then_ok ?_
  refine wp_seq ?_
  refine wp_region_lit ?_
  refine lV (Value.string (bs (textE p).1)) he11 rfl rfl (wanted_plain rfl _) (rn_mv rfl (he11.op rfl) w5) ?_
  intro a12 he12
  clear he11 a11
  refine lV (Value.string (bs want)) he12 rfl rfl (wanted_plain rfl _) (rn_mv rfl (he12.op rfl) w5) ?_
  intro a13 he13
  clear he12 a12
  by_cases hb0 : (textE p).1 = want
  · skip
    refine lV (Value.bool true) he13 rfl rfl (wanted_plain rfl _) (rn_eqS (a := (textE p).1) (c := want) rfl (he13.op rfl) (he13.op rfl) (decide_eq_true hb0) w5) ?_
    intro a14 he14
    clear he13 a13
    refine lV (Value.bool true) he14 rfl rfl (wanted_plain rfl _) (rn_mv rfl (he14.op rfl) w5) ?_
    intro a15 he15
    clear he14 a14
    refine lV (Value.int .i64 (textE p).2) he15 rfl rfl (he15.want rfl rfl rfl rfl rfl) (rn_mv rfl (he15.op rfl) w5) ?_
    intro a16 he16
    clear he15 a15
    refine lV (Value.int .i64 no) he16 rfl rfl (he16.want rfl rfl rfl rfl rfl) (rn_mv rfl (he16.op rfl) w5) ?_
    intro a17 he17
    clear he16 a16
    by_cases hb1 : (textE p).2 = no
    · skip
      refine lV (Value.bool true) he17 rfl rfl (he17.want rfl rfl rfl rfl rfl) (rn_eqE rfl (he17.op rfl) (he17.op rfl) (beqT hb1) w5) ?_
      intro a18 he18
      clear he17 a17
      refine lV (Value.bool true) he18 rfl rfl (wanted_plain rfl _) (rn_pk rfl (he18.op rfl) (he18.op rfl) w5) ?_
      intro a19 he19
      clear he18 a18
      refine lV (Value.bool true) he19 rfl rfl (wanted_plain rfl _) (rn_asg rfl (he19.op rfl) w5) ?_
      intro a20 he20
      clear he19 a19
      refine wpList_nil ?_
      refine then_ok ?_
      refine wp_ret ?_
      try simp only [Exit.then, Exit.inBlock, Exit.noGoto]
      exact ret_env rfl he20 rfl ⟨by (refine congrArg (fun b => Ending.returned (.bool b)) ?_; first | exact (decide_eq_true (Prod.ext (by assumption) (by assumption))).symm | exact (decide_eq_true (Prod.ext (pl_eq.2 (by assumption)) (by assumption))).symm | exact (decide_eq_false (fun hh => absurd (pl_eq.1 (congrArg Prod.fst hh)) (by assumption))).symm | exact (decide_eq_false (fun hh => absurd (congrArg Prod.fst hh) (by assumption))).symm | exact (decide_eq_false (fun hh => absurd (congrArg Prod.snd hh) (by assumption))).symm), hH5.new⟩
    · skip
      refine lV (Value.bool false) he17 rfl rfl (he17.want rfl rfl rfl rfl rfl) (rn_eqE rfl (he17.op rfl) (he17.op rfl) (beqF hb1) w5) ?_
      intro a18 he18
      clear he17 a17
      refine lV (Value.bool false) he18 rfl rfl (wanted_plain rfl _) (rn_pk rfl (he18.op rfl) (he18.op rfl) w5) ?_
      intro a19 he19
      clear he18 a18
      refine lV (Value.bool false) he19 rfl rfl (wanted_plain rfl _) (rn_asg rfl (he19.op rfl) w5) ?_
      intro a20 he20
      clear he19 a19
      refine wpList_nil ?_
      refine then_ok ?_
      refine wp_ret ?_
      try simp only [Exit.then, Exit.inBlock, Exit.noGoto]
      exact ret_env rfl he20 rfl ⟨by (refine congrArg (fun b => Ending.returned (.bool b)) ?_; first | exact (decide_eq_true (Prod.ext (by assumption) (by assumption))).symm | exact (decide_eq_true (Prod.ext (pl_eq.2 (by assumption)) (by assumption))).symm | exact (decide_eq_false (fun hh => absurd (pl_eq.1 (congrArg Prod.fst hh)) (by assumption))).symm | exact (decide_eq_false (fun hh => absurd (congrArg Prod.fst hh) (by assumption))).symm | exact (decide_eq_false (fun hh => absurd (congrArg Prod.snd hh) (by assumption))).symm), hH5.new⟩
  · skip
    refine lV (Value.bool false) he13 rfl rfl (wanted_plain rfl _) (rn_eqS (a := (textE p).1) (c := want) rfl (he13.op rfl) (he13.op rfl) (decide_eq_false hb0) w5) ?_
    intro a14 he14
    clear he13 a13
    refine lV (Value.bool false) he14 rfl rfl (wanted_plain rfl _) (rn_mv rfl (he14.op rfl) w5) ?_
    intro a15 he15
    clear he14 a14
    refine lSkip he15 rfl rfl (he15.wantNot rfl rfl rfl rfl rfl rfl) ?_
    intro a16 he16
    clear he15 a15
    refine lSkip he16 rfl rfl (he16.wantNot rfl rfl rfl rfl rfl rfl) ?_
    intro a17 he17
    clear he16 a16
    refine lSkip he17 rfl rfl (he17.wantNot rfl rfl rfl rfl rfl rfl) ?_
    intro a18 he18
    clear he17 a17
    refine lV (Value.bool false) he18 rfl rfl (wanted_plain rfl _) (rn_pk0 rfl (he18.op rfl) (he18.op rfl) w5) ?_
    intro a19 he19
    clear he18 a18
    refine lV (Value.bool false) he19 rfl rfl (wanted_plain rfl _) (rn_asg rfl (he19.op rfl) w5) ?_
    intro a20 he20
    clear he19 a19
    refine wpList_nil ?_
    refine then_ok ?_
    refine wp_ret ?_
    try simp only [Exit.then, Exit.inBlock, Exit.noGoto]
    exact ret_env rfl he20 rfl ⟨by (refine congrArg (fun b => Ending.returned (.bool b)) ?_; first | exact (decide_eq_true (Prod.ext (by assumption) (by assumption))).symm | exact (decide_eq_true (Prod.ext (pl_eq.2 (by assumption)) (by assumption))).symm | exact (decide_eq_false (fun hh => absurd (pl_eq.1 (congrArg Prod.fst hh)) (by assumption))).symm | exact (decide_eq_false (fun hh => absurd (congrArg Prod.fst hh) (by assumption))).symm | exact (decide_eq_false (fun hh => absurd (congrArg Prod.snd hh) (by assumption))).symm), hH5.new⟩
set_option linter.unusedSimpArgs false in
set_option maxRecDepth 100000 in
set_option maxHeartbeats 1600000 in
theorem parses_c (l : List UInt8) (hl : l.length ≤ 1000) (want : Pl) (no : Int) (b : Bool) (hb : decide (parseE l = (want, no)) = b) (w : World) (hT : Tab w) : Calls Tryd.prog 24 #[.string (bs l), .agg #[.int .i64 want.l, .int .i64 want.c], .int .i64 no] w fun e w' => e = .returned (.bool b) ∧ New w w' := by
  subst hb
  refine calls_args (vl := [Value.string (bs l), Value.agg #[Value.int .i64 want.l, Value.int .i64 want.c], Value.int .i64 no]) 22 Tryd.func24 rfl Tryd.ntmps24 (by kernel_rfl) (fun a he => ?_)
  have he0 : Env 22 [(0, Value.string (bs l)), (1, Value.agg #[Value.int .i64 want.l, Value.int .i64 want.c]), (2, Value.int .i64 no)] a := he
  clear he
  have hH := Hp.start w
  refine wp_seq ?_
  refine wp_region_lit ?_
  refine lNewP (fun p => .pointer (some ⟨p, 0, none⟩)) he0 hH rfl rfl (wanted_plain rfl _) (rn_boxZ rfl (he0.op rfl) w) ?_
  intro p1 w1 a2 hp hn hH1 he2
  clear he0 a hH hn hp
  refine lV (Value.bool false) he2 rfl rfl (wanted_plain rfl _) (rn_asg rfl (he2.op rfl) w1) ?_
  intro a3 he3
  clear he2 a2
  refine wpList_nil ?_
  refine then_ok ?_
  refine wp_seq ?_
  refine wp_region_lit ?_
  refine lV (Value.string (bs l)) he3 rfl rfl (wanted_plain rfl _) (rn_mv rfl (he3.op rfl) w1) ?_
  intro a4 he4
  clear he3 a3
  refine lC he4 rfl rfl Tryd.func37 (by kernel_rfl) rfl rfl (wanted_plain rfl _) rfl (Parse_c l hl (parseE l).1 (parseE l).2 rfl w1 (hT.new hH1.new)) ?_
  intro w5 a6 hn he6
  have hH5 := hH1.call hn
  clear he4 a4 hH1 hn
  refine lV (Value.tuple #[Value.agg #[Value.int .i64 (parseE l).1.l, Value.int .i64 (parseE l).1.c], Value.int .i64 (parseE l).2]) he6 rfl rfl (wanted_plain rfl _) (rn_mv rfl (he6.op rfl) w5) ?_
  intro a7 he7
  clear he6 a6
  refine lV (Value.agg #[Value.int .i64 (parseE l).1.l, Value.int .i64 (parseE l).1.c]) he7 rfl rfl (wanted_plain rfl _) (rn_ext rfl (he7.op rfl) rfl w5) ?_
  intro a8 he8
  clear he7 a7
  refine lV (Value.int .i64 (parseE l).2) he8 rfl rfl (wanted_plain rfl _) (rn_ext rfl (he8.op rfl) rfl w5) ?_
  intro a9 he9
  clear he8 a8
  refine lNewP (fun p => .pointer (some ⟨p, 0, none⟩)) he9 hH5 rfl rfl (wanted_plain rfl _) (rn_allocZ rfl w5) ?_
  intro p10 w10 a11 hp hn hH10 he11
  clear he9 a9 hH5 hn hp
  refine lSetF 0 #[Value.int .i64 (parseE l).1.l, Value.int .i64 (parseE l).1.c] (cs := #[Value.int .i64 (parseE l).1.l, Value.int .i64 (parseE l).1.c]) he11 hH10 rfl (wanted_plain rfl _) rfl rfl rfl rfl rfl (by kernel_rfl) (by kernel_rfl) (by kernel_rfl) rfl ?_
  intro w12 a13 hH12 hf he13
  replace hH12 : Hp w [⟨p10, 23, #[Value.int .i64 (parseE l).1.l, Value.int .i64 (parseE l).1.c]⟩, ⟨p1, 23, #[Value.int .i64 want.l, Value.int .i64 want.c]⟩] w12 := hH12
  clear hf
  clear he11 a11 hH10
  refine lV (Value.int .i64 (parseE l).2) he13 rfl rfl (wanted_plain rfl _) (rn_asg rfl (he13.op rfl) w12) ?_
  intro a14 he14
  clear he13 a13
  refine wpList_nil ?_
  refine then_ok ?_
  refine wp_seq ?_
  refine wp_region_lit ?_
  refine lV (Value.agg #[Value.int .i64 (parseE l).1.l, Value.int .i64 (parseE l).1.c]) he14 rfl rfl (wanted_plain rfl _) (rn_ldp [Value.int .i64 (parseE l).1.l, Value.int .i64 (parseE l).1.c] rfl (he14.op rfl) undZ rfl infoZ2 (hH12.at (i := 0) rfl) rfl) ?_
  intro a15 he15
  clear he14 a14
  refine lV (Value.agg #[Value.int .i64 want.l, Value.int .i64 want.c]) he15 rfl rfl (wanted_plain rfl _) (rn_ldp [Value.int .i64 want.l, Value.int .i64 want.c] rfl (he15.op rfl) undZ rfl infoZ2 (hH12.at (i := 1) rfl) rfl) ?_
  intro a16 he16
  clear he15 a15
  by_cases hb0 : (parseE l).1.l = want.l ∧ (parseE l).1.c = want.c
  · skip
    refine lV (Value.bool true) he16 rfl rfl (wanted_plain rfl _) (rn_eqZ (p := (parseE l).1) (q := want) rfl (he16.op rfl) (he16.op rfl) (decide_eq_true (pl_eq.2 hb0)) w12) ?_
    intro a17 he17
    clear he16 a16
    refine lV (Value.bool true) he17 rfl rfl (wanted_plain rfl _) (rn_mv rfl (he17.op rfl) w12) ?_
    intro a18 he18
    clear he17 a17
    refine lV (Value.int .i64 (parseE l).2) he18 rfl rfl (he18.want rfl rfl rfl rfl rfl) (rn_mv rfl (he18.op rfl) w12) ?_
    intro a19 he19
    clear he18 a18
    refine lV (Value.int .i64 no) he19 rfl rfl (he19.want rfl rfl rfl rfl rfl) (rn_mv rfl (he19.op rfl) w12) ?_
    intro a20 he20
    clear he19 a19
    by_cases hb1 : (parseE l).2 = no
    · skip
      refine lV (Value.bool true) he20 rfl rfl (he20.want rfl rfl rfl rfl rfl) (rn_eqE rfl (he20.op rfl) (he20.op rfl) (beqT hb1) w12) ?_
      intro a21 he21
      clear he20 a20
      refine lV (Value.bool true) he21 rfl rfl (wanted_plain rfl _) (rn_pk rfl (he21.op rfl) (he21.op rfl) w12) ?_
      intro a22 he22
      clear he21 a21
      refine lV (Value.bool true) he22 rfl rfl (wanted_plain rfl _) (rn_asg rfl (he22.op rfl) w12) ?_
      intro a23 he23
      clear he22 a22
      refine wpList_nil ?_
      refine then_ok ?_
      refine wp_ret ?_
      try simp only [Exit.then, Exit.inBlock, Exit.noGoto]
      exact ret_env rfl he23 rfl ⟨by (refine congrArg (fun b => Ending.returned (.bool b)) ?_; first | exact (decide_eq_true (Prod.ext (by assumption) (by assumption))).symm | exact (decide_eq_true (Prod.ext (pl_eq.2 (by assumption)) (by assumption))).symm | exact (decide_eq_false (fun hh => absurd (pl_eq.1 (congrArg Prod.fst hh)) (by assumption))).symm | exact (decide_eq_false (fun hh => absurd (congrArg Prod.fst hh) (by assumption))).symm | exact (decide_eq_false (fun hh => absurd (congrArg Prod.snd hh) (by assumption))).symm), hH12.new⟩
    · skip
      refine lV (Value.bool false) he20 rfl rfl (he20.want rfl rfl rfl rfl rfl) (rn_eqE rfl (he20.op rfl) (he20.op rfl) (beqF hb1) w12) ?_
      intro a21 he21
      clear he20 a20
      refine lV (Value.bool false) he21 rfl rfl (wanted_plain rfl _) (rn_pk rfl (he21.op rfl) (he21.op rfl) w12) ?_
      intro a22 he22
      clear he21 a21
      refine lV (Value.bool false) he22 rfl rfl (wanted_plain rfl _) (rn_asg rfl (he22.op rfl) w12) ?_
      intro a23 he23
      clear he22 a22
      refine wpList_nil ?_
      refine then_ok ?_
      refine wp_ret ?_
      try simp only [Exit.then, Exit.inBlock, Exit.noGoto]
      exact ret_env rfl he23 rfl ⟨by (refine congrArg (fun b => Ending.returned (.bool b)) ?_; first | exact (decide_eq_true (Prod.ext (by assumption) (by assumption))).symm | exact (decide_eq_true (Prod.ext (pl_eq.2 (by assumption)) (by assumption))).symm | exact (decide_eq_false (fun hh => absurd (pl_eq.1 (congrArg Prod.fst hh)) (by assumption))).symm | exact (decide_eq_false (fun hh => absurd (congrArg Prod.fst hh) (by assumption))).symm | exact (decide_eq_false (fun hh => absurd (congrArg Prod.snd hh) (by assumption))).symm), hH12.new⟩
  · skip
    refine lV (Value.bool false) he16 rfl rfl (wanted_plain rfl _) (rn_eqZ (p := (parseE l).1) (q := want) rfl (he16.op rfl) (he16.op rfl) (decide_eq_false (fun h_ => hb0 (pl_eq.1 h_))) w12) ?_
    intro a17 he17
    clear he16 a16
    refine lV (Value.bool false) he17 rfl rfl (wanted_plain rfl _) (rn_mv rfl (he17.op rfl) w12) ?_
    intro a18 he18
    clear he17 a17
    refine lSkip he18 rfl rfl (he18.wantNot rfl rfl rfl rfl rfl rfl) ?_
    intro a19 he19
    clear he18 a18
    refine lSkip he19 rfl rfl (he19.wantNot rfl rfl rfl rfl rfl rfl) ?_
    intro a20 he20
    clear he19 a19
    refine lSkip he20 rfl rfl (he20.wantNot rfl rfl rfl rfl rfl rfl) ?_
    intro a21 he21
    clear he20 a20
    refine lV (Value.bool false) he21 rfl rfl (wanted_plain rfl _) (rn_pk0 rfl (he21.op rfl) (he21.op rfl) w12) ?_
    intro a22 he22
    clear he21 a21
    refine lV (Value.bool false) he22 rfl rfl (wanted_plain rfl _) (rn_asg rfl (he22.op rfl) w12) ?_
    intro a23 he23
    clear he22 a22
    refine wpList_nil ?_
    refine then_ok ?_
    refine wp_ret ?_
    try simp only [Exit.then, Exit.inBlock, Exit.noGoto]
    exact ret_env rfl he23 rfl ⟨by (refine congrArg (fun b => Ending.returned (.bool b)) ?_; first | exact (decide_eq_true (Prod.ext (by assumption) (by assumption))).symm | exact (decide_eq_true (Prod.ext (pl_eq.2 (by assumption)) (by assumption))).symm | exact (decide_eq_false (fun hh => absurd (pl_eq.1 (congrArg Prod.fst hh)) (by assumption))).symm | exact (decide_eq_false (fun hh => absurd (congrArg Prod.fst hh) (by assumption))).symm | exact (decide_eq_false (fun hh => absurd (congrArg Prod.snd hh) (by assumption))).symm), hH12.new⟩
theorem d1 {u : Nat} (h : u < 10) : Lib.decDigits u = [UInt8.ofNat (48 + u)] := Lib.decDigits_one h
theorem kt1 : textE ⟨12, 0⟩ = ([49, 50, 58, 48], 0) := by
  unfold textE
  rw [if_pos (by decide)]
  show (Lib.decDigits 12 ++ 58 :: Lib.decDigits 0, (0 : Int)) = _
  rw [digits_big (by decide), d1 (by decide), d1 (by decide)]
  rfl
theorem k73 : textL ⟨7, 3⟩ = [55, 58, 51] := by
  show Lib.decDigits 7 ++ 58 :: Lib.decDigits 3 = _
  rw [d1 (by decide), d1 (by decide)]
  rfl
theorem kp1 : parseE [55, 58, 51] = (⟨7, 3⟩, 0) := by
  rw [← k73]
  exact parseE_text _ (by decide)
theorem kp2 : parseE [48, 55, 58, 51] = (zPl, 6) := by
  rw [parseE_c (a := 7) (b := 3) (by rfl) (by rfl), if_neg (fun h => by rw [k73] at h; exact absurd h.2 (by decide))]
theorem kp3 : parseE [55] = (zPl, 6) := parseE_b (by rintro ⟨v, h⟩; cases h)
theorem kp4 : parseE [55, 58, 49, 48, 48, 49] = (zPl, 6) := by
  rw [parseE_c (a := 7) (b := 1001) (by rfl) (by rfl), if_neg (fun h => absurd h.1.2.2.2 (by decide))]
theorem Compare_e (p q : Pl) (r : Int) (h : cmpP p q = r) (w : World) : Calls Tryd.prog 11 #[p.v, q.v] w fun e w' => e = .returned (.int .i64 r) ∧ New w w' := h ▸ Compare_c p q w
set_option linter.unusedSimpArgs false in
set_option maxRecDepth 100000 in
set_option maxHeartbeats 1600000 in
theorem known_c  (w : World) (hT : Tab w) : Calls Tryd.prog 14 #[] w fun e w' => e = .returned (.bool true) ∧ New w w' := by
  refine calls_args (vl := []) 150 Tryd.func14 rfl Tryd.ntmps14 (by kernel_rfl) (fun a he => ?_)
  have he0 : Env 150 [] a := he
  clear he
  have hH := Hp.start w
  refine wp_seq ?_
  refine wp_region_lit ?_
  refine lV (Value.bool false) he0 rfl rfl (wanted_plain rfl _) (rn_asg rfl (he0.op rfl) w) ?_
  intro a1 he1
  clear he0 a
  refine wpList_nil ?_
  refine then_ok ?_
  refine wp_seq ?_
  refine wp_region_lit ?_
  refine lC he1 rfl rfl Tryd.func31 (by kernel_rfl) rfl rfl (wanted_plain rfl _) rfl (at_c 3 0 w) ?_
  intro w2 a3 hn he3
  have hH2 := hH.call hn
  clear he1 a1 hH hn
  refine lC he3 rfl rfl Tryd.func31 (by kernel_rfl) rfl rfl (wanted_plain rfl _) rfl (at_c 2 9 w2) ?_
  intro w4 a5 hn he5
  have hH4 := hH2.call hn
  clear he3 a3 hH2 hn
  refine lC he5 rfl rfl Tryd.func12 (by kernel_rfl) rfl rfl (wanted_plain rfl _) rfl (Order_c (⟨3, 0⟩ : Pl) (⟨2, 9⟩ : Pl) (⟨2, 9⟩ : Pl) (⟨3, 0⟩ : Pl) (by decide +kernel) w4) ?_
  intro w6 a7 hn he7
  have hH6 := hH4.call hn
  clear he5 a5 hH4 hn
  refine lV (Value.tuple #[Value.agg #[Value.int .i64 2, Value.int .i64 9], Value.agg #[Value.int .i64 3, Value.int .i64 0]]) he7 rfl rfl (wanted_plain rfl _) (rn_mv rfl (he7.op rfl) w6) ?_
  intro a8 he8
  clear he7 a7
  refine lV (Value.agg #[Value.int .i64 2, Value.int .i64 9]) he8 rfl rfl (wanted_plain rfl _) (rn_ext rfl (he8.op rfl) rfl w6) ?_
  intro a9 he9
  clear he8 a8
  refine lV (Value.agg #[Value.int .i64 3, Value.int .i64 0]) he9 rfl rfl (wanted_plain rfl _) (rn_ext rfl (he9.op rfl) rfl w6) ?_
  intro a10 he10
  clear he9 a9
  refine lNewP (fun p => .pointer (some ⟨p, 0, none⟩)) he10 hH6 rfl rfl (wanted_plain rfl _) (rn_allocZ rfl w6) ?_
  intro p11 w11 a12 hp hn hH11 he12
  clear he10 a10 hH6 hn hp
  refine lNewP (fun p => .pointer (some ⟨p, 0, none⟩)) he12 hH11 rfl rfl (wanted_plain rfl _) (rn_allocZ rfl w11) ?_
  intro p13 w13 a14 hp hn hH13 he14
  clear he12 a12 hH11 hn hp
  refine lSetF 1 #[Value.int .i64 2, Value.int .i64 9] (cs := #[Value.int .i64 2, Value.int .i64 9]) he14 hH13 rfl (wanted_plain rfl _) rfl rfl rfl rfl rfl (by kernel_rfl) (by kernel_rfl) (by kernel_rfl) rfl ?_
  intro w15 a16 hH15 hf he16
  replace hH15 : Hp w [⟨p13, 23, #[Value.int .i64 0, Value.int .i64 0]⟩, ⟨p11, 23, #[Value.int .i64 2, Value.int .i64 9]⟩] w15 := hH15
  clear hf
  clear he14 a14 hH13
  refine lSetF 0 #[Value.int .i64 3, Value.int .i64 0] (cs := #[Value.int .i64 3, Value.int .i64 0]) he16 hH15 rfl (wanted_plain rfl _) rfl rfl rfl rfl rfl (by kernel_rfl) (by kernel_rfl) (by kernel_rfl) rfl ?_
  intro w17 a18 hH17 hf he18
  replace hH17 : Hp w [⟨p13, 23, #[Value.int .i64 3, Value.int .i64 0]⟩, ⟨p11, 23, #[Value.int .i64 2, Value.int .i64 9]⟩] w17 := hH17
  clear hf
  clear he16 a16 hH15
  refine wpList_nil ?_
  as_aux_lemma =>
    refine then_ok ?_
    refine wp_seq ?_
    refine wp_seq ?_
    refine wp_region_held_drew (S := Hp w [⟨p13, 23, #[Value.int .i64 3, Value.int .i64 0]⟩, ⟨p11, 23, #[Value.int .i64 2, Value.int .i64 9]⟩]) (by kernel_rfl) (hH17.drew) (fun _ => ?_)
    have hn : New w17 (World.drew w17) := (Fr.refl _ _).drew
    clear hn
    have hH19 := hH17.drew
    clear hH17
    generalize World.drew w17 = w19 at *
    refine hC (fuel := 38) (i := 0) he18 (by kernel_rfl) rfl rfl rfl Tryd.func31 (by kernel_rfl) rfl rfl (wanted_plain rfl _) rfl (at_c 2 5 w19) ?_
    rintro _ w20 ⟨rfl, hn⟩
    have hH20 := hH19.call hn
    refine ⟨_, rfl, hH20, ?_⟩
    intro a21 he21
    clear he18 a18 hH19 hn
    refine hC (fuel := 37) (i := 1) he21 (by kernel_rfl) rfl rfl rfl Tryd.func31 (by kernel_rfl) rfl rfl (wanted_plain rfl _) rfl (at_c 2 6 w20) ?_
    rintro _ w22 ⟨rfl, hn⟩
    have hH22 := hH20.call hn
    refine ⟨_, rfl, hH22, ?_⟩
    intro a23 he23
    clear he21 a21 hH20 hn
    refine hC (fuel := 36) (i := 2) he23 (by kernel_rfl) rfl rfl rfl Tryd.func11 (by kernel_rfl) rfl rfl (wanted_plain rfl _) rfl (Compare_e (⟨2, 5⟩ : Pl) (⟨2, 6⟩ : Pl) (-1) (by decide +kernel) w22) ?_
    rintro _ w24 ⟨rfl, hn⟩
    have hH24 := hH22.call hn
    refine ⟨_, rfl, hH24, ?_⟩
    intro a25 he25
    clear he23 a23 hH22 hn
    refine hV (fuel := 35) (i := 3) (Value.bool false) he25 rfl rfl rfl (by kernel_rfl) (by kernel_rfl) (by kernel_rfl) (fun _ _ _ h => h) (wanted_plain rfl _) (fun w' _ => rn_neI rfl (he25.op rfl) (he25.op rfl) (by decide) w') hH24 ?_
    intro a26 he26
    clear he25 a25
    refine hV (fuel := 34) (i := 4) (Value.bool false) he26 rfl rfl rfl (by kernel_rfl) (by kernel_rfl) (by kernel_rfl) (fun _ _ _ h => h) (wanted_plain rfl _) (fun w' _ => rn_mv rfl (he26.op rfl) w') hH24 ?_
    intro a27 he27
    clear he26 a26
    refine hC (fuel := 33) (i := 5) he27 (by kernel_rfl) rfl rfl rfl Tryd.func31 (by kernel_rfl) rfl rfl (he27.want rfl rfl rfl rfl rfl) rfl (at_c 3 0 w24) ?_
    rintro _ w28 ⟨rfl, hn⟩
    have hH28 := hH24.call hn
    refine ⟨_, rfl, hH28, ?_⟩
    intro a29 he29
    clear he27 a27 hH24 hn
    refine hC (fuel := 32) (i := 6) he29 (by kernel_rfl) rfl rfl rfl Tryd.func31 (by kernel_rfl) rfl rfl (he29.want rfl rfl rfl rfl rfl) rfl (at_c 2 9 w28) ?_
    rintro _ w30 ⟨rfl, hn⟩
    have hH30 := hH28.call hn
    refine ⟨_, rfl, hH30, ?_⟩
    intro a31 he31
    clear he29 a29 hH28 hn
    refine hC (fuel := 31) (i := 7) he31 (by kernel_rfl) rfl rfl rfl Tryd.func11 (by kernel_rfl) rfl rfl (he31.want rfl rfl rfl rfl rfl) rfl (Compare_e (⟨3, 0⟩ : Pl) (⟨2, 9⟩ : Pl) 1 (by decide +kernel) w30) ?_
    rintro _ w32 ⟨rfl, hn⟩
    have hH32 := hH30.call hn
    refine ⟨_, rfl, hH32, ?_⟩
    intro a33 he33
    clear he31 a31 hH30 hn
    refine hV (fuel := 30) (i := 8) (Value.bool false) he33 rfl rfl rfl (by kernel_rfl) (by kernel_rfl) (by kernel_rfl) (fun _ _ _ h => h) (he33.want rfl rfl rfl rfl rfl) (fun w' _ => rn_neI rfl (he33.op rfl) (he33.op rfl) (by decide) w') hH32 ?_
    intro a34 he34
    clear he33 a33
    refine hV (fuel := 29) (i := 9) (Value.bool false) he34 rfl rfl rfl (by kernel_rfl) (by kernel_rfl) (by kernel_rfl) (fun _ _ _ h => h) (wanted_plain rfl _) (fun w' _ => rn_pk0 rfl (he34.op rfl) (he34.op rfl) w') hH32 ?_
    intro a35 he35
    clear he34 a34
    refine hV (fuel := 28) (i := 10) (Value.bool false) he35 rfl rfl rfl (by kernel_rfl) (by kernel_rfl) (by kernel_rfl) (fun _ _ _ h => h) (wanted_plain rfl _) (fun w' _ => rn_mv rfl (he35.op rfl) w') hH32 ?_
    intro a36 he36
    clear he35 a35
    refine hC (fuel := 27) (i := 11) he36 (by kernel_rfl) rfl rfl rfl Tryd.func31 (by kernel_rfl) rfl rfl (he36.want rfl rfl rfl rfl rfl) rfl (at_c 2 5 w32) ?_
    rintro _ w37 ⟨rfl, hn⟩
    have hH37 := hH32.call hn
    refine ⟨_, rfl, hH37, ?_⟩
    intro a38 he38
    clear he36 a36 hH32 hn
    refine hC (fuel := 26) (i := 12) he38 (by kernel_rfl) rfl rfl rfl Tryd.func31 (by kernel_rfl) rfl rfl (he38.want rfl rfl rfl rfl rfl) rfl (at_c 2 5 w37) ?_
    rintro _ w39 ⟨rfl, hn⟩
    have hH39 := hH37.call hn
    refine ⟨_, rfl, hH39, ?_⟩
    intro a40 he40
    clear he38 a38 hH37 hn
    refine hC (fuel := 25) (i := 13) he40 (by kernel_rfl) rfl rfl rfl Tryd.func11 (by kernel_rfl) rfl rfl (he40.want rfl rfl rfl rfl rfl) rfl (Compare_e (⟨2, 5⟩ : Pl) (⟨2, 5⟩ : Pl) 0 (by decide +kernel) w39) ?_
    rintro _ w41 ⟨rfl, hn⟩
    have hH41 := hH39.call hn
    refine ⟨_, rfl, hH41, ?_⟩
    intro a42 he42
    clear he40 a40 hH39 hn
    refine hV (fuel := 24) (i := 14) (Value.bool false) he42 rfl rfl rfl (by kernel_rfl) (by kernel_rfl) (by kernel_rfl) (fun _ _ _ h => h) (he42.want rfl rfl rfl rfl rfl) (fun w' _ => rn_neI rfl (he42.op rfl) (he42.op rfl) (by decide) w') hH41 ?_
    intro a43 he43
    clear he42 a42
    refine hV (fuel := 23) (i := 15) (Value.bool false) he43 rfl rfl rfl (by kernel_rfl) (by kernel_rfl) (by kernel_rfl) (fun _ _ _ h => h) (wanted_plain rfl _) (fun w' _ => rn_pk0 rfl (he43.op rfl) (he43.op rfl) w') hH41 ?_
    intro a44 he44
    clear he43 a43
    refine hV (fuel := 22) (i := 16) (Value.bool false) he44 rfl rfl rfl (by kernel_rfl) (by kernel_rfl) (by kernel_rfl) (fun _ _ _ h => h) (wanted_plain rfl _) (fun w' _ => rn_mv rfl (he44.op rfl) w') hH41 ?_
    intro a45 he45
    clear he44 a44
    refine hV (fuel := 21) (i := 17) (Value.agg #[Value.int .i64 2, Value.int .i64 9]) he45 rfl rfl rfl (by kernel_rfl) (by kernel_rfl) (by kernel_rfl) (fun _ _ _ h => h) (he45.want rfl rfl rfl rfl rfl) (fun w' hw' => rn_ldp [Value.int .i64 2, Value.int .i64 9] rfl (he45.op rfl) undZ rfl infoZ2 (hw'.at (i := 1) rfl) rfl) hH41 ?_
    intro a46 he46
    clear he45 a45
    refine hC (fuel := 20) (i := 18) he46 (by kernel_rfl) rfl rfl rfl Tryd.func31 (by kernel_rfl) rfl rfl (he46.want rfl rfl rfl rfl rfl) rfl (at_c 2 9 w41) ?_
    rintro _ w47 ⟨rfl, hn⟩
    have hH47 := hH41.call hn
    refine ⟨_, rfl, hH47, ?_⟩
    intro a48 he48
    clear he46 a46 hH41 hn
    refine hV (fuel := 19) (i := 19) (Value.bool false) he48 rfl rfl rfl (by kernel_rfl) (by kernel_rfl) (by kernel_rfl) (fun _ _ _ h => h) (he48.want rfl rfl rfl rfl rfl) (fun w' _ => rn_neZ (p := (⟨2, 9⟩ : Pl)) (q := (⟨2, 9⟩ : Pl)) rfl (he48.op rfl) (he48.op rfl) (ndT (pl_eq.2 (pl_eq.1 rfl))) w') hH47 ?_
    intro a49 he49
    clear he48 a48
    refine hV (fuel := 18) (i := 20) (Value.bool false) he49 rfl rfl rfl (by kernel_rfl) (by kernel_rfl) (by kernel_rfl) (fun _ _ _ h => h) (wanted_plain rfl _) (fun w' _ => rn_pk0 rfl (he49.op rfl) (he49.op rfl) w') hH47 ?_
    intro a50 he50
    clear he49 a49
    refine hV (fuel := 17) (i := 21) (Value.bool false) he50 rfl rfl rfl (by kernel_rfl) (by kernel_rfl) (by kernel_rfl) (fun _ _ _ h => h) (wanted_plain rfl _) (fun w' _ => rn_mv rfl (he50.op rfl) w') hH47 ?_
    intro a51 he51
    clear he50 a50
    refine hV (fuel := 16) (i := 22) (Value.agg #[Value.int .i64 3, Value.int .i64 0]) he51 rfl rfl rfl (by kernel_rfl) (by kernel_rfl) (by kernel_rfl) (fun _ _ _ h => h) (he51.want rfl rfl rfl rfl rfl) (fun w' hw' => rn_ldp [Value.int .i64 3, Value.int .i64 0] rfl (he51.op rfl) undZ rfl infoZ2 (hw'.at (i := 0) rfl) rfl) hH47 ?_
    intro a52 he52
    clear he51 a51
    refine hC (fuel := 15) (i := 23) he52 (by kernel_rfl) rfl rfl rfl Tryd.func31 (by kernel_rfl) rfl rfl (he52.want rfl rfl rfl rfl rfl) rfl (at_c 3 0 w47) ?_
    rintro _ w53 ⟨rfl, hn⟩
    have hH53 := hH47.call hn
    refine ⟨_, rfl, hH53, ?_⟩
    intro a54 he54
    clear he52 a52 hH47 hn
    refine hV (fuel := 14) (i := 24) (Value.bool false) he54 rfl rfl rfl (by kernel_rfl) (by kernel_rfl) (by kernel_rfl) (fun _ _ _ h => h) (he54.want rfl rfl rfl rfl rfl) (fun w' _ => rn_neZ (p := (⟨3, 0⟩ : Pl)) (q := (⟨3, 0⟩ : Pl)) rfl (he54.op rfl) (he54.op rfl) (ndT (pl_eq.2 (pl_eq.1 rfl))) w') hH53 ?_
    intro a55 he55
    clear he54 a54
    refine hV (fuel := 13) (i := 25) (Value.bool false) he55 rfl rfl rfl (by kernel_rfl) (by kernel_rfl) (by kernel_rfl) (fun _ _ _ h => h) (wanted_plain rfl _) (fun w' _ => rn_pk0 rfl (he55.op rfl) (he55.op rfl) w') hH53 ?_
    intro a56 he56
    clear he55 a55
    refine hV (fuel := 12) (i := 26) (Value.bool false) he56 rfl rfl rfl (by kernel_rfl) (by kernel_rfl) (by kernel_rfl) (fun _ _ _ h => h) (wanted_plain rfl _) (fun w' _ => rn_mv rfl (he56.op rfl) w') hH53 ?_
    intro a57 he57
    clear he56 a56
    refine hC (fuel := 11) (i := 27) he57 (by kernel_rfl) rfl rfl rfl Tryd.func31 (by kernel_rfl) rfl rfl (he57.want rfl rfl rfl rfl rfl) rfl (at_c 2 5 w53) ?_
    rintro _ w58 ⟨rfl, hn⟩
    have hH58 := hH53.call hn
    refine ⟨_, rfl, hH58, ?_⟩
    intro a59 he59
    clear he57 a57 hH53 hn
    refine hC (fuel := 10) (i := 28) he59 (by kernel_rfl) rfl rfl rfl Tryd.func31 (by kernel_rfl) rfl rfl (he59.want rfl rfl rfl rfl rfl) rfl (at_c 2 5 w58) ?_
    rintro _ w60 ⟨rfl, hn⟩
    have hH60 := hH58.call hn
    refine ⟨_, rfl, hH60, ?_⟩
    intro a61 he61
    clear he59 a59 hH58 hn
    refine hC (fuel := 9) (i := 29) he61 (by kernel_rfl) rfl rfl rfl Tryd.func31 (by kernel_rfl) rfl rfl (he61.want rfl rfl rfl rfl rfl) rfl (at_c 2 6 w60) ?_
    rintro _ w62 ⟨rfl, hn⟩
    have hH62 := hH60.call hn
    refine ⟨_, rfl, hH62, ?_⟩
    intro a63 he63
    clear he61 a61 hH60 hn
    refine hC (fuel := 8) (i := 30) he63 (by kernel_rfl) rfl rfl rfl Tryd.func13 (by kernel_rfl) rfl rfl (he63.want rfl rfl rfl rfl rfl) rfl (Within_c (⟨2, 5⟩ : Pl) (⟨2, 5⟩ : Pl) (⟨2, 6⟩ : Pl) true (by decide +kernel) w62) ?_
    rintro _ w64 ⟨rfl, hn⟩
    have hH64 := hH62.call hn
    refine ⟨_, rfl, hH64, ?_⟩
    intro a65 he65
    clear he63 a63 hH62 hn
    refine hV (fuel := 7) (i := 31) (Value.bool false) he65 rfl rfl rfl (by kernel_rfl) (by kernel_rfl) (by kernel_rfl) (fun _ _ _ h => h) (he65.want rfl rfl rfl rfl rfl) (fun w' _ => rn_not (b := true) rfl (he65.op rfl) w') hH64 ?_
    intro a66 he66
    clear he65 a65
    refine hV (fuel := 6) (i := 32) (Value.bool false) he66 rfl rfl rfl (by kernel_rfl) (by kernel_rfl) (by kernel_rfl) (fun _ _ _ h => h) (wanted_plain rfl _) (fun w' _ => rn_pk0 rfl (he66.op rfl) (he66.op rfl) w') hH64 ?_
    intro a67 he67
    clear he66 a66
    refine hV (fuel := 5) (i := 33) (Value.bool false) he67 rfl rfl rfl (by kernel_rfl) (by kernel_rfl) (by kernel_rfl) (fun _ _ _ h => h) (wanted_plain rfl _) (fun w' _ => rn_mv rfl (he67.op rfl) w') hH64 ?_
    intro a68 he68
    clear he67 a67
    refine hC (fuel := 4) (i := 34) he68 (by kernel_rfl) rfl rfl rfl Tryd.func31 (by kernel_rfl) rfl rfl (he68.want rfl rfl rfl rfl rfl) rfl (at_c 2 6 w64) ?_
    rintro _ w69 ⟨rfl, hn⟩
    have hH69 := hH64.call hn
    refine ⟨_, rfl, hH69, ?_⟩
    intro a70 he70
    clear he68 a68 hH64 hn
    refine hC (fuel := 3) (i := 35) he70 (by kernel_rfl) rfl rfl rfl Tryd.func31 (by kernel_rfl) rfl rfl (he70.want rfl rfl rfl rfl rfl) rfl (at_c 2 5 w69) ?_
    rintro _ w71 ⟨rfl, hn⟩
    have hH71 := hH69.call hn
    refine ⟨_, rfl, hH71, ?_⟩
    intro a72 he72
    clear he70 a70 hH69 hn
    refine hC (fuel := 2) (i := 36) he72 (by kernel_rfl) rfl rfl rfl Tryd.func31 (by kernel_rfl) rfl rfl (he72.want rfl rfl rfl rfl rfl) rfl (at_c 2 6 w71) ?_
    rintro _ w73 ⟨rfl, hn⟩
    have hH73 := hH71.call hn
    refine ⟨_, rfl, hH73, ?_⟩
    intro a74 he74
    clear he72 a72 hH71 hn
    refine hC (fuel := 1) (i := 37) he74 (by kernel_rfl) rfl rfl rfl Tryd.func13 (by kernel_rfl) rfl rfl (he74.want rfl rfl rfl rfl rfl) rfl (Within_c (⟨2, 6⟩ : Pl) (⟨2, 5⟩ : Pl) (⟨2, 6⟩ : Pl) false (by decide +kernel) w73) ?_
    rintro _ w75 ⟨rfl, hn⟩
    have hH75 := hH73.call hn
    refine ⟨_, rfl, hH75, ?_⟩
    intro a76 he76
    clear he74 a74 hH73 hn
    refine hV (fuel := 0) (i := 38) (Value.bool false) he76 rfl rfl rfl (by kernel_rfl) (by kernel_rfl) (by kernel_rfl) (fun _ _ _ h => h) (wanted_plain rfl _) (fun w' _ => rn_pk0 rfl (he76.op rfl) (he76.op rfl) w') hH75 ?_
    intro a77 he77
    clear he76 a76
    refine wpAnyH_done (by kernel_rfl) ?_ _
    as_aux_lemma =>
      refine then_ok ?_
      refine wp_cond_false (he77.op rfl) ?_
      refine wp_skip ?_
      refine then_ok ?_
      refine wp_seq ?_
      refine wp_region_lit ?_
      refine lC he77 rfl rfl Tryd.func31 (by kernel_rfl) rfl rfl (wanted_plain rfl _) rfl (at_c 0 0 w75) ?_
      intro w78 a79 hn he79
      have hH78 := hH75.call hn
      clear he77 a77 hH75 hn
      refine lNewP (fun p => .pointer (some ⟨p, 0, none⟩)) he79 hH78 rfl rfl (wanted_plain rfl _) (rn_allocZ rfl w78) ?_
      intro p80 w80 a81 hp hn hH80 he81
      clear he79 a79 hH78 hn hp
      refine lSetF 0 #[Value.int .i64 0, Value.int .i64 0] (cs := #[Value.int .i64 0, Value.int .i64 0]) he81 hH80 rfl (wanted_plain rfl _) rfl rfl rfl rfl rfl (by kernel_rfl) (by kernel_rfl) (by kernel_rfl) rfl ?_
      intro w82 a83 hH82 hf he83
      replace hH82 : Hp w [⟨p80, 23, #[Value.int .i64 0, Value.int .i64 0]⟩, ⟨p13, 23, #[Value.int .i64 3, Value.int .i64 0]⟩, ⟨p11, 23, #[Value.int .i64 2, Value.int .i64 9]⟩] w82 := hH82
      clear hf
      clear he81 a81 hH80
      refine wpList_nil ?_
      as_aux_lemma =>
        refine then_ok ?_
        refine wp_seq ?_
        refine wp_seq ?_
        refine wp_region_lit ?_
        refine lC he83 rfl rfl Tryd.func31 (by kernel_rfl) rfl rfl (wanted_plain rfl _) rfl (at_c 1 7 w82) ?_
        intro w84 a85 hn he85
        have hH84 := hH82.call hn
        clear he83 a83 hH82 hn
        refine lC he85 rfl rfl Tryd.func31 (by kernel_rfl) rfl rfl (wanted_plain rfl _) rfl (at_c 2 0 w84) ?_
        intro w86 a87 hn he87
        have hH86 := hH84.call hn
        clear he85 a85 hH84 hn
        refine lC he87 rfl rfl Tryd.func16 (by kernel_rfl) rfl rfl (wanted_plain rfl _) rfl (clamps_c (⟨1, 7⟩ : Pl) 2 5 4 (⟨2, 0⟩ : Pl) 0 true (by decide +kernel) w86) ?_
        intro w88 a89 hn he89
        have hH88 := hH86.call hn
        clear he87 a87 hH86 hn
        refine lV (Value.bool false) he89 rfl rfl (wanted_plain rfl _) (rn_not (b := true) rfl (he89.op rfl) w88) ?_
        intro a90 he90
        clear he89 a89
        refine lV (Value.bool false) he90 rfl rfl (wanted_plain rfl _) (rn_mv rfl (he90.op rfl) w88) ?_
        intro a91 he91
        clear he90 a90
        refine lC he91 rfl rfl Tryd.func31 (by kernel_rfl) rfl rfl (he91.want rfl rfl rfl rfl rfl) rfl (at_c 3 7 w88) ?_
        intro w92 a93 hn he93
        have hH92 := hH88.call hn
        clear he91 a91 hH88 hn
        refine lC he93 rfl rfl Tryd.func31 (by kernel_rfl) rfl rfl (he93.want rfl rfl rfl rfl rfl) rfl (at_c 3 3 w92) ?_
        intro w94 a95 hn he95
        have hH94 := hH92.call hn
        clear he93 a93 hH92 hn
        refine lC he95 rfl rfl Tryd.func16 (by kernel_rfl) rfl rfl (he95.want rfl rfl rfl rfl rfl) rfl (clamps_c (⟨3, 7⟩ : Pl) 2 5 4 (⟨3, 3⟩ : Pl) 0 true (by decide +kernel) w94) ?_
        intro w96 a97 hn he97
        have hH96 := hH94.call hn
        clear he95 a95 hH94 hn
        refine lV (Value.bool false) he97 rfl rfl (he97.want rfl rfl rfl rfl rfl) (rn_not (b := true) rfl (he97.op rfl) w96) ?_
        intro a98 he98
        clear he97 a97
        refine lV (Value.bool false) he98 rfl rfl (wanted_plain rfl _) (rn_pk0 rfl (he98.op rfl) (he98.op rfl) w96) ?_
        intro a99 he99
        clear he98 a98
        refine lV (Value.bool false) he99 rfl rfl (wanted_plain rfl _) (rn_mv rfl (he99.op rfl) w96) ?_
        intro a100 he100
        clear he99 a99
        refine lC he100 rfl rfl Tryd.func31 (by kernel_rfl) rfl rfl (he100.want rfl rfl rfl rfl rfl) rfl (at_c 5 0 w96) ?_
        intro w101 a102 hn he102
        have hH101 := hH96.call hn
        clear he100 a100 hH96 hn
        refine lC he102 rfl rfl Tryd.func31 (by kernel_rfl) rfl rfl (he102.want rfl rfl rfl rfl rfl) rfl (at_c 4 3 w101) ?_
        intro w103 a104 hn he104
        have hH103 := hH101.call hn
        clear he102 a102 hH101 hn
        refine lC he104 rfl rfl Tryd.func16 (by kernel_rfl) rfl rfl (he104.want rfl rfl rfl rfl rfl) rfl (clamps_c (⟨5, 0⟩ : Pl) 2 5 4 (⟨4, 3⟩ : Pl) 0 true (by decide +kernel) w103) ?_
        intro w105 a106 hn he106
        have hH105 := hH103.call hn
        clear he104 a104 hH103 hn
        refine lV (Value.bool false) he106 rfl rfl (he106.want rfl rfl rfl rfl rfl) (rn_not (b := true) rfl (he106.op rfl) w105) ?_
        intro a107 he107
        clear he106 a106
        refine lV (Value.bool false) he107 rfl rfl (wanted_plain rfl _) (rn_pk0 rfl (he107.op rfl) (he107.op rfl) w105) ?_
        intro a108 he108
        clear he107 a107
        refine lV (Value.bool false) he108 rfl rfl (wanted_plain rfl _) (rn_mv rfl (he108.op rfl) w105) ?_
        intro a109 he109
        clear he108 a108
        refine lC he109 rfl rfl Tryd.func31 (by kernel_rfl) rfl rfl (he109.want rfl rfl rfl rfl rfl) rfl (at_c 3 (-1) w105) ?_
        intro w110 a111 hn he111
        have hH110 := hH105.call hn
        clear he109 a109 hH105 hn
        refine lC he111 rfl rfl Tryd.func31 (by kernel_rfl) rfl rfl (he111.want rfl rfl rfl rfl rfl) rfl (at_c 3 0 w110) ?_
        intro w112 a113 hn he113
        have hH112 := hH110.call hn
        clear he111 a111 hH110 hn
        refine lC he113 rfl rfl Tryd.func16 (by kernel_rfl) rfl rfl (he113.want rfl rfl rfl rfl rfl) rfl (clamps_c (⟨3, (-1)⟩ : Pl) 2 5 4 (⟨3, 0⟩ : Pl) 0 true (by decide +kernel) w112) ?_
        intro w114 a115 hn he115
        have hH114 := hH112.call hn
        clear he113 a113 hH112 hn
        refine lV (Value.bool false) he115 rfl rfl (he115.want rfl rfl rfl rfl rfl) (rn_not (b := true) rfl (he115.op rfl) w114) ?_
        intro a116 he116
        clear he115 a115
        refine lV (Value.bool false) he116 rfl rfl (wanted_plain rfl _) (rn_pk0 rfl (he116.op rfl) (he116.op rfl) w114) ?_
        intro a117 he117
        clear he116 a116
        refine lV (Value.bool false) he117 rfl rfl (wanted_plain rfl _) (rn_mv rfl (he117.op rfl) w114) ?_
        intro a118 he118
        clear he117 a117
        refine lV (Value.agg #[Value.int .i64 0, Value.int .i64 0]) he118 rfl rfl (he118.want rfl rfl rfl rfl rfl) (rn_ldp [Value.int .i64 0, Value.int .i64 0] rfl (he118.op rfl) undZ rfl infoZ2 (hH114.at (i := 0) rfl) rfl) ?_
        intro a119 he119
        clear he118 a118
        refine lV (Value.agg #[Value.int .i64 0, Value.int .i64 0]) he119 rfl rfl (he119.want rfl rfl rfl rfl rfl) (rn_ldp [Value.int .i64 0, Value.int .i64 0] rfl (he119.op rfl) undZ rfl infoZ2 (hH114.at (i := 0) rfl) rfl) ?_
        intro a120 he120
        clear he119 a119
        refine lC he120 rfl rfl Tryd.func16 (by kernel_rfl) rfl rfl (he120.want rfl rfl rfl rfl rfl) rfl (clamps_c (⟨0, 0⟩ : Pl) 2 2 4 (⟨0, 0⟩ : Pl) 2 true (by decide +kernel) w114) ?_
        intro w121 a122 hn he122
        have hH121 := hH114.call hn
        clear he120 a120 hH114 hn
        refine lV (Value.bool false) he122 rfl rfl (he122.want rfl rfl rfl rfl rfl) (rn_not (b := true) rfl (he122.op rfl) w121) ?_
        intro a123 he123
        clear he122 a122
        refine lV (Value.bool false) he123 rfl rfl (wanted_plain rfl _) (rn_pk0 rfl (he123.op rfl) (he123.op rfl) w121) ?_
        intro a124 he124
        clear he123 a123
        refine lV (Value.bool false) he124 rfl rfl (wanted_plain rfl _) (rn_mv rfl (he124.op rfl) w121) ?_
        intro a125 he125
        clear he124 a124
        refine lV (Value.agg #[Value.int .i64 0, Value.int .i64 0]) he125 rfl rfl (he125.want rfl rfl rfl rfl rfl) (rn_ldp [Value.int .i64 0, Value.int .i64 0] rfl (he125.op rfl) undZ rfl infoZ2 (hH121.at (i := 0) rfl) rfl) ?_
        intro a126 he126
        clear he125 a125
        refine lV (Value.agg #[Value.int .i64 0, Value.int .i64 0]) he126 rfl rfl (he126.want rfl rfl rfl rfl rfl) (rn_ldp [Value.int .i64 0, Value.int .i64 0] rfl (he126.op rfl) undZ rfl infoZ2 (hH121.at (i := 0) rfl) rfl) ?_
        intro a127 he127
        clear he126 a126
        refine lC he127 rfl rfl Tryd.func16 (by kernel_rfl) rfl rfl (he127.want rfl rfl rfl rfl rfl) rfl (clamps_c (⟨0, 0⟩ : Pl) 0 1 0 (⟨0, 0⟩ : Pl) 2 true (by decide +kernel) w121) ?_
        intro w128 a129 hn he129
        have hH128 := hH121.call hn
        clear he127 a127 hH121 hn
        refine lV (Value.bool false) he129 rfl rfl (he129.want rfl rfl rfl rfl rfl) (rn_not (b := true) rfl (he129.op rfl) w128) ?_
        intro a130 he130
        clear he129 a129
        refine lV (Value.bool false) he130 rfl rfl (wanted_plain rfl _) (rn_pk0 rfl (he130.op rfl) (he130.op rfl) w128) ?_
        intro a131 he131
        clear he130 a130
        refine wpList_nil ?_
        as_aux_lemma =>
          refine then_ok ?_
          refine wp_cond_false (he131.op rfl) ?_
          refine wp_skip ?_
          refine then_ok ?_
          refine wp_seq ?_
          refine wp_seq ?_
          refine wp_region_held_drew (S := Hp w [⟨p80, 23, #[Value.int .i64 0, Value.int .i64 0]⟩, ⟨p13, 23, #[Value.int .i64 3, Value.int .i64 0]⟩, ⟨p11, 23, #[Value.int .i64 2, Value.int .i64 9]⟩]) (by kernel_rfl) (hH128.drew) (fun _ => ?_)
          have hn : New w128 (World.drew w128) := (Fr.refl _ _).drew
          clear hn
          have hH132 := hH128.drew
          clear hH128
          generalize World.drew w128 = w132 at *
          refine hC (fuel := 33) (i := 0) he131 (by kernel_rfl) rfl rfl rfl Tryd.func31 (by kernel_rfl) rfl rfl (wanted_plain rfl _) rfl (at_c 2 3 w132) ?_
          rintro _ w133 ⟨rfl, hn⟩
          have hH133 := hH132.call hn
          refine ⟨_, rfl, hH133, ?_⟩
          intro a134 he134
          clear he131 a131 hH132 hn
          refine hC (fuel := 32) (i := 1) he134 (by kernel_rfl) rfl rfl rfl Tryd.func31 (by kernel_rfl) rfl rfl (wanted_plain rfl _) rfl (at_c 3 0 w133) ?_
          rintro _ w135 ⟨rfl, hn⟩
          have hH135 := hH133.call hn
          refine ⟨_, rfl, hH135, ?_⟩
          intro a136 he136
          clear he134 a134 hH133 hn
          refine hC (fuel := 31) (i := 2) he136 (by kernel_rfl) rfl rfl rfl Tryd.func18 (by kernel_rfl) rfl rfl (wanted_plain rfl _) rfl (steps_c (⟨2, 3⟩ : Pl) 1 4 ⟨by decide, by decide⟩ (⟨3, 0⟩ : Pl) 0 true (by decide +kernel) w135) ?_
          rintro _ w137 ⟨rfl, hn⟩
          have hH137 := hH135.call hn
          refine ⟨_, rfl, hH137, ?_⟩
          intro a138 he138
          clear he136 a136 hH135 hn
          refine hV (fuel := 30) (i := 3) (Value.bool false) he138 rfl rfl rfl (by kernel_rfl) (by kernel_rfl) (by kernel_rfl) (fun _ _ _ h => h) (wanted_plain rfl _) (fun w' _ => rn_not (b := true) rfl (he138.op rfl) w') hH137 ?_
          intro a139 he139
          clear he138 a138
          refine hV (fuel := 29) (i := 4) (Value.bool false) he139 rfl rfl rfl (by kernel_rfl) (by kernel_rfl) (by kernel_rfl) (fun _ _ _ h => h) (wanted_plain rfl _) (fun w' _ => rn_mv rfl (he139.op rfl) w') hH137 ?_
          intro a140 he140
          clear he139 a139
          refine hV (fuel := 28) (i := 6) (Value.agg #[Value.int .i64 0, Value.int .i64 0]) he140 rfl rfl rfl (by kernel_rfl) (by kernel_rfl) (by kernel_rfl) (fun _ _ _ h => h) (he140.want rfl rfl rfl rfl rfl) (fun w' hw' => rn_ldp [Value.int .i64 0, Value.int .i64 0] rfl (he140.op rfl) undZ rfl infoZ2 (hw'.at (i := 0) rfl) rfl) hH137 ?_
          intro a141 he141
          clear he140 a140
          refine hC (fuel := 27) (i := 5) he141 (by kernel_rfl) rfl rfl rfl Tryd.func31 (by kernel_rfl) rfl rfl (he141.want rfl rfl rfl rfl rfl) rfl (at_c 2 3 w137) ?_
          rintro _ w142 ⟨rfl, hn⟩
          have hH142 := hH137.call hn
          refine ⟨_, rfl, hH142, ?_⟩
          intro a143 he143
          clear he141 a141 hH137 hn
          refine hC (fuel := 26) (i := 7) he143 (by kernel_rfl) rfl rfl rfl Tryd.func18 (by kernel_rfl) rfl rfl (he143.want rfl rfl rfl rfl rfl) rfl (steps_c (⟨2, 3⟩ : Pl) (-12) 4 ⟨by decide, by decide⟩ (⟨0, 0⟩ : Pl) 3 true (by decide +kernel) w142) ?_
          rintro _ w144 ⟨rfl, hn⟩
          have hH144 := hH142.call hn
          refine ⟨_, rfl, hH144, ?_⟩
          intro a145 he145
          clear he143 a143 hH142 hn
          refine hV (fuel := 25) (i := 8) (Value.bool false) he145 rfl rfl rfl (by kernel_rfl) (by kernel_rfl) (by kernel_rfl) (fun _ _ _ h => h) (he145.want rfl rfl rfl rfl rfl) (fun w' _ => rn_not (b := true) rfl (he145.op rfl) w') hH144 ?_
          intro a146 he146
          clear he145 a145
          refine hV (fuel := 24) (i := 9) (Value.bool false) he146 rfl rfl rfl (by kernel_rfl) (by kernel_rfl) (by kernel_rfl) (fun _ _ _ h => h) (wanted_plain rfl _) (fun w' _ => rn_pk0 rfl (he146.op rfl) (he146.op rfl) w') hH144 ?_
          intro a147 he147
          clear he146 a146
          refine hV (fuel := 23) (i := 10) (Value.bool false) he147 rfl rfl rfl (by kernel_rfl) (by kernel_rfl) (by kernel_rfl) (fun _ _ _ h => h) (wanted_plain rfl _) (fun w' _ => rn_mv rfl (he147.op rfl) w') hH144 ?_
          intro a148 he148
          clear he147 a147
          refine hC (fuel := 22) (i := 11) he148 (by kernel_rfl) rfl rfl rfl Tryd.func31 (by kernel_rfl) rfl rfl (he148.want rfl rfl rfl rfl rfl) rfl (at_c 2 3 w144) ?_
          rintro _ w149 ⟨rfl, hn⟩
          have hH149 := hH144.call hn
          refine ⟨_, rfl, hH149, ?_⟩
          intro a150 he150
          clear he148 a148 hH144 hn
          refine hC (fuel := 21) (i := 12) he150 (by kernel_rfl) rfl rfl rfl Tryd.func31 (by kernel_rfl) rfl rfl (he150.want rfl rfl rfl rfl rfl) rfl (at_c 5 0 w149) ?_
          rintro _ w151 ⟨rfl, hn⟩
          have hH151 := hH149.call hn
          refine ⟨_, rfl, hH151, ?_⟩
          intro a152 he152
          clear he150 a150 hH149 hn
          refine hC (fuel := 20) (i := 13) he152 (by kernel_rfl) rfl rfl rfl Tryd.func18 (by kernel_rfl) rfl rfl (he152.want rfl rfl rfl rfl rfl) rfl (steps_c (⟨2, 3⟩ : Pl) 9 4 ⟨by decide, by decide⟩ (⟨5, 0⟩ : Pl) 0 true (by decide +kernel) w151) ?_
          rintro _ w153 ⟨rfl, hn⟩
          have hH153 := hH151.call hn
          refine ⟨_, rfl, hH153, ?_⟩
          intro a154 he154
          clear he152 a152 hH151 hn
          refine hV (fuel := 19) (i := 14) (Value.bool false) he154 rfl rfl rfl (by kernel_rfl) (by kernel_rfl) (by kernel_rfl) (fun _ _ _ h => h) (he154.want rfl rfl rfl rfl rfl) (fun w' _ => rn_not (b := true) rfl (he154.op rfl) w') hH153 ?_
          intro a155 he155
          clear he154 a154
          refine hV (fuel := 18) (i := 15) (Value.bool false) he155 rfl rfl rfl (by kernel_rfl) (by kernel_rfl) (by kernel_rfl) (fun _ _ _ h => h) (wanted_plain rfl _) (fun w' _ => rn_pk0 rfl (he155.op rfl) (he155.op rfl) w') hH153 ?_
          intro a156 he156
          clear he155 a155
          refine hV (fuel := 17) (i := 16) (Value.bool false) he156 rfl rfl rfl (by kernel_rfl) (by kernel_rfl) (by kernel_rfl) (fun _ _ _ h => h) (wanted_plain rfl _) (fun w' _ => rn_mv rfl (he156.op rfl) w') hH153 ?_
          intro a157 he157
          clear he156 a156
          refine hV (fuel := 16) (i := 17) (Value.agg #[Value.int .i64 0, Value.int .i64 0]) he157 rfl rfl rfl (by kernel_rfl) (by kernel_rfl) (by kernel_rfl) (fun _ _ _ h => h) (he157.want rfl rfl rfl rfl rfl) (fun w' hw' => rn_ldp [Value.int .i64 0, Value.int .i64 0] rfl (he157.op rfl) undZ rfl infoZ2 (hw'.at (i := 0) rfl) rfl) hH153 ?_
          intro a158 he158
          clear he157 a157
          refine hV (fuel := 15) (i := 18) (Value.agg #[Value.int .i64 0, Value.int .i64 0]) he158 rfl rfl rfl (by kernel_rfl) (by kernel_rfl) (by kernel_rfl) (fun _ _ _ h => h) (he158.want rfl rfl rfl rfl rfl) (fun w' hw' => rn_ldp [Value.int .i64 0, Value.int .i64 0] rfl (he158.op rfl) undZ rfl infoZ2 (hw'.at (i := 0) rfl) rfl) hH153 ?_
          intro a159 he159
          clear he158 a158
          refine hC (fuel := 14) (i := 19) he159 (by kernel_rfl) rfl rfl rfl Tryd.func18 (by kernel_rfl) rfl rfl (he159.want rfl rfl rfl rfl rfl) rfl (steps_c (⟨0, 0⟩ : Pl) (-1) 4 ⟨by decide, by decide⟩ (⟨0, 0⟩ : Pl) 3 true (by decide +kernel) w153) ?_
          rintro _ w160 ⟨rfl, hn⟩
          have hH160 := hH153.call hn
          refine ⟨_, rfl, hH160, ?_⟩
          intro a161 he161
          clear he159 a159 hH153 hn
          refine hV (fuel := 13) (i := 20) (Value.bool false) he161 rfl rfl rfl (by kernel_rfl) (by kernel_rfl) (by kernel_rfl) (fun _ _ _ h => h) (he161.want rfl rfl rfl rfl rfl) (fun w' _ => rn_not (b := true) rfl (he161.op rfl) w') hH160 ?_
          intro a162 he162
          clear he161 a161
          refine hV (fuel := 12) (i := 21) (Value.bool false) he162 rfl rfl rfl (by kernel_rfl) (by kernel_rfl) (by kernel_rfl) (fun _ _ _ h => h) (wanted_plain rfl _) (fun w' _ => rn_pk0 rfl (he162.op rfl) (he162.op rfl) w') hH160 ?_
          intro a163 he163
          clear he162 a162
          refine hV (fuel := 11) (i := 22) (Value.bool false) he163 rfl rfl rfl (by kernel_rfl) (by kernel_rfl) (by kernel_rfl) (fun _ _ _ h => h) (wanted_plain rfl _) (fun w' _ => rn_mv rfl (he163.op rfl) w') hH160 ?_
          intro a164 he164
          clear he163 a163
          refine hV (fuel := 10) (i := 24) (Value.agg #[Value.int .i64 0, Value.int .i64 0]) he164 rfl rfl rfl (by kernel_rfl) (by kernel_rfl) (by kernel_rfl) (fun _ _ _ h => h) (he164.want rfl rfl rfl rfl rfl) (fun w' hw' => rn_ldp [Value.int .i64 0, Value.int .i64 0] rfl (he164.op rfl) undZ rfl infoZ2 (hw'.at (i := 0) rfl) rfl) hH160 ?_
          intro a165 he165
          clear he164 a164
          refine hC (fuel := 9) (i := 23) he165 (by kernel_rfl) rfl rfl rfl Tryd.func31 (by kernel_rfl) rfl rfl (he165.want rfl rfl rfl rfl rfl) rfl (at_c 2 4 w160) ?_
          rintro _ w166 ⟨rfl, hn⟩
          have hH166 := hH160.call hn
          refine ⟨_, rfl, hH166, ?_⟩
          intro a167 he167
          clear he165 a165 hH160 hn
          refine hC (fuel := 8) (i := 25) he167 (by kernel_rfl) rfl rfl rfl Tryd.func18 (by kernel_rfl) rfl rfl (he167.want rfl rfl rfl rfl rfl) rfl (steps_c (⟨2, 4⟩ : Pl) 0 4 ⟨by decide, by decide⟩ (⟨0, 0⟩ : Pl) 2 true (by decide +kernel) w166) ?_
          rintro _ w168 ⟨rfl, hn⟩
          have hH168 := hH166.call hn
          refine ⟨_, rfl, hH168, ?_⟩
          intro a169 he169
          clear he167 a167 hH166 hn
          refine hV (fuel := 7) (i := 26) (Value.bool false) he169 rfl rfl rfl (by kernel_rfl) (by kernel_rfl) (by kernel_rfl) (fun _ _ _ h => h) (he169.want rfl rfl rfl rfl rfl) (fun w' _ => rn_not (b := true) rfl (he169.op rfl) w') hH168 ?_
          intro a170 he170
          clear he169 a169
          refine hV (fuel := 6) (i := 27) (Value.bool false) he170 rfl rfl rfl (by kernel_rfl) (by kernel_rfl) (by kernel_rfl) (fun _ _ _ h => h) (wanted_plain rfl _) (fun w' _ => rn_pk0 rfl (he170.op rfl) (he170.op rfl) w') hH168 ?_
          intro a171 he171
          clear he170 a170
          refine hV (fuel := 5) (i := 28) (Value.bool false) he171 rfl rfl rfl (by kernel_rfl) (by kernel_rfl) (by kernel_rfl) (fun _ _ _ h => h) (wanted_plain rfl _) (fun w' _ => rn_mv rfl (he171.op rfl) w') hH168 ?_
          intro a172 he172
          clear he171 a171
          refine hV (fuel := 4) (i := 30) (Value.agg #[Value.int .i64 0, Value.int .i64 0]) he172 rfl rfl rfl (by kernel_rfl) (by kernel_rfl) (by kernel_rfl) (fun _ _ _ h => h) (he172.want rfl rfl rfl rfl rfl) (fun w' hw' => rn_ldp [Value.int .i64 0, Value.int .i64 0] rfl (he172.op rfl) undZ rfl infoZ2 (hw'.at (i := 0) rfl) rfl) hH168 ?_
          intro a173 he173
          clear he172 a172
          refine hC (fuel := 3) (i := 29) he173 (by kernel_rfl) rfl rfl rfl Tryd.func31 (by kernel_rfl) rfl rfl (he173.want rfl rfl rfl rfl rfl) rfl (at_c 1099511627776 3 w168) ?_
          rintro _ w174 ⟨rfl, hn⟩
          have hH174 := hH168.call hn
          refine ⟨_, rfl, hH174, ?_⟩
          intro a175 he175
          clear he173 a173 hH168 hn
          refine hC (fuel := 2) (i := 31) he175 (by kernel_rfl) rfl rfl rfl Tryd.func18 (by kernel_rfl) rfl rfl (he175.want rfl rfl rfl rfl rfl) rfl (steps_c (⟨1099511627776, 3⟩ : Pl) 1 4 ⟨by decide, by decide⟩ (⟨0, 0⟩ : Pl) 3 true (by decide +kernel) w174) ?_
          rintro _ w176 ⟨rfl, hn⟩
          have hH176 := hH174.call hn
          refine ⟨_, rfl, hH176, ?_⟩
          intro a177 he177
          clear he175 a175 hH174 hn
          refine hV (fuel := 1) (i := 32) (Value.bool false) he177 rfl rfl rfl (by kernel_rfl) (by kernel_rfl) (by kernel_rfl) (fun _ _ _ h => h) (he177.want rfl rfl rfl rfl rfl) (fun w' _ => rn_not (b := true) rfl (he177.op rfl) w') hH176 ?_
          intro a178 he178
          clear he177 a177
          refine hV (fuel := 0) (i := 33) (Value.bool false) he178 rfl rfl rfl (by kernel_rfl) (by kernel_rfl) (by kernel_rfl) (fun _ _ _ h => h) (wanted_plain rfl _) (fun w' _ => rn_pk0 rfl (he178.op rfl) (he178.op rfl) w') hH176 ?_
          intro a179 he179
          clear he178 a178
          refine wpAnyH_done (by kernel_rfl) ?_ _
          as_aux_lemma =>
            refine then_ok ?_
            refine wp_cond_false (he179.op rfl) ?_
            refine wp_skip ?_
            refine then_ok ?_
            refine wp_seq ?_
            refine wp_region_lit ?_
            refine lC he179 rfl rfl Tryd.func31 (by kernel_rfl) rfl rfl (wanted_plain rfl _) rfl (at_c 2 3 w176) ?_
            intro w180 a181 hn he181
            have hH180 := hH176.call hn
            clear he179 a179 hH176 hn
            refine lC he181 rfl rfl Tryd.func31 (by kernel_rfl) rfl rfl (wanted_plain rfl _) rfl (at_c 3 0 w180) ?_
            intro w182 a183 hn he183
            have hH182 := hH180.call hn
            clear he181 a181 hH180 hn
            refine lC he183 rfl rfl Tryd.func20 (by kernel_rfl) rfl rfl (wanted_plain rfl _) rfl (distance_c (⟨2, 3⟩ : Pl) (⟨3, 0⟩ : Pl) 4 1 0 true (by decide +kernel) w182) ?_
            intro w184 a185 hn he185
            have hH184 := hH182.call hn
            clear he183 a183 hH182 hn
            refine lV (Value.bool true) he185 rfl rfl (wanted_plain rfl _) (rn_mv rfl (he185.op rfl) w184) ?_
            intro a186 he186
            clear he185 a185
            refine lC he186 rfl rfl Tryd.func31 (by kernel_rfl) rfl rfl (he186.want rfl rfl rfl rfl rfl) rfl (at_c 3 0 w184) ?_
            intro w187 a188 hn he188
            have hH187 := hH184.call hn
            clear he186 a186 hH184 hn
            refine lC he188 rfl rfl Tryd.func31 (by kernel_rfl) rfl rfl (he188.want rfl rfl rfl rfl rfl) rfl (at_c 2 3 w187) ?_
            intro w189 a190 hn he190
            have hH189 := hH187.call hn
            clear he188 a188 hH187 hn
            refine lC he190 rfl rfl Tryd.func20 (by kernel_rfl) rfl rfl (he190.want rfl rfl rfl rfl rfl) rfl (distance_c (⟨3, 0⟩ : Pl) (⟨2, 3⟩ : Pl) 4 (-1) 0 true (by decide +kernel) w189) ?_
            intro w191 a192 hn he192
            have hH191 := hH189.call hn
            clear he190 a190 hH189 hn
            refine lV (Value.bool true) he192 rfl rfl (wanted_plain rfl _) (rn_pk rfl (he192.op rfl) (he192.op rfl) w191) ?_
            intro a193 he193
            clear he192 a192
            refine lV (Value.bool true) he193 rfl rfl (wanted_plain rfl _) (rn_mv rfl (he193.op rfl) w191) ?_
            intro a194 he194
            clear he193 a193
            refine lC he194 rfl rfl Tryd.func31 (by kernel_rfl) rfl rfl (he194.want rfl rfl rfl rfl rfl) rfl (at_c 12 0 w191) ?_
            intro w195 a196 hn he196
            have hH195 := hH191.call hn
            clear he194 a194 hH191 hn
            refine lC he196 rfl rfl Tryd.func22 (by kernel_rfl) rfl rfl (he196.want rfl rfl rfl rfl rfl) rfl (text_c (⟨12, 0⟩ : Pl) ([49, 50, 58, 48] : List UInt8) 0 true (decide_eq_true kt1) w195 (hT.new hH195.new)) ?_
            intro w197 a198 hn he198
            have hH197 := hH195.call hn
            clear he196 a196 hH195 hn
            refine lV (Value.bool true) he198 rfl rfl (wanted_plain rfl _) (rn_pk rfl (he198.op rfl) (he198.op rfl) w197) ?_
            intro a199 he199
            clear he198 a198
            refine lV (Value.bool true) he199 rfl rfl (wanted_plain rfl _) (rn_mv rfl (he199.op rfl) w197) ?_
            intro a200 he200
            clear he199 a199
            refine lC he200 rfl rfl Tryd.func31 (by kernel_rfl) rfl rfl (he200.want rfl rfl rfl rfl rfl) rfl (at_c (-1) 0 w197) ?_
            intro w201 a202 hn he202
            have hH201 := hH197.call hn
            clear he200 a200 hH197 hn
            refine lC he202 rfl rfl Tryd.func22 (by kernel_rfl) rfl rfl (he202.want rfl rfl rfl rfl rfl) rfl (text_c (⟨(-1), 0⟩ : Pl) ([] : List UInt8) 2 true (by decide +kernel) w201 (hT.new hH201.new)) ?_
            intro w203 a204 hn he204
            have hH203 := hH201.call hn
            clear he202 a202 hH201 hn
            refine lV (Value.bool true) he204 rfl rfl (wanted_plain rfl _) (rn_pk rfl (he204.op rfl) (he204.op rfl) w203) ?_
            intro a205 he205
            clear he204 a204
            refine lV (Value.bool true) he205 rfl rfl (wanted_plain rfl _) (rn_mv rfl (he205.op rfl) w203) ?_
            intro a206 he206
            clear he205 a205
            refine lC he206 rfl rfl Tryd.func31 (by kernel_rfl) rfl rfl (he206.want rfl rfl rfl rfl rfl) rfl (at_c 7 3 w203) ?_
            intro w207 a208 hn he208
            have hH207 := hH203.call hn
            clear he206 a206 hH203 hn
            refine lC he208 rfl rfl Tryd.func24 (by kernel_rfl) rfl rfl (he208.want rfl rfl rfl rfl rfl) rfl (parses_c ([55, 58, 51] : List UInt8) (by decide) (⟨7, 3⟩ : Pl) 0 true (decide_eq_true kp1) w207 (hT.new hH207.new)) ?_
            intro w209 a210 hn he210
            have hH209 := hH207.call hn
            clear he208 a208 hH207 hn
            refine lV (Value.bool true) he210 rfl rfl (wanted_plain rfl _) (rn_pk rfl (he210.op rfl) (he210.op rfl) w209) ?_
            intro a211 he211
            clear he210 a210
            refine lV (Value.bool true) he211 rfl rfl (wanted_plain rfl _) (rn_mv rfl (he211.op rfl) w209) ?_
            intro a212 he212
            clear he211 a211
            refine lV (Value.agg #[Value.int .i64 0, Value.int .i64 0]) he212 rfl rfl (he212.want rfl rfl rfl rfl rfl) (rn_ldp [Value.int .i64 0, Value.int .i64 0] rfl (he212.op rfl) undZ rfl infoZ2 (hH209.at (i := 0) rfl) rfl) ?_
            intro a213 he213
            clear he212 a212
            refine lC he213 rfl rfl Tryd.func24 (by kernel_rfl) rfl rfl (he213.want rfl rfl rfl rfl rfl) rfl (parses_c ([48, 55, 58, 51] : List UInt8) (by decide) (⟨0, 0⟩ : Pl) 6 true (decide_eq_true kp2) w209 (hT.new hH209.new)) ?_
            intro w214 a215 hn he215
            have hH214 := hH209.call hn
            clear he213 a213 hH209 hn
            refine lV (Value.bool true) he215 rfl rfl (wanted_plain rfl _) (rn_pk rfl (he215.op rfl) (he215.op rfl) w214) ?_
            intro a216 he216
            clear he215 a215
            refine lV (Value.bool true) he216 rfl rfl (wanted_plain rfl _) (rn_mv rfl (he216.op rfl) w214) ?_
            intro a217 he217
            clear he216 a216
            refine lV (Value.agg #[Value.int .i64 0, Value.int .i64 0]) he217 rfl rfl (he217.want rfl rfl rfl rfl rfl) (rn_ldp [Value.int .i64 0, Value.int .i64 0] rfl (he217.op rfl) undZ rfl infoZ2 (hH214.at (i := 0) rfl) rfl) ?_
            intro a218 he218
            clear he217 a217
            refine lC he218 rfl rfl Tryd.func24 (by kernel_rfl) rfl rfl (he218.want rfl rfl rfl rfl rfl) rfl (parses_c ([55] : List UInt8) (by decide) (⟨0, 0⟩ : Pl) 6 true (decide_eq_true kp3) w214 (hT.new hH214.new)) ?_
            intro w219 a220 hn he220
            have hH219 := hH214.call hn
            clear he218 a218 hH214 hn
            refine lV (Value.bool true) he220 rfl rfl (wanted_plain rfl _) (rn_pk rfl (he220.op rfl) (he220.op rfl) w219) ?_
            intro a221 he221
            clear he220 a220
            refine lV (Value.bool true) he221 rfl rfl (wanted_plain rfl _) (rn_mv rfl (he221.op rfl) w219) ?_
            intro a222 he222
            clear he221 a221
            refine lV (Value.agg #[Value.int .i64 0, Value.int .i64 0]) he222 rfl rfl (he222.want rfl rfl rfl rfl rfl) (rn_ldp [Value.int .i64 0, Value.int .i64 0] rfl (he222.op rfl) undZ rfl infoZ2 (hH219.at (i := 0) rfl) rfl) ?_
            intro a223 he223
            clear he222 a222
            refine lC he223 rfl rfl Tryd.func24 (by kernel_rfl) rfl rfl (he223.want rfl rfl rfl rfl rfl) rfl (parses_c ([55, 58, 49, 48, 48, 49] : List UInt8) (by decide) (⟨0, 0⟩ : Pl) 6 true (decide_eq_true kp4) w219 (hT.new hH219.new)) ?_
            intro w224 a225 hn he225
            have hH224 := hH219.call hn
            clear he223 a223 hH219 hn
            refine lV (Value.bool true) he225 rfl rfl (wanted_plain rfl _) (rn_pk rfl (he225.op rfl) (he225.op rfl) w224) ?_
            intro a226 he226
            clear he225 a225
            refine lV (Value.bool true) he226 rfl rfl (wanted_plain rfl _) (rn_asg rfl (he226.op rfl) w224) ?_
            intro a227 he227
            clear he226 a226
            refine wpList_nil ?_
            refine then_ok ?_
            refine wp_ret ?_
            try simp only [Exit.then, Exit.inBlock, Exit.noGoto]
            exact ret_env rfl he227 rfl ⟨by rfl, hH224.new⟩
end Go.Proofs.YtijaemfalljdoaaDoor
