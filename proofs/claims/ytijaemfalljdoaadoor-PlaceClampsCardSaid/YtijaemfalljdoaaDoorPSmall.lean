/-
  The small functions of package place and of its specification.
-/
import Derived.Test.YtijaemfalljdoaaDoorPOps
namespace Go.Proofs.YtijaemfalljdoaaDoor
open Go.RowKit

set_option linter.unusedSimpArgs false in
set_option maxRecDepth 100000 in
set_option maxHeartbeats 1600000 in
theorem Valid_c (p : Pl) (b : Bool) (hb : decide (okP p) = b) (w : World) : Calls Tryd.prog 9 #[.agg #[.int .i64 p.l, .int .i64 p.c]] w fun e w' => e = .returned (.bool b) ∧ New w w' := by
  subst hb
  refine calls_args (vl := [Value.agg #[Value.int .i64 p.l, Value.int .i64 p.c]]) 21 Tryd.func9 rfl Tryd.ntmps9 (by kernel_rfl) (fun a he => ?_)
  have he0 : Env 21 [(0, Value.agg #[Value.int .i64 p.l, Value.int .i64 p.c])] a := he
  clear he
  have hH := Hp.start w
  refine wp_seq ?_
  refine wp_region_lit ?_
  refine lNewP (fun p => .pointer (some ⟨p, 0, none⟩)) he0 hH rfl rfl (wanted_plain rfl _) (rn_boxZ rfl (he0.op rfl) w) ?_
  intro p1 w1 a2 hp hn hH1 he2
  clear he0 a hH hn hp
  refine lV (Value.bool false) he2 rfl rfl (wanted_plain rfl _) (rn_asg rfl (he2.op rfl) w1) ?_
  intro a3 he3
  clear he2 a2
  refine wpList_nil ?_
  refine then_ok ?_
  refine wp_seq ?_
  refine wp_region_lit ?_
  refine lV (Value.pointer (some ⟨p1, 0, none⟩)) he3 rfl rfl (wanted_plain rfl _) (rn_faZ0 rfl (he3.op rfl) rfl w1) ?_
  intro a4 he4
  clear he3 a3
  refine lV (Value.int .i64 p.l) he4 rfl rfl (wanted_plain rfl _) (rn_ld1 rfl (he4.op rfl) Tryd.underlying3 (hH1.at (i := 0) rfl) rfl) ?_
  intro a5 he5
  clear he4 a4
  by_cases hb0 : 0 ≤ p.l
  · skip
    refine lV (Value.bool true) he5 rfl rfl (wanted_plain rfl _) (rn_geI rfl (he5.op rfl) (he5.op rfl) (decide_eq_true hb0) w1) ?_
    intro a6 he6
    clear he5 a5
    refine lV (Value.bool true) he6 rfl rfl (wanted_plain rfl _) (rn_mv rfl (he6.op rfl) w1) ?_
    intro a7 he7
    clear he6 a6
    refine lV (Value.pointer (some ⟨p1, 0, none⟩)) he7 rfl rfl (he7.want rfl rfl rfl rfl rfl) (rn_faZ0 rfl (he7.op rfl) rfl w1) ?_
    intro a8 he8
    clear he7 a7
    refine lV (Value.int .i64 p.l) he8 rfl rfl (he8.want rfl rfl rfl rfl rfl) (rn_ld1 rfl (he8.op rfl) Tryd.underlying3 (hH1.at (i := 0) rfl) rfl) ?_
    intro a9 he9
    clear he8 a8
    by_cases hb1 : p.l ≤ 1099511627776
    · skip
      refine lV (Value.bool true) he9 rfl rfl (he9.want rfl rfl rfl rfl rfl) (rn_leI rfl (he9.op rfl) (he9.op rfl) (decide_eq_true hb1) w1) ?_
      intro a10 he10
      clear he9 a9
      refine lV (Value.bool true) he10 rfl rfl (wanted_plain rfl _) (rn_pk rfl (he10.op rfl) (he10.op rfl) w1) ?_
      intro a11 he11
      clear he10 a10
      refine lV (Value.bool true) he11 rfl rfl (wanted_plain rfl _) (rn_mv rfl (he11.op rfl) w1) ?_
      intro a12 he12
      clear he11 a11
      refine lV (Value.pointer (some ⟨p1, 1, none⟩)) he12 rfl rfl (he12.want rfl rfl rfl rfl rfl) (rn_faZ1 rfl (he12.op rfl) rfl w1) ?_
      intro a13 he13
      clear he12 a12
      refine lV (Value.int .i64 p.c) he13 rfl rfl (he13.want rfl rfl rfl rfl rfl) (rn_ld1 rfl (he13.op rfl) Tryd.underlying3 (hH1.at (i := 0) rfl) rfl) ?_
      intro a14 he14
      clear he13 a13
      by_cases hb2 : 0 ≤ p.c
      · skip
        refine lV (Value.bool true) he14 rfl rfl (he14.want rfl rfl rfl rfl rfl) (rn_geI rfl (he14.op rfl) (he14.op rfl) (decide_eq_true hb2) w1) ?_
        intro a15 he15
        clear he14 a14
        refine lV (Value.bool true) he15 rfl rfl (wanted_plain rfl _) (rn_pk rfl (he15.op rfl) (he15.op rfl) w1) ?_
        intro a16 he16
        clear he15 a15
        refine lV (Value.bool true) he16 rfl rfl (wanted_plain rfl _) (rn_mv rfl (he16.op rfl) w1) ?_
        intro a17 he17
        clear he16 a16
        refine lV (Value.pointer (some ⟨p1, 1, none⟩)) he17 rfl rfl (he17.want rfl rfl rfl rfl rfl) (rn_faZ1 rfl (he17.op rfl) rfl w1) ?_
        intro a18 he18
        clear he17 a17
        refine lV (Value.int .i64 p.c) he18 rfl rfl (he18.want rfl rfl rfl rfl rfl) (rn_ld1 rfl (he18.op rfl) Tryd.underlying3 (hH1.at (i := 0) rfl) rfl) ?_
        intro a19 he19
        clear he18 a18
        by_cases hb3 : p.c ≤ 1000
        · skip
          refine lV (Value.bool true) he19 rfl rfl (he19.want rfl rfl rfl rfl rfl) (rn_leI rfl (he19.op rfl) (he19.op rfl) (decide_eq_true hb3) w1) ?_
          intro a20 he20
          clear he19 a19
          refine lV (Value.bool true) he20 rfl rfl (wanted_plain rfl _) (rn_pk rfl (he20.op rfl) (he20.op rfl) w1) ?_
          intro a21 he21
          clear he20 a20
          refine lV (Value.bool true) he21 rfl rfl (wanted_plain rfl _) (rn_asg rfl (he21.op rfl) w1) ?_
          intro a22 he22
          clear he21 a21
          refine wpList_nil ?_
          refine then_ok ?_
          refine wp_ret ?_
          try simp only [Exit.then, Exit.inBlock, Exit.noGoto]
          exact ret_env rfl he22 rfl ⟨by (refine congrArg (fun b => Ending.returned (.bool b)) ?_; first | exact (decide_eq_true (by omega)).symm | exact (decide_eq_false (by omega)).symm), hH1.new⟩
        · skip
          refine lV (Value.bool false) he19 rfl rfl (he19.want rfl rfl rfl rfl rfl) (rn_leI rfl (he19.op rfl) (he19.op rfl) (decide_eq_false hb3) w1) ?_
          intro a20 he20
          clear he19 a19
          refine lV (Value.bool false) he20 rfl rfl (wanted_plain rfl _) (rn_pk rfl (he20.op rfl) (he20.op rfl) w1) ?_
          intro a21 he21
          clear he20 a20
          refine lV (Value.bool false) he21 rfl rfl (wanted_plain rfl _) (rn_asg rfl (he21.op rfl) w1) ?_
          intro a22 he22
          clear he21 a21
          refine wpList_nil ?_
          refine then_ok ?_
          refine wp_ret ?_
          try simp only [Exit.then, Exit.inBlock, Exit.noGoto]
          exact ret_env rfl he22 rfl ⟨by (refine congrArg (fun b => Ending.returned (.bool b)) ?_; first | exact (decide_eq_true (by omega)).symm | exact (decide_eq_false (by omega)).symm), hH1.new⟩
      · skip
        refine lV (Value.bool false) he14 rfl rfl (he14.want rfl rfl rfl rfl rfl) (rn_geI rfl (he14.op rfl) (he14.op rfl) (decide_eq_false hb2) w1) ?_
        intro a15 he15
        clear he14 a14
        refine lV (Value.bool false) he15 rfl rfl (wanted_plain rfl _) (rn_pk rfl (he15.op rfl) (he15.op rfl) w1) ?_
        intro a16 he16
        clear he15 a15
        refine lV (Value.bool false) he16 rfl rfl (wanted_plain rfl _) (rn_mv rfl (he16.op rfl) w1) ?_
        intro a17 he17
        clear he16 a16
        refine lSkip he17 rfl rfl (he17.wantNot rfl rfl rfl rfl rfl rfl) ?_
        intro a18 he18
        clear he17 a17
        refine lSkip he18 rfl rfl (he18.wantNot rfl rfl rfl rfl rfl rfl) ?_
        intro a19 he19
        clear he18 a18
        refine lSkip he19 rfl rfl (he19.wantNot rfl rfl rfl rfl rfl rfl) ?_
        intro a20 he20
        clear he19 a19
        refine lV (Value.bool false) he20 rfl rfl (wanted_plain rfl _) (rn_pk0 rfl (he20.op rfl) (he20.op rfl) w1) ?_
        intro a21 he21
        clear he20 a20
        refine lV (Value.bool false) he21 rfl rfl (wanted_plain rfl _) (rn_asg rfl (he21.op rfl) w1) ?_
        intro a22 he22
        clear he21 a21
        refine wpList_nil ?_
        refine then_ok ?_
        refine wp_ret ?_
        try simp only [Exit.then, Exit.inBlock, Exit.noGoto]
        exact ret_env rfl he22 rfl ⟨by (refine congrArg (fun b => Ending.returned (.bool b)) ?_; first | exact (decide_eq_true (by omega)).symm | exact (decide_eq_false (by omega)).symm), hH1.new⟩
    · skip
      refine lV (Value.bool false) he9 rfl rfl (he9.want rfl rfl rfl rfl rfl) (rn_leI rfl (he9.op rfl) (he9.op rfl) (decide_eq_false hb1) w1) ?_
      intro a10 he10
      clear he9 a9
      refine lV (Value.bool false) he10 rfl rfl (wanted_plain rfl _) (rn_pk rfl (he10.op rfl) (he10.op rfl) w1) ?_
      intro a11 he11
      clear he10 a10
      refine lV (Value.bool false) he11 rfl rfl (wanted_plain rfl _) (rn_mv rfl (he11.op rfl) w1) ?_
      intro a12 he12
      clear he11 a11
      refine lSkip he12 rfl rfl (he12.wantNot rfl rfl rfl rfl rfl rfl) ?_
      intro a13 he13
      clear he12 a12
      refine lSkip he13 rfl rfl (he13.wantNot rfl rfl rfl rfl rfl rfl) ?_
      intro a14 he14
      clear he13 a13
      refine lSkip he14 rfl rfl (he14.wantNot rfl rfl rfl rfl rfl rfl) ?_
      intro a15 he15
      clear he14 a14
      refine lV (Value.bool false) he15 rfl rfl (wanted_plain rfl _) (rn_pk0 rfl (he15.op rfl) (he15.op rfl) w1) ?_
      intro a16 he16
      clear he15 a15
      refine lV (Value.bool false) he16 rfl rfl (wanted_plain rfl _) (rn_mv rfl (he16.op rfl) w1) ?_
      intro a17 he17
      clear he16 a16
      refine lSkip he17 rfl rfl (he17.wantNot rfl rfl rfl rfl rfl rfl) ?_
      intro a18 he18
      clear he17 a17
      refine lSkip he18 rfl rfl (he18.wantNot rfl rfl rfl rfl rfl rfl) ?_
      intro a19 he19
      clear he18 a18
      refine lSkip he19 rfl rfl (he19.wantNot rfl rfl rfl rfl rfl rfl) ?_
      intro a20 he20
      clear he19 a19
      refine lV (Value.bool false) he20 rfl rfl (wanted_plain rfl _) (rn_pk0 rfl (he20.op rfl) (he20.op rfl) w1) ?_
      intro a21 he21
      clear he20 a20
      refine lV (Value.bool false) he21 rfl rfl (wanted_plain rfl _) (rn_asg rfl (he21.op rfl) w1) ?_
      intro a22 he22
      clear he21 a21
      refine wpList_nil ?_
      refine then_ok ?_
      refine wp_ret ?_
      try simp only [Exit.then, Exit.inBlock, Exit.noGoto]
      exact ret_env rfl he22 rfl ⟨by (refine congrArg (fun b => Ending.returned (.bool b)) ?_; first | exact (decide_eq_true (by omega)).symm | exact (decide_eq_false (by omega)).symm), hH1.new⟩
  · skip
    refine lV (Value.bool false) he5 rfl rfl (wanted_plain rfl _) (rn_geI rfl (he5.op rfl) (he5.op rfl) (decide_eq_false hb0) w1) ?_
    intro a6 he6
    clear he5 a5
    refine lV (Value.bool false) he6 rfl rfl (wanted_plain rfl _) (rn_mv rfl (he6.op rfl) w1) ?_
    intro a7 he7
    clear he6 a6
    refine lSkip he7 rfl rfl (he7.wantNot rfl rfl rfl rfl rfl rfl) ?_
    intro a8 he8
    clear he7 a7
    refine lSkip he8 rfl rfl (he8.wantNot rfl rfl rfl rfl rfl rfl) ?_
    intro a9 he9
    clear he8 a8
    refine lSkip he9 rfl rfl (he9.wantNot rfl rfl rfl rfl rfl rfl) ?_
    intro a10 he10
    clear he9 a9
    refine lV (Value.bool false) he10 rfl rfl (wanted_plain rfl _) (rn_pk0 rfl (he10.op rfl) (he10.op rfl) w1) ?_
    intro a11 he11
    clear he10 a10
    refine lV (Value.bool false) he11 rfl rfl (wanted_plain rfl _) (rn_mv rfl (he11.op rfl) w1) ?_
    intro a12 he12
    clear he11 a11
    refine lSkip he12 rfl rfl (he12.wantNot rfl rfl rfl rfl rfl rfl) ?_
    intro a13 he13
    clear he12 a12
    refine lSkip he13 rfl rfl (he13.wantNot rfl rfl rfl rfl rfl rfl) ?_
    intro a14 he14
    clear he13 a13
    refine lSkip he14 rfl rfl (he14.wantNot rfl rfl rfl rfl rfl rfl) ?_
    intro a15 he15
    clear he14 a14
    refine lV (Value.bool false) he15 rfl rfl (wanted_plain rfl _) (rn_pk0 rfl (he15.op rfl) (he15.op rfl) w1) ?_
    intro a16 he16
    clear he15 a15
    refine lV (Value.bool false) he16 rfl rfl (wanted_plain rfl _) (rn_mv rfl (he16.op rfl) w1) ?_
    intro a17 he17
    clear he16 a16
    refine lSkip he17 rfl rfl (he17.wantNot rfl rfl rfl rfl rfl rfl) ?_
    intro a18 he18
    clear he17 a17
    refine lSkip he18 rfl rfl (he18.wantNot rfl rfl rfl rfl rfl rfl) ?_
    intro a19 he19
    clear he18 a18
    refine lSkip he19 rfl rfl (he19.wantNot rfl rfl rfl rfl rfl rfl) ?_
    intro a20 he20
    clear he19 a19
    refine lV (Value.bool false) he20 rfl rfl (wanted_plain rfl _) (rn_pk0 rfl (he20.op rfl) (he20.op rfl) w1) ?_
    intro a21 he21
    clear he20 a20
    refine lV (Value.bool false) he21 rfl rfl (wanted_plain rfl _) (rn_asg rfl (he21.op rfl) w1) ?_
    intro a22 he22
    clear he21 a21
    refine wpList_nil ?_
    refine then_ok ?_
    refine wp_ret ?_
    try simp only [Exit.then, Exit.inBlock, Exit.noGoto]
    exact ret_env rfl he22 rfl ⟨by (refine congrArg (fun b => Ending.returned (.bool b)) ?_; first | exact (decide_eq_true (by omega)).symm | exact (decide_eq_false (by omega)).symm), hH1.new⟩
set_option linter.unusedSimpArgs false in
set_option maxRecDepth 100000 in
set_option maxHeartbeats 1600000 in
theorem RValid_c (p : Pl) (b : Bool) (hb : decide (okP p) = b) (w : World) : Calls Tryd.prog 10 #[.agg #[.int .i64 p.l, .int .i64 p.c]] w fun e w' => e = .returned (.bool b) ∧ New w w' := by
  subst hb
  refine calls_args (vl := [Value.agg #[Value.int .i64 p.l, Value.int .i64 p.c]]) 21 Tryd.func10 rfl Tryd.ntmps10 (by kernel_rfl) (fun a he => ?_)
  have he0 : Env 21 [(0, Value.agg #[Value.int .i64 p.l, Value.int .i64 p.c])] a := he
  clear he
  have hH := Hp.start w
  refine wp_seq ?_
  refine wp_region_lit ?_
  refine lNewP (fun p => .pointer (some ⟨p, 0, none⟩)) he0 hH rfl rfl (wanted_plain rfl _) (rn_boxZ rfl (he0.op rfl) w) ?_
  intro p1 w1 a2 hp hn hH1 he2
  clear he0 a hH hn hp
  refine lV (Value.bool false) he2 rfl rfl (wanted_plain rfl _) (rn_asg rfl (he2.op rfl) w1) ?_
  intro a3 he3
  clear he2 a2
  refine wpList_nil ?_
  refine then_ok ?_
  refine wp_seq ?_
  refine wp_region_lit ?_
  refine lV (Value.pointer (some ⟨p1, 0, none⟩)) he3 rfl rfl (wanted_plain rfl _) (rn_faZ0 rfl (he3.op rfl) rfl w1) ?_
  intro a4 he4
  clear he3 a3
  refine lV (Value.int .i64 p.l) he4 rfl rfl (wanted_plain rfl _) (rn_ld1 rfl (he4.op rfl) Tryd.underlying3 (hH1.at (i := 0) rfl) rfl) ?_
  intro a5 he5
  clear he4 a4
  by_cases hb0 : 0 ≤ p.l
  · skip
    refine lV (Value.bool true) he5 rfl rfl (wanted_plain rfl _) (rn_geI rfl (he5.op rfl) (he5.op rfl) (decide_eq_true hb0) w1) ?_
    intro a6 he6
    clear he5 a5
    refine lV (Value.bool true) he6 rfl rfl (wanted_plain rfl _) (rn_mv rfl (he6.op rfl) w1) ?_
    intro a7 he7
    clear he6 a6
    refine lV (Value.pointer (some ⟨p1, 0, none⟩)) he7 rfl rfl (he7.want rfl rfl rfl rfl rfl) (rn_faZ0 rfl (he7.op rfl) rfl w1) ?_
    intro a8 he8
    clear he7 a7
    refine lV (Value.int .i64 p.l) he8 rfl rfl (he8.want rfl rfl rfl rfl rfl) (rn_ld1 rfl (he8.op rfl) Tryd.underlying3 (hH1.at (i := 0) rfl) rfl) ?_
    intro a9 he9
    clear he8 a8
    by_cases hb1 : p.l ≤ 1099511627776
    · skip
      refine lV (Value.bool true) he9 rfl rfl (he9.want rfl rfl rfl rfl rfl) (rn_leI rfl (he9.op rfl) (he9.op rfl) (decide_eq_true hb1) w1) ?_
      intro a10 he10
      clear he9 a9
      refine lV (Value.bool true) he10 rfl rfl (wanted_plain rfl _) (rn_pk rfl (he10.op rfl) (he10.op rfl) w1) ?_
      intro a11 he11
      clear he10 a10
      refine lV (Value.bool true) he11 rfl rfl (wanted_plain rfl _) (rn_mv rfl (he11.op rfl) w1) ?_
      intro a12 he12
      clear he11 a11
      refine lV (Value.pointer (some ⟨p1, 1, none⟩)) he12 rfl rfl (he12.want rfl rfl rfl rfl rfl) (rn_faZ1 rfl (he12.op rfl) rfl w1) ?_
      intro a13 he13
      clear he12 a12
      refine lV (Value.int .i64 p.c) he13 rfl rfl (he13.want rfl rfl rfl rfl rfl) (rn_ld1 rfl (he13.op rfl) Tryd.underlying3 (hH1.at (i := 0) rfl) rfl) ?_
      intro a14 he14
      clear he13 a13
      by_cases hb2 : 0 ≤ p.c
      · skip
        refine lV (Value.bool true) he14 rfl rfl (he14.want rfl rfl rfl rfl rfl) (rn_geI rfl (he14.op rfl) (he14.op rfl) (decide_eq_true hb2) w1) ?_
        intro a15 he15
        clear he14 a14
        refine lV (Value.bool true) he15 rfl rfl (wanted_plain rfl _) (rn_pk rfl (he15.op rfl) (he15.op rfl) w1) ?_
        intro a16 he16
        clear he15 a15
        refine lV (Value.bool true) he16 rfl rfl (wanted_plain rfl _) (rn_mv rfl (he16.op rfl) w1) ?_
        intro a17 he17
        clear he16 a16
        refine lV (Value.pointer (some ⟨p1, 1, none⟩)) he17 rfl rfl (he17.want rfl rfl rfl rfl rfl) (rn_faZ1 rfl (he17.op rfl) rfl w1) ?_
        intro a18 he18
        clear he17 a17
        refine lV (Value.int .i64 p.c) he18 rfl rfl (he18.want rfl rfl rfl rfl rfl) (rn_ld1 rfl (he18.op rfl) Tryd.underlying3 (hH1.at (i := 0) rfl) rfl) ?_
        intro a19 he19
        clear he18 a18
        by_cases hb3 : p.c ≤ 1000
        · skip
          refine lV (Value.bool true) he19 rfl rfl (he19.want rfl rfl rfl rfl rfl) (rn_leI rfl (he19.op rfl) (he19.op rfl) (decide_eq_true hb3) w1) ?_
          intro a20 he20
          clear he19 a19
          refine lV (Value.bool true) he20 rfl rfl (wanted_plain rfl _) (rn_pk rfl (he20.op rfl) (he20.op rfl) w1) ?_
          intro a21 he21
          clear he20 a20
          refine lV (Value.bool true) he21 rfl rfl (wanted_plain rfl _) (rn_asg rfl (he21.op rfl) w1) ?_
          intro a22 he22
          clear he21 a21
          refine wpList_nil ?_
          refine then_ok ?_
          refine wp_ret ?_
          try simp only [Exit.then, Exit.inBlock, Exit.noGoto]
          exact ret_env rfl he22 rfl ⟨by (refine congrArg (fun b => Ending.returned (.bool b)) ?_; first | exact (decide_eq_true (by omega)).symm | exact (decide_eq_false (by omega)).symm), hH1.new⟩
        · skip
          refine lV (Value.bool false) he19 rfl rfl (he19.want rfl rfl rfl rfl rfl) (rn_leI rfl (he19.op rfl) (he19.op rfl) (decide_eq_false hb3) w1) ?_
          intro a20 he20
          clear he19 a19
          refine lV (Value.bool false) he20 rfl rfl (wanted_plain rfl _) (rn_pk rfl (he20.op rfl) (he20.op rfl) w1) ?_
          intro a21 he21
          clear he20 a20
          refine lV (Value.bool false) he21 rfl rfl (wanted_plain rfl _) (rn_asg rfl (he21.op rfl) w1) ?_
          intro a22 he22
          clear he21 a21
          refine wpList_nil ?_
          refine then_ok ?_
          refine wp_ret ?_
          try simp only [Exit.then, Exit.inBlock, Exit.noGoto]
          exact ret_env rfl he22 rfl ⟨by (refine congrArg (fun b => Ending.returned (.bool b)) ?_; first | exact (decide_eq_true (by omega)).symm | exact (decide_eq_false (by omega)).symm), hH1.new⟩
      · skip
        refine lV (Value.bool false) he14 rfl rfl (he14.want rfl rfl rfl rfl rfl) (rn_geI rfl (he14.op rfl) (he14.op rfl) (decide_eq_false hb2) w1) ?_
        intro a15 he15
        clear he14 a14
        refine lV (Value.bool false) he15 rfl rfl (wanted_plain rfl _) (rn_pk rfl (he15.op rfl) (he15.op rfl) w1) ?_
        intro a16 he16
        clear he15 a15
        refine lV (Value.bool false) he16 rfl rfl (wanted_plain rfl _) (rn_mv rfl (he16.op rfl) w1) ?_
        intro a17 he17
        clear he16 a16
        refine lSkip he17 rfl rfl (he17.wantNot rfl rfl rfl rfl rfl rfl) ?_
        intro a18 he18
        clear he17 a17
        refine lSkip he18 rfl rfl (he18.wantNot rfl rfl rfl rfl rfl rfl) ?_
        intro a19 he19
        clear he18 a18
        refine lSkip he19 rfl rfl (he19.wantNot rfl rfl rfl rfl rfl rfl) ?_
        intro a20 he20
        clear he19 a19
        refine lV (Value.bool false) he20 rfl rfl (wanted_plain rfl _) (rn_pk0 rfl (he20.op rfl) (he20.op rfl) w1) ?_
        intro a21 he21
        clear he20 a20
        refine lV (Value.bool false) he21 rfl rfl (wanted_plain rfl _) (rn_asg rfl (he21.op rfl) w1) ?_
        intro a22 he22
        clear he21 a21
        refine wpList_nil ?_
        refine then_ok ?_
        refine wp_ret ?_
        try simp only [Exit.then, Exit.inBlock, Exit.noGoto]
        exact ret_env rfl he22 rfl ⟨by (refine congrArg (fun b => Ending.returned (.bool b)) ?_; first | exact (decide_eq_true (by omega)).symm | exact (decide_eq_false (by omega)).symm), hH1.new⟩
    · skip
      refine lV (Value.bool false) he9 rfl rfl (he9.want rfl rfl rfl rfl rfl) (rn_leI rfl (he9.op rfl) (he9.op rfl) (decide_eq_false hb1) w1) ?_
      intro a10 he10
      clear he9 a9
      refine lV (Value.bool false) he10 rfl rfl (wanted_plain rfl _) (rn_pk rfl (he10.op rfl) (he10.op rfl) w1) ?_
      intro a11 he11
      clear he10 a10
      refine lV (Value.bool false) he11 rfl rfl (wanted_plain rfl _) (rn_mv rfl (he11.op rfl) w1) ?_
      intro a12 he12
      clear he11 a11
      refine lSkip he12 rfl rfl (he12.wantNot rfl rfl rfl rfl rfl rfl) ?_
      intro a13 he13
      clear he12 a12
      refine lSkip he13 rfl rfl (he13.wantNot rfl rfl rfl rfl rfl rfl) ?_
      intro a14 he14
      clear he13 a13
      refine lSkip he14 rfl rfl (he14.wantNot rfl rfl rfl rfl rfl rfl) ?_
      intro a15 he15
      clear he14 a14
      refine lV (Value.bool false) he15 rfl rfl (wanted_plain rfl _) (rn_pk0 rfl (he15.op rfl) (he15.op rfl) w1) ?_
      intro a16 he16
      clear he15 a15
      refine lV (Value.bool false) he16 rfl rfl (wanted_plain rfl _) (rn_mv rfl (he16.op rfl) w1) ?_
      intro a17 he17
      clear he16 a16
      refine lSkip he17 rfl rfl (he17.wantNot rfl rfl rfl rfl rfl rfl) ?_
      intro a18 he18
      clear he17 a17
      refine lSkip he18 rfl rfl (he18.wantNot rfl rfl rfl rfl rfl rfl) ?_
      intro a19 he19
      clear he18 a18
      refine lSkip he19 rfl rfl (he19.wantNot rfl rfl rfl rfl rfl rfl) ?_
      intro a20 he20
      clear he19 a19
      refine lV (Value.bool false) he20 rfl rfl (wanted_plain rfl _) (rn_pk0 rfl (he20.op rfl) (he20.op rfl) w1) ?_
      intro a21 he21
      clear he20 a20
      refine lV (Value.bool false) he21 rfl rfl (wanted_plain rfl _) (rn_asg rfl (he21.op rfl) w1) ?_
      intro a22 he22
      clear he21 a21
      refine wpList_nil ?_
      refine then_ok ?_
      refine wp_ret ?_
      try simp only [Exit.then, Exit.inBlock, Exit.noGoto]
      exact ret_env rfl he22 rfl ⟨by (refine congrArg (fun b => Ending.returned (.bool b)) ?_; first | exact (decide_eq_true (by omega)).symm | exact (decide_eq_false (by omega)).symm), hH1.new⟩
  · skip
    refine lV (Value.bool false) he5 rfl rfl (wanted_plain rfl _) (rn_geI rfl (he5.op rfl) (he5.op rfl) (decide_eq_false hb0) w1) ?_
    intro a6 he6
    clear he5 a5
    refine lV (Value.bool false) he6 rfl rfl (wanted_plain rfl _) (rn_mv rfl (he6.op rfl) w1) ?_
    intro a7 he7
    clear he6 a6
    refine lSkip he7 rfl rfl (he7.wantNot rfl rfl rfl rfl rfl rfl) ?_
    intro a8 he8
    clear he7 a7
    refine lSkip he8 rfl rfl (he8.wantNot rfl rfl rfl rfl rfl rfl) ?_
    intro a9 he9
    clear he8 a8
    refine lSkip he9 rfl rfl (he9.wantNot rfl rfl rfl rfl rfl rfl) ?_
    intro a10 he10
    clear he9 a9
    refine lV (Value.bool false) he10 rfl rfl (wanted_plain rfl _) (rn_pk0 rfl (he10.op rfl) (he10.op rfl) w1) ?_
    intro a11 he11
    clear he10 a10
    refine lV (Value.bool false) he11 rfl rfl (wanted_plain rfl _) (rn_mv rfl (he11.op rfl) w1) ?_
    intro a12 he12
    clear he11 a11
    refine lSkip he12 rfl rfl (he12.wantNot rfl rfl rfl rfl rfl rfl) ?_
    intro a13 he13
    clear he12 a12
    refine lSkip he13 rfl rfl (he13.wantNot rfl rfl rfl rfl rfl rfl) ?_
    intro a14 he14
    clear he13 a13
    refine lSkip he14 rfl rfl (he14.wantNot rfl rfl rfl rfl rfl rfl) ?_
    intro a15 he15
    clear he14 a14
    refine lV (Value.bool false) he15 rfl rfl (wanted_plain rfl _) (rn_pk0 rfl (he15.op rfl) (he15.op rfl) w1) ?_
    intro a16 he16
    clear he15 a15
    refine lV (Value.bool false) he16 rfl rfl (wanted_plain rfl _) (rn_mv rfl (he16.op rfl) w1) ?_
    intro a17 he17
    clear he16 a16
    refine lSkip he17 rfl rfl (he17.wantNot rfl rfl rfl rfl rfl rfl) ?_
    intro a18 he18
    clear he17 a17
    refine lSkip he18 rfl rfl (he18.wantNot rfl rfl rfl rfl rfl rfl) ?_
    intro a19 he19
    clear he18 a18
    refine lSkip he19 rfl rfl (he19.wantNot rfl rfl rfl rfl rfl rfl) ?_
    intro a20 he20
    clear he19 a19
    refine lV (Value.bool false) he20 rfl rfl (wanted_plain rfl _) (rn_pk0 rfl (he20.op rfl) (he20.op rfl) w1) ?_
    intro a21 he21
    clear he20 a20
    refine lV (Value.bool false) he21 rfl rfl (wanted_plain rfl _) (rn_asg rfl (he21.op rfl) w1) ?_
    intro a22 he22
    clear he21 a21
    refine wpList_nil ?_
    refine then_ok ?_
    refine wp_ret ?_
    try simp only [Exit.then, Exit.inBlock, Exit.noGoto]
    exact ret_env rfl he22 rfl ⟨by (refine congrArg (fun b => Ending.returned (.bool b)) ?_; first | exact (decide_eq_true (by omega)).symm | exact (decide_eq_false (by omega)).symm), hH1.new⟩
set_option linter.unusedSimpArgs false in
set_option maxRecDepth 100000 in
set_option maxHeartbeats 1600000 in
theorem RBefore_c (p q : Pl) (b : Bool) (hb : decide (befP p q) = b) (w : World) : Calls Tryd.prog 8 #[.agg #[.int .i64 p.l, .int .i64 p.c], .agg #[.int .i64 q.l, .int .i64 q.c]] w fun e w' => e = .returned (.bool b) ∧ New w w' := by
  subst hb
  refine calls_args (vl := [Value.agg #[Value.int .i64 p.l, Value.int .i64 p.c], Value.agg #[Value.int .i64 q.l, Value.int .i64 q.c]]) 24 Tryd.func8 rfl Tryd.ntmps8 (by kernel_rfl) (fun a he => ?_)
  have he0 : Env 24 [(0, Value.agg #[Value.int .i64 p.l, Value.int .i64 p.c]), (1, Value.agg #[Value.int .i64 q.l, Value.int .i64 q.c])] a := he
  clear he
  have hH := Hp.start w
  refine wp_seq ?_
  refine wp_region_lit ?_
  refine lNewP (fun p => .pointer (some ⟨p, 0, none⟩)) he0 hH rfl rfl (wanted_plain rfl _) (rn_boxZ rfl (he0.op rfl) w) ?_
  intro p1 w1 a2 hp hn hH1 he2
  clear he0 a hH hn hp
  refine lNewP (fun p => .pointer (some ⟨p, 0, none⟩)) he2 hH1 rfl rfl (wanted_plain rfl _) (rn_boxZ rfl (he2.op rfl) w1) ?_
  intro p3 w3 a4 hp hn hH3 he4
  clear he2 a2 hH1 hn hp
  refine lV (Value.bool false) he4 rfl rfl (wanted_plain rfl _) (rn_asg rfl (he4.op rfl) w3) ?_
  intro a5 he5
  clear he4 a4
  refine wpList_nil ?_
  refine then_ok ?_
  refine wp_seq ?_
  refine wp_region_lit ?_
  refine lV (Value.pointer (some ⟨p1, 0, none⟩)) he5 rfl rfl (wanted_plain rfl _) (rn_faZ0 rfl (he5.op rfl) rfl w3) ?_
  intro a6 he6
  clear he5 a5
  refine lV (Value.int .i64 p.l) he6 rfl rfl (wanted_plain rfl _) (rn_ld1 rfl (he6.op rfl) Tryd.underlying3 (hH3.at (i := 1) rfl) rfl) ?_
  intro a7 he7
  clear he6 a6
  refine lV (Value.pointer (some ⟨p3, 0, none⟩)) he7 rfl rfl (wanted_plain rfl _) (rn_faZ0 rfl (he7.op rfl) rfl w3) ?_
  intro a8 he8
  clear he7 a7
  refine lV (Value.int .i64 q.l) he8 rfl rfl (wanted_plain rfl _) (rn_ld1 rfl (he8.op rfl) Tryd.underlying3 (hH3.at (i := 0) rfl) rfl) ?_
  intro a9 he9
  clear he8 a8
  by_cases hb0 : p.l < q.l
  · skip
    refine lV (Value.bool true) he9 rfl rfl (wanted_plain rfl _) (rn_lsI rfl (he9.op rfl) (he9.op rfl) (decide_eq_true hb0) w3) ?_
    intro a10 he10
    clear he9 a9
    refine lV (Value.bool true) he10 rfl rfl (wanted_plain rfl _) (rn_mv rfl (he10.op rfl) w3) ?_
    intro a11 he11
    clear he10 a10
    refine lSkip he11 rfl rfl (he11.wantNot rfl rfl rfl rfl rfl rfl) ?_
    intro a12 he12
    clear he11 a11
    refine lSkip he12 rfl rfl (he12.wantNot rfl rfl rfl rfl rfl rfl) ?_
    intro a13 he13
    clear he12 a12
    refine lSkip he13 rfl rfl (he13.wantNot rfl rfl rfl rfl rfl rfl) ?_
    intro a14 he14
    clear he13 a13
    refine lSkip he14 rfl rfl (he14.wantNot rfl rfl rfl rfl rfl rfl) ?_
    intro a15 he15
    clear he14 a14
    refine lSkip he15 rfl rfl (he15.wantNot rfl rfl rfl rfl rfl rfl) ?_
    intro a16 he16
    clear he15 a15
    refine lSkip he16 rfl rfl (he16.wantNot rfl rfl rfl rfl rfl rfl) ?_
    intro a17 he17
    clear he16 a16
    refine lSkip he17 rfl rfl (he17.wantU rfl rfl rfl rfl rfl) ?_
    intro a18 he18
    clear he17 a17
    refine lSkip he18 rfl rfl (he18.wantU rfl rfl rfl rfl rfl) ?_
    intro a19 he19
    clear he18 a18
    refine lSkip he19 rfl rfl (he19.wantU rfl rfl rfl rfl rfl) ?_
    intro a20 he20
    clear he19 a19
    refine lSkip he20 rfl rfl (he20.wantU rfl rfl rfl rfl rfl) ?_
    intro a21 he21
    clear he20 a20
    refine lSkip he21 rfl rfl (he21.wantU rfl rfl rfl rfl rfl) ?_
    intro a22 he22
    clear he21 a21
    refine lSkip he22 rfl rfl (he22.wantNot rfl rfl rfl rfl rfl rfl) ?_
    intro a23 he23
    clear he22 a22
    refine lV (Value.bool true) he23 rfl rfl (wanted_plain rfl _) (rn_pk rfl (he23.op rfl) (he23.op rfl) w3) ?_
    intro a24 he24
    clear he23 a23
    refine lV (Value.bool true) he24 rfl rfl (wanted_plain rfl _) (rn_asg rfl (he24.op rfl) w3) ?_
    intro a25 he25
    clear he24 a24
    refine wpList_nil ?_
    refine then_ok ?_
    refine wp_ret ?_
    try simp only [Exit.then, Exit.inBlock, Exit.noGoto]
    exact ret_env rfl he25 rfl ⟨by (refine congrArg (fun b => Ending.returned (.bool b)) ?_; first | exact (decide_eq_true (by omega)).symm | exact (decide_eq_false (by omega)).symm), hH3.new⟩
  · skip
    refine lV (Value.bool false) he9 rfl rfl (wanted_plain rfl _) (rn_lsI rfl (he9.op rfl) (he9.op rfl) (decide_eq_false hb0) w3) ?_
    intro a10 he10
    clear he9 a9
    refine lV (Value.bool false) he10 rfl rfl (wanted_plain rfl _) (rn_mv rfl (he10.op rfl) w3) ?_
    intro a11 he11
    clear he10 a10
    refine lV (Value.pointer (some ⟨p1, 0, none⟩)) he11 rfl rfl (he11.want rfl rfl rfl rfl rfl) (rn_faZ0 rfl (he11.op rfl) rfl w3) ?_
    intro a12 he12
    clear he11 a11
    refine lV (Value.int .i64 p.l) he12 rfl rfl (he12.want rfl rfl rfl rfl rfl) (rn_ld1 rfl (he12.op rfl) Tryd.underlying3 (hH3.at (i := 1) rfl) rfl) ?_
    intro a13 he13
    clear he12 a12
    refine lV (Value.pointer (some ⟨p3, 0, none⟩)) he13 rfl rfl (he13.want rfl rfl rfl rfl rfl) (rn_faZ0 rfl (he13.op rfl) rfl w3) ?_
    intro a14 he14
    clear he13 a13
    refine lV (Value.int .i64 q.l) he14 rfl rfl (he14.want rfl rfl rfl rfl rfl) (rn_ld1 rfl (he14.op rfl) Tryd.underlying3 (hH3.at (i := 0) rfl) rfl) ?_
    intro a15 he15
    clear he14 a14
    by_cases hb1 : p.l = q.l
    · skip
      refine lV (Value.bool true) he15 rfl rfl (he15.want rfl rfl rfl rfl rfl) (rn_eqI rfl (he15.op rfl) (he15.op rfl) (beqT hb1) w3) ?_
      intro a16 he16
      clear he15 a15
      refine lV (Value.bool true) he16 rfl rfl (he16.want rfl rfl rfl rfl rfl) (rn_mv rfl (he16.op rfl) w3) ?_
      intro a17 he17
      clear he16 a16
      refine lV (Value.pointer (some ⟨p1, 1, none⟩)) he17 rfl rfl (he17.want rfl rfl rfl rfl rfl) (rn_faZ1 rfl (he17.op rfl) rfl w3) ?_
      intro a18 he18
      clear he17 a17
      refine lV (Value.int .i64 p.c) he18 rfl rfl (he18.want rfl rfl rfl rfl rfl) (rn_ld1 rfl (he18.op rfl) Tryd.underlying3 (hH3.at (i := 1) rfl) rfl) ?_
      intro a19 he19
      clear he18 a18
      refine lV (Value.pointer (some ⟨p3, 1, none⟩)) he19 rfl rfl (he19.want rfl rfl rfl rfl rfl) (rn_faZ1 rfl (he19.op rfl) rfl w3) ?_
      intro a20 he20
      clear he19 a19
      refine lV (Value.int .i64 q.c) he20 rfl rfl (he20.want rfl rfl rfl rfl rfl) (rn_ld1 rfl (he20.op rfl) Tryd.underlying3 (hH3.at (i := 0) rfl) rfl) ?_
      intro a21 he21
      clear he20 a20
      by_cases hb2 : p.c < q.c
      · skip
        refine lV (Value.bool true) he21 rfl rfl (he21.want rfl rfl rfl rfl rfl) (rn_lsI rfl (he21.op rfl) (he21.op rfl) (decide_eq_true hb2) w3) ?_
        intro a22 he22
        clear he21 a21
        refine lV (Value.bool true) he22 rfl rfl (he22.want rfl rfl rfl rfl rfl) (rn_pk rfl (he22.op rfl) (he22.op rfl) w3) ?_
        intro a23 he23
        clear he22 a22
        refine lV (Value.bool true) he23 rfl rfl (wanted_plain rfl _) (rn_pk0 rfl (he23.op rfl) (he23.op rfl) w3) ?_
        intro a24 he24
        clear he23 a23
        refine lV (Value.bool true) he24 rfl rfl (wanted_plain rfl _) (rn_asg rfl (he24.op rfl) w3) ?_
        intro a25 he25
        clear he24 a24
        refine wpList_nil ?_
        refine then_ok ?_
        refine wp_ret ?_
        try simp only [Exit.then, Exit.inBlock, Exit.noGoto]
        exact ret_env rfl he25 rfl ⟨by (refine congrArg (fun b => Ending.returned (.bool b)) ?_; first | exact (decide_eq_true (by omega)).symm | exact (decide_eq_false (by omega)).symm), hH3.new⟩
      · skip
        refine lV (Value.bool false) he21 rfl rfl (he21.want rfl rfl rfl rfl rfl) (rn_lsI rfl (he21.op rfl) (he21.op rfl) (decide_eq_false hb2) w3) ?_
        intro a22 he22
        clear he21 a21
        refine lV (Value.bool false) he22 rfl rfl (he22.want rfl rfl rfl rfl rfl) (rn_pk rfl (he22.op rfl) (he22.op rfl) w3) ?_
        intro a23 he23
        clear he22 a22
        refine lV (Value.bool false) he23 rfl rfl (wanted_plain rfl _) (rn_pk0 rfl (he23.op rfl) (he23.op rfl) w3) ?_
        intro a24 he24
        clear he23 a23
        refine lV (Value.bool false) he24 rfl rfl (wanted_plain rfl _) (rn_asg rfl (he24.op rfl) w3) ?_
        intro a25 he25
        clear he24 a24
        refine wpList_nil ?_
        refine then_ok ?_
        refine wp_ret ?_
        try simp only [Exit.then, Exit.inBlock, Exit.noGoto]
        exact ret_env rfl he25 rfl ⟨by (refine congrArg (fun b => Ending.returned (.bool b)) ?_; first | exact (decide_eq_true (by omega)).symm | exact (decide_eq_false (by omega)).symm), hH3.new⟩
    · skip
      refine lV (Value.bool false) he15 rfl rfl (he15.want rfl rfl rfl rfl rfl) (rn_eqI rfl (he15.op rfl) (he15.op rfl) (beqF hb1) w3) ?_
      intro a16 he16
      clear he15 a15
      refine lV (Value.bool false) he16 rfl rfl (he16.want rfl rfl rfl rfl rfl) (rn_mv rfl (he16.op rfl) w3) ?_
      intro a17 he17
      clear he16 a16
      refine lSkip he17 rfl rfl (he17.wantNot rfl rfl rfl rfl rfl rfl) ?_
      intro a18 he18
      clear he17 a17
      refine lSkip he18 rfl rfl (he18.wantNot rfl rfl rfl rfl rfl rfl) ?_
      intro a19 he19
      clear he18 a18
      refine lSkip he19 rfl rfl (he19.wantNot rfl rfl rfl rfl rfl rfl) ?_
      intro a20 he20
      clear he19 a19
      refine lSkip he20 rfl rfl (he20.wantNot rfl rfl rfl rfl rfl rfl) ?_
      intro a21 he21
      clear he20 a20
      refine lSkip he21 rfl rfl (he21.wantNot rfl rfl rfl rfl rfl rfl) ?_
      intro a22 he22
      clear he21 a21
      refine lV (Value.bool false) he22 rfl rfl (he22.want rfl rfl rfl rfl rfl) (rn_pk0 rfl (he22.op rfl) (he22.op rfl) w3) ?_
      intro a23 he23
      clear he22 a22
      refine lV (Value.bool false) he23 rfl rfl (wanted_plain rfl _) (rn_pk0 rfl (he23.op rfl) (he23.op rfl) w3) ?_
      intro a24 he24
      clear he23 a23
      refine lV (Value.bool false) he24 rfl rfl (wanted_plain rfl _) (rn_asg rfl (he24.op rfl) w3) ?_
      intro a25 he25
      clear he24 a24
      refine wpList_nil ?_
      refine then_ok ?_
      refine wp_ret ?_
      try simp only [Exit.then, Exit.inBlock, Exit.noGoto]
      exact ret_env rfl he25 rfl ⟨by (refine congrArg (fun b => Ending.returned (.bool b)) ?_; first | exact (decide_eq_true (by omega)).symm | exact (decide_eq_false (by omega)).symm), hH3.new⟩
set_option linter.unusedSimpArgs false in
set_option maxRecDepth 100000 in
set_option maxHeartbeats 1600000 in
theorem RColumns_c (n : Int) (b : Bool) (hb : decide (colP n) = b) (w : World) : Calls Tryd.prog 32 #[.int .i64 n] w fun e w' => e = .returned (.bool b) ∧ New w w' := by
  subst hb
  refine calls_args (vl := [Value.int .i64 n]) 9 Tryd.func32 rfl Tryd.ntmps32 (by kernel_rfl) (fun a he => ?_)
  have he0 : Env 9 [(0, Value.int .i64 n)] a := he
  clear he
  have hH := Hp.start w
  refine wp_seq ?_
  refine wp_region_lit ?_
  refine lV (Value.bool false) he0 rfl rfl (wanted_plain rfl _) (rn_asg rfl (he0.op rfl) w) ?_
  intro a1 he1
  clear he0 a
  refine wpList_nil ?_
  refine then_ok ?_
  refine wp_seq ?_
  refine wp_region_lit ?_
  refine lV (Value.int .i64 n) he1 rfl rfl (wanted_plain rfl _) (rn_mv rfl (he1.op rfl) w) ?_
  intro a2 he2
  clear he1 a1
  by_cases hb0 : 1 ≤ n
  · skip
    refine lV (Value.bool true) he2 rfl rfl (wanted_plain rfl _) (rn_geI rfl (he2.op rfl) (he2.op rfl) (decide_eq_true hb0) w) ?_
    intro a3 he3
    clear he2 a2
    refine lV (Value.bool true) he3 rfl rfl (wanted_plain rfl _) (rn_mv rfl (he3.op rfl) w) ?_
    intro a4 he4
    clear he3 a3
    refine lV (Value.int .i64 n) he4 rfl rfl (he4.want rfl rfl rfl rfl rfl) (rn_mv rfl (he4.op rfl) w) ?_
    intro a5 he5
    clear he4 a4
    by_cases hb1 : n ≤ 1000
    · skip
      refine lV (Value.bool true) he5 rfl rfl (he5.want rfl rfl rfl rfl rfl) (rn_leI rfl (he5.op rfl) (he5.op rfl) (decide_eq_true hb1) w) ?_
      intro a6 he6
      clear he5 a5
      refine lV (Value.bool true) he6 rfl rfl (wanted_plain rfl _) (rn_pk rfl (he6.op rfl) (he6.op rfl) w) ?_
      intro a7 he7
      clear he6 a6
      refine lV (Value.bool true) he7 rfl rfl (wanted_plain rfl _) (rn_asg rfl (he7.op rfl) w) ?_
      intro a8 he8
      clear he7 a7
      refine wpList_nil ?_
      refine then_ok ?_
      refine wp_ret ?_
      try simp only [Exit.then, Exit.inBlock, Exit.noGoto]
      exact ret_env rfl he8 rfl ⟨by (refine congrArg (fun b => Ending.returned (.bool b)) ?_; first | exact (decide_eq_true (by omega)).symm | exact (decide_eq_false (by omega)).symm), hH.new⟩
    · skip
      refine lV (Value.bool false) he5 rfl rfl (he5.want rfl rfl rfl rfl rfl) (rn_leI rfl (he5.op rfl) (he5.op rfl) (decide_eq_false hb1) w) ?_
      intro a6 he6
      clear he5 a5
      refine lV (Value.bool false) he6 rfl rfl (wanted_plain rfl _) (rn_pk rfl (he6.op rfl) (he6.op rfl) w) ?_
      intro a7 he7
      clear he6 a6
      refine lV (Value.bool false) he7 rfl rfl (wanted_plain rfl _) (rn_asg rfl (he7.op rfl) w) ?_
      intro a8 he8
      clear he7 a7
      refine wpList_nil ?_
      refine then_ok ?_
      refine wp_ret ?_
      try simp only [Exit.then, Exit.inBlock, Exit.noGoto]
      exact ret_env rfl he8 rfl ⟨by (refine congrArg (fun b => Ending.returned (.bool b)) ?_; first | exact (decide_eq_true (by omega)).symm | exact (decide_eq_false (by omega)).symm), hH.new⟩
  · skip
    refine lV (Value.bool false) he2 rfl rfl (wanted_plain rfl _) (rn_geI rfl (he2.op rfl) (he2.op rfl) (decide_eq_false hb0) w) ?_
    intro a3 he3
    clear he2 a2
    refine lV (Value.bool false) he3 rfl rfl (wanted_plain rfl _) (rn_mv rfl (he3.op rfl) w) ?_
    intro a4 he4
    clear he3 a3
    refine lSkip he4 rfl rfl (he4.wantNot rfl rfl rfl rfl rfl rfl) ?_
    intro a5 he5
    clear he4 a4
    refine lSkip he5 rfl rfl (he5.wantNot rfl rfl rfl rfl rfl rfl) ?_
    intro a6 he6
    clear he5 a5
    refine lV (Value.bool false) he6 rfl rfl (wanted_plain rfl _) (rn_pk0 rfl (he6.op rfl) (he6.op rfl) w) ?_
    intro a7 he7
    clear he6 a6
    refine lV (Value.bool false) he7 rfl rfl (wanted_plain rfl _) (rn_asg rfl (he7.op rfl) w) ?_
    intro a8 he8
    clear he7 a7
    refine wpList_nil ?_
    refine then_ok ?_
    refine wp_ret ?_
    try simp only [Exit.then, Exit.inBlock, Exit.noGoto]
    exact ret_env rfl he8 rfl ⟨by (refine congrArg (fun b => Ending.returned (.bool b)) ?_; first | exact (decide_eq_true (by omega)).symm | exact (decide_eq_false (by omega)).symm), hH.new⟩
set_option linter.unusedSimpArgs false in
set_option maxRecDepth 100000 in
set_option maxHeartbeats 1600000 in
theorem allowed_c (n : Int) (b : Bool) (hb : decide (colP n) = b) (w : World) : Calls Tryd.prog 33 #[.int .i64 n] w fun e w' => e = .returned (.bool b) ∧ New w w' := by
  subst hb
  refine calls_args (vl := [Value.int .i64 n]) 9 Tryd.func33 rfl Tryd.ntmps33 (by kernel_rfl) (fun a he => ?_)
  have he0 : Env 9 [(0, Value.int .i64 n)] a := he
  clear he
  have hH := Hp.start w
  refine wp_seq ?_
  refine wp_region_lit ?_
  refine lV (Value.bool false) he0 rfl rfl (wanted_plain rfl _) (rn_asg rfl (he0.op rfl) w) ?_
  intro a1 he1
  clear he0 a
  refine wpList_nil ?_
  refine then_ok ?_
  refine wp_seq ?_
  refine wp_region_lit ?_
  refine lV (Value.int .i64 n) he1 rfl rfl (wanted_plain rfl _) (rn_mv rfl (he1.op rfl) w) ?_
  intro a2 he2
  clear he1 a1
  by_cases hb0 : 1 ≤ n
  · skip
    refine lV (Value.bool true) he2 rfl rfl (wanted_plain rfl _) (rn_geI rfl (he2.op rfl) (he2.op rfl) (decide_eq_true hb0) w) ?_
    intro a3 he3
    clear he2 a2
    refine lV (Value.bool true) he3 rfl rfl (wanted_plain rfl _) (rn_mv rfl (he3.op rfl) w) ?_
    intro a4 he4
    clear he3 a3
    refine lV (Value.int .i64 n) he4 rfl rfl (he4.want rfl rfl rfl rfl rfl) (rn_mv rfl (he4.op rfl) w) ?_
    intro a5 he5
    clear he4 a4
    by_cases hb1 : n ≤ 1000
    · skip
      refine lV (Value.bool true) he5 rfl rfl (he5.want rfl rfl rfl rfl rfl) (rn_leI rfl (he5.op rfl) (he5.op rfl) (decide_eq_true hb1) w) ?_
      intro a6 he6
      clear he5 a5
      refine lV (Value.bool true) he6 rfl rfl (wanted_plain rfl _) (rn_pk rfl (he6.op rfl) (he6.op rfl) w) ?_
      intro a7 he7
      clear he6 a6
      refine lV (Value.bool true) he7 rfl rfl (wanted_plain rfl _) (rn_asg rfl (he7.op rfl) w) ?_
      intro a8 he8
      clear he7 a7
      refine wpList_nil ?_
      refine then_ok ?_
      refine wp_ret ?_
      try simp only [Exit.then, Exit.inBlock, Exit.noGoto]
      exact ret_env rfl he8 rfl ⟨by (refine congrArg (fun b => Ending.returned (.bool b)) ?_; first | exact (decide_eq_true (by omega)).symm | exact (decide_eq_false (by omega)).symm), hH.new⟩
    · skip
      refine lV (Value.bool false) he5 rfl rfl (he5.want rfl rfl rfl rfl rfl) (rn_leI rfl (he5.op rfl) (he5.op rfl) (decide_eq_false hb1) w) ?_
      intro a6 he6
      clear he5 a5
      refine lV (Value.bool false) he6 rfl rfl (wanted_plain rfl _) (rn_pk rfl (he6.op rfl) (he6.op rfl) w) ?_
      intro a7 he7
      clear he6 a6
      refine lV (Value.bool false) he7 rfl rfl (wanted_plain rfl _) (rn_asg rfl (he7.op rfl) w) ?_
      intro a8 he8
      clear he7 a7
      refine wpList_nil ?_
      refine then_ok ?_
      refine wp_ret ?_
      try simp only [Exit.then, Exit.inBlock, Exit.noGoto]
      exact ret_env rfl he8 rfl ⟨by (refine congrArg (fun b => Ending.returned (.bool b)) ?_; first | exact (decide_eq_true (by omega)).symm | exact (decide_eq_false (by omega)).symm), hH.new⟩
  · skip
    refine lV (Value.bool false) he2 rfl rfl (wanted_plain rfl _) (rn_geI rfl (he2.op rfl) (he2.op rfl) (decide_eq_false hb0) w) ?_
    intro a3 he3
    clear he2 a2
    refine lV (Value.bool false) he3 rfl rfl (wanted_plain rfl _) (rn_mv rfl (he3.op rfl) w) ?_
    intro a4 he4
    clear he3 a3
    refine lSkip he4 rfl rfl (he4.wantNot rfl rfl rfl rfl rfl rfl) ?_
    intro a5 he5
    clear he4 a4
    refine lSkip he5 rfl rfl (he5.wantNot rfl rfl rfl rfl rfl rfl) ?_
    intro a6 he6
    clear he5 a5
    refine lV (Value.bool false) he6 rfl rfl (wanted_plain rfl _) (rn_pk0 rfl (he6.op rfl) (he6.op rfl) w) ?_
    intro a7 he7
    clear he6 a6
    refine lV (Value.bool false) he7 rfl rfl (wanted_plain rfl _) (rn_asg rfl (he7.op rfl) w) ?_
    intro a8 he8
    clear he7 a7
    refine wpList_nil ?_
    refine then_ok ?_
    refine wp_ret ?_
    try simp only [Exit.then, Exit.inBlock, Exit.noGoto]
    exact ret_env rfl he8 rfl ⟨by (refine congrArg (fun b => Ending.returned (.bool b)) ?_; first | exact (decide_eq_true (by omega)).symm | exact (decide_eq_false (by omega)).symm), hH.new⟩
set_option linter.unusedSimpArgs false in
set_option maxRecDepth 100000 in
set_option maxHeartbeats 1600000 in
theorem inside_c (p : Pl) (n : Int) (b : Bool) (hb : decide (inP p n) = b) (w : World) : Calls Tryd.prog 34 #[.agg #[.int .i64 p.l, .int .i64 p.c], .int .i64 n] w fun e w' => e = .returned (.bool b) ∧ New w w' := by
  subst hb
  refine calls_args (vl := [Value.agg #[Value.int .i64 p.l, Value.int .i64 p.c], Value.int .i64 n]) 13 Tryd.func34 rfl Tryd.ntmps34 (by kernel_rfl) (fun a he => ?_)
  have he0 : Env 13 [(0, Value.agg #[Value.int .i64 p.l, Value.int .i64 p.c]), (1, Value.int .i64 n)] a := he
  clear he
  have hH := Hp.start w
  refine wp_seq ?_
  refine wp_region_lit ?_
  refine lNewP (fun p => .pointer (some ⟨p, 0, none⟩)) he0 hH rfl rfl (wanted_plain rfl _) (rn_boxZ rfl (he0.op rfl) w) ?_
  intro p1 w1 a2 hp hn hH1 he2
  clear he0 a hH hn hp
  refine lV (Value.bool false) he2 rfl rfl (wanted_plain rfl _) (rn_asg rfl (he2.op rfl) w1) ?_
  intro a3 he3
  clear he2 a2
  refine wpList_nil ?_
  refine then_ok ?_
  refine wp_seq ?_
  refine wp_region_lit ?_
  refine lV (Value.agg #[Value.int .i64 p.l, Value.int .i64 p.c]) he3 rfl rfl (wanted_plain rfl _) (rn_ldp [Value.int .i64 p.l, Value.int .i64 p.c] rfl (he3.op rfl) undZ rfl infoZ2 (hH1.at (i := 0) rfl) rfl) ?_
  intro a4 he4
  clear he3 a3
  by_cases hb0 : okP p
  · skip
    refine lC he4 rfl rfl Tryd.func9 (by kernel_rfl) rfl rfl (wanted_plain rfl _) rfl (Valid_c p true (decide_eq_true hb0) w1) ?_
    intro w5 a6 hn he6
    have hH5 := hH1.call hn
    clear he4 a4 hH1 hn
    refine lV (Value.bool true) he6 rfl rfl (wanted_plain rfl _) (rn_mv rfl (he6.op rfl) w5) ?_
    intro a7 he7
    clear he6 a6
    refine lV (Value.pointer (some ⟨p1, 1, none⟩)) he7 rfl rfl (he7.want rfl rfl rfl rfl rfl) (rn_faZ1 rfl (he7.op rfl) rfl w5) ?_
    intro a8 he8
    clear he7 a7
    refine lV (Value.int .i64 p.c) he8 rfl rfl (he8.want rfl rfl rfl rfl rfl) (rn_ld1 rfl (he8.op rfl) Tryd.underlying3 (hH5.at (i := 0) rfl) rfl) ?_
    intro a9 he9
    clear he8 a8
    refine lV (Value.int .i64 n) he9 rfl rfl (he9.want rfl rfl rfl rfl rfl) (rn_mv rfl (he9.op rfl) w5) ?_
    intro a10 he10
    clear he9 a9
    by_cases hb1 : p.c < n
    · skip
      refine lV (Value.bool true) he10 rfl rfl (he10.want rfl rfl rfl rfl rfl) (rn_lsI rfl (he10.op rfl) (he10.op rfl) (decide_eq_true hb1) w5) ?_
      intro a11 he11
      clear he10 a10
      refine lV (Value.bool true) he11 rfl rfl (wanted_plain rfl _) (rn_pk rfl (he11.op rfl) (he11.op rfl) w5) ?_
      intro a12 he12
      clear he11 a11
      refine lV (Value.bool true) he12 rfl rfl (wanted_plain rfl _) (rn_asg rfl (he12.op rfl) w5) ?_
      intro a13 he13
      clear he12 a12
      refine wpList_nil ?_
      refine then_ok ?_
      refine wp_ret ?_
      try simp only [Exit.then, Exit.inBlock, Exit.noGoto]
      exact ret_env rfl he13 rfl ⟨by (refine congrArg (fun b => Ending.returned (.bool b)) ?_; first | exact (decide_eq_true (by omega)).symm | exact (decide_eq_false (by omega)).symm), hH5.new⟩
    · skip
      refine lV (Value.bool false) he10 rfl rfl (he10.want rfl rfl rfl rfl rfl) (rn_lsI rfl (he10.op rfl) (he10.op rfl) (decide_eq_false hb1) w5) ?_
      intro a11 he11
      clear he10 a10
      refine lV (Value.bool false) he11 rfl rfl (wanted_plain rfl _) (rn_pk rfl (he11.op rfl) (he11.op rfl) w5) ?_
      intro a12 he12
      clear he11 a11
      refine lV (Value.bool false) he12 rfl rfl (wanted_plain rfl _) (rn_asg rfl (he12.op rfl) w5) ?_
      intro a13 he13
      clear he12 a12
      refine wpList_nil ?_
      refine then_ok ?_
      refine wp_ret ?_
      try simp only [Exit.then, Exit.inBlock, Exit.noGoto]
      exact ret_env rfl he13 rfl ⟨by (refine congrArg (fun b => Ending.returned (.bool b)) ?_; first | exact (decide_eq_true (by omega)).symm | exact (decide_eq_false (by omega)).symm), hH5.new⟩
  · skip
    refine lC he4 rfl rfl Tryd.func9 (by kernel_rfl) rfl rfl (wanted_plain rfl _) rfl (Valid_c p false (decide_eq_false hb0) w1) ?_
    intro w5 a6 hn he6
    have hH5 := hH1.call hn
    clear he4 a4 hH1 hn
    refine lV (Value.bool false) he6 rfl rfl (wanted_plain rfl _) (rn_mv rfl (he6.op rfl) w5) ?_
    intro a7 he7
    clear he6 a6
    refine lSkip he7 rfl rfl (he7.wantNot rfl rfl rfl rfl rfl rfl) ?_
    intro a8 he8
    clear he7 a7
    refine lSkip he8 rfl rfl (he8.wantNot rfl rfl rfl rfl rfl rfl) ?_
    intro a9 he9
    clear he8 a8
    refine lSkip he9 rfl rfl (he9.wantNot rfl rfl rfl rfl rfl rfl) ?_
    intro a10 he10
    clear he9 a9
    refine lSkip he10 rfl rfl (he10.wantNot rfl rfl rfl rfl rfl rfl) ?_
    intro a11 he11
    clear he10 a10
    refine lV (Value.bool false) he11 rfl rfl (wanted_plain rfl _) (rn_pk0 rfl (he11.op rfl) (he11.op rfl) w5) ?_
    intro a12 he12
    clear he11 a11
    refine lV (Value.bool false) he12 rfl rfl (wanted_plain rfl _) (rn_asg rfl (he12.op rfl) w5) ?_
    intro a13 he13
    clear he12 a12
    refine wpList_nil ?_
    refine then_ok ?_
    refine wp_ret ?_
    try simp only [Exit.then, Exit.inBlock, Exit.noGoto]
    exact ret_env rfl he13 rfl ⟨by (refine congrArg (fun b => Ending.returned (.bool b)) ?_; first | exact (decide_eq_true (by omega)).symm | exact (decide_eq_false (by omega)).symm), hH5.new⟩
set_option linter.unusedSimpArgs false in
set_option maxRecDepth 100000 in
set_option maxHeartbeats 1600000 in
theorem RIn_c (p : Pl) (n : Int) (b : Bool) (hb : decide (colP n ∧ inP p n) = b) (w : World) : Calls Tryd.prog 19 #[.agg #[.int .i64 p.l, .int .i64 p.c], .int .i64 n] w fun e w' => e = .returned (.bool b) ∧ New w w' := by
  subst hb
  refine calls_args (vl := [Value.agg #[Value.int .i64 p.l, Value.int .i64 p.c], Value.int .i64 n]) 17 Tryd.func19 rfl Tryd.ntmps19 (by kernel_rfl) (fun a he => ?_)
  have he0 : Env 17 [(0, Value.agg #[Value.int .i64 p.l, Value.int .i64 p.c]), (1, Value.int .i64 n)] a := he
  clear he
  have hH := Hp.start w
  refine wp_seq ?_
  refine wp_region_lit ?_
  refine lNewP (fun p => .pointer (some ⟨p, 0, none⟩)) he0 hH rfl rfl (wanted_plain rfl _) (rn_boxZ rfl (he0.op rfl) w) ?_
  intro p1 w1 a2 hp hn hH1 he2
  clear he0 a hH hn hp
  refine lV (Value.bool false) he2 rfl rfl (wanted_plain rfl _) (rn_asg rfl (he2.op rfl) w1) ?_
  intro a3 he3
  clear he2 a2
  refine wpList_nil ?_
  refine then_ok ?_
  refine wp_seq ?_
  refine wp_region_lit ?_
  refine lV (Value.int .i64 n) he3 rfl rfl (wanted_plain rfl _) (rn_mv rfl (he3.op rfl) w1) ?_
  intro a4 he4
  clear he3 a3
  by_cases hb0 : colP n
  · skip
    refine lC he4 rfl rfl Tryd.func32 (by kernel_rfl) rfl rfl (wanted_plain rfl _) rfl (RColumns_c n true (decide_eq_true hb0) w1) ?_
    intro w5 a6 hn he6
    have hH5 := hH1.call hn
    clear he4 a4 hH1 hn
    refine lV (Value.bool true) he6 rfl rfl (wanted_plain rfl _) (rn_mv rfl (he6.op rfl) w5) ?_
    intro a7 he7
    clear he6 a6
    refine lV (Value.agg #[Value.int .i64 p.l, Value.int .i64 p.c]) he7 rfl rfl (he7.want rfl rfl rfl rfl rfl) (rn_ldp [Value.int .i64 p.l, Value.int .i64 p.c] rfl (he7.op rfl) undZ rfl infoZ2 (hH5.at (i := 0) rfl) rfl) ?_
    intro a8 he8
    clear he7 a7
    by_cases hb1 : okP p
    · skip
      refine lC he8 rfl rfl Tryd.func10 (by kernel_rfl) rfl rfl (he8.want rfl rfl rfl rfl rfl) rfl (RValid_c p true (decide_eq_true hb1) w5) ?_
      intro w9 a10 hn he10
      have hH9 := hH5.call hn
      clear he8 a8 hH5 hn
      refine lV (Value.bool true) he10 rfl rfl (wanted_plain rfl _) (rn_pk rfl (he10.op rfl) (he10.op rfl) w9) ?_
      intro a11 he11
      clear he10 a10
      refine lV (Value.bool true) he11 rfl rfl (wanted_plain rfl _) (rn_mv rfl (he11.op rfl) w9) ?_
      intro a12 he12
      clear he11 a11
      refine lV (Value.pointer (some ⟨p1, 1, none⟩)) he12 rfl rfl (he12.want rfl rfl rfl rfl rfl) (rn_faZ1 rfl (he12.op rfl) rfl w9) ?_
      intro a13 he13
      clear he12 a12
      refine lV (Value.int .i64 p.c) he13 rfl rfl (he13.want rfl rfl rfl rfl rfl) (rn_ld1 rfl (he13.op rfl) Tryd.underlying3 (hH9.at (i := 0) rfl) rfl) ?_
      intro a14 he14
      clear he13 a13
      refine lV (Value.int .i64 n) he14 rfl rfl (he14.want rfl rfl rfl rfl rfl) (rn_mv rfl (he14.op rfl) w9) ?_
      intro a15 he15
      clear he14 a14
      by_cases hb2 : p.c < n
      · skip
        refine lV (Value.bool true) he15 rfl rfl (he15.want rfl rfl rfl rfl rfl) (rn_lsI rfl (he15.op rfl) (he15.op rfl) (decide_eq_true hb2) w9) ?_
        intro a16 he16
        clear he15 a15
        refine lV (Value.bool true) he16 rfl rfl (wanted_plain rfl _) (rn_pk rfl (he16.op rfl) (he16.op rfl) w9) ?_
        intro a17 he17
        clear he16 a16
        refine lV (Value.bool true) he17 rfl rfl (wanted_plain rfl _) (rn_asg rfl (he17.op rfl) w9) ?_
        intro a18 he18
        clear he17 a17
        refine wpList_nil ?_
        refine then_ok ?_
        refine wp_ret ?_
        try simp only [Exit.then, Exit.inBlock, Exit.noGoto]
        exact ret_env rfl he18 rfl ⟨by (refine congrArg (fun b => Ending.returned (.bool b)) ?_; first | exact (decide_eq_true (by omega)).symm | exact (decide_eq_false (by omega)).symm), hH9.new⟩
      · skip
        refine lV (Value.bool false) he15 rfl rfl (he15.want rfl rfl rfl rfl rfl) (rn_lsI rfl (he15.op rfl) (he15.op rfl) (decide_eq_false hb2) w9) ?_
        intro a16 he16
        clear he15 a15
        refine lV (Value.bool false) he16 rfl rfl (wanted_plain rfl _) (rn_pk rfl (he16.op rfl) (he16.op rfl) w9) ?_
        intro a17 he17
        clear he16 a16
        refine lV (Value.bool false) he17 rfl rfl (wanted_plain rfl _) (rn_asg rfl (he17.op rfl) w9) ?_
        intro a18 he18
        clear he17 a17
        refine wpList_nil ?_
        refine then_ok ?_
        refine wp_ret ?_
        try simp only [Exit.then, Exit.inBlock, Exit.noGoto]
        exact ret_env rfl he18 rfl ⟨by (refine congrArg (fun b => Ending.returned (.bool b)) ?_; first | exact (decide_eq_true (by omega)).symm | exact (decide_eq_false (by omega)).symm), hH9.new⟩
    · skip
      refine lC he8 rfl rfl Tryd.func10 (by kernel_rfl) rfl rfl (he8.want rfl rfl rfl rfl rfl) rfl (RValid_c p false (decide_eq_false hb1) w5) ?_
      intro w9 a10 hn he10
      have hH9 := hH5.call hn
      clear he8 a8 hH5 hn
      refine lV (Value.bool false) he10 rfl rfl (wanted_plain rfl _) (rn_pk rfl (he10.op rfl) (he10.op rfl) w9) ?_
      intro a11 he11
      clear he10 a10
      refine lV (Value.bool false) he11 rfl rfl (wanted_plain rfl _) (rn_mv rfl (he11.op rfl) w9) ?_
      intro a12 he12
      clear he11 a11
      refine lSkip he12 rfl rfl (he12.wantNot rfl rfl rfl rfl rfl rfl) ?_
      intro a13 he13
      clear he12 a12
      refine lSkip he13 rfl rfl (he13.wantNot rfl rfl rfl rfl rfl rfl) ?_
      intro a14 he14
      clear he13 a13
      refine lSkip he14 rfl rfl (he14.wantNot rfl rfl rfl rfl rfl rfl) ?_
      intro a15 he15
      clear he14 a14
      refine lSkip he15 rfl rfl (he15.wantNot rfl rfl rfl rfl rfl rfl) ?_
      intro a16 he16
      clear he15 a15
      refine lV (Value.bool false) he16 rfl rfl (wanted_plain rfl _) (rn_pk0 rfl (he16.op rfl) (he16.op rfl) w9) ?_
      intro a17 he17
      clear he16 a16
      refine lV (Value.bool false) he17 rfl rfl (wanted_plain rfl _) (rn_asg rfl (he17.op rfl) w9) ?_
      intro a18 he18
      clear he17 a17
      refine wpList_nil ?_
      refine then_ok ?_
      refine wp_ret ?_
      try simp only [Exit.then, Exit.inBlock, Exit.noGoto]
      exact ret_env rfl he18 rfl ⟨by (refine congrArg (fun b => Ending.returned (.bool b)) ?_; first | exact (decide_eq_true (by omega)).symm | exact (decide_eq_false (by omega)).symm), hH9.new⟩
  · skip
    refine lC he4 rfl rfl Tryd.func32 (by kernel_rfl) rfl rfl (wanted_plain rfl _) rfl (RColumns_c n false (decide_eq_false hb0) w1) ?_
    intro w5 a6 hn he6
    have hH5 := hH1.call hn
    clear he4 a4 hH1 hn
    refine lV (Value.bool false) he6 rfl rfl (wanted_plain rfl _) (rn_mv rfl (he6.op rfl) w5) ?_
    intro a7 he7
    clear he6 a6
    refine lSkip he7 rfl rfl (he7.wantNot rfl rfl rfl rfl rfl rfl) ?_
    intro a8 he8
    clear he7 a7
    refine lSkip he8 rfl rfl (he8.wantNot rfl rfl rfl rfl rfl rfl) ?_
    intro a9 he9
    clear he8 a8
    refine lV (Value.bool false) he9 rfl rfl (wanted_plain rfl _) (rn_pk0 rfl (he9.op rfl) (he9.op rfl) w5) ?_
    intro a10 he10
    clear he9 a9
    refine lV (Value.bool false) he10 rfl rfl (wanted_plain rfl _) (rn_mv rfl (he10.op rfl) w5) ?_
    intro a11 he11
    clear he10 a10
    refine lSkip he11 rfl rfl (he11.wantNot rfl rfl rfl rfl rfl rfl) ?_
    intro a12 he12
    clear he11 a11
    refine lSkip he12 rfl rfl (he12.wantNot rfl rfl rfl rfl rfl rfl) ?_
    intro a13 he13
    clear he12 a12
    refine lSkip he13 rfl rfl (he13.wantNot rfl rfl rfl rfl rfl rfl) ?_
    intro a14 he14
    clear he13 a13
    refine lSkip he14 rfl rfl (he14.wantNot rfl rfl rfl rfl rfl rfl) ?_
    intro a15 he15
    clear he14 a14
    refine lV (Value.bool false) he15 rfl rfl (wanted_plain rfl _) (rn_pk0 rfl (he15.op rfl) (he15.op rfl) w5) ?_
    intro a16 he16
    clear he15 a15
    refine lV (Value.bool false) he16 rfl rfl (wanted_plain rfl _) (rn_asg rfl (he16.op rfl) w5) ?_
    intro a17 he17
    clear he16 a16
    refine wpList_nil ?_
    refine then_ok ?_
    refine wp_ret ?_
    try simp only [Exit.then, Exit.inBlock, Exit.noGoto]
    exact ret_env rfl he17 rfl ⟨by (refine congrArg (fun b => Ending.returned (.bool b)) ?_; first | exact (decide_eq_true (by omega)).symm | exact (decide_eq_false (by omega)).symm), hH5.new⟩
end Go.Proofs.YtijaemfalljdoaaDoor
