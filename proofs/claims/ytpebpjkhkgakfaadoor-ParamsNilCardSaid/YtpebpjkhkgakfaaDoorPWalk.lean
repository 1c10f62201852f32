/-
  The statements' walks: numbers with an index; bytes of numbers and numbers of bytes; a nil builder.
-/
import Derived.Test.YtpebpjkhkgakfaaDoorPLaw
namespace Go.Proofs.YtpebpjkhkgakfaaDoor
open Go.RowKit

set_option linter.unusedSimpArgs false in
set_option maxRecDepth 100000 in
set_option maxHeartbeats 1600000 in
theorem ParamsGets_w (A : Option Addr) (c b : Nat) (l : List Int) (i m : Int) (w : World) (hr : Rd w b A l.length (ivs l)) (hT : Tab w) : Calls Tryd.prog 3 #[.slice A l.length c, .int .i64 i, .int .i64 m] w fun e w' => e = .returned (.bool true) ∧ New w w' := by
  refine calls_args (vl := [Value.slice A l.length c, Value.int .i64 i, Value.int .i64 m]) 41 Tryd.func3 rfl Tryd.ntmps3 (by kernel_rfl) (fun a he => ?_)
  have he0 : Env 41 [(0, Value.slice A l.length c), (1, Value.int .i64 i), (2, Value.int .i64 m)] a := he
  clear he
  have hH := Hp.start w
  refine wp_seq ?_
  refine wp_region_lit ?_
  refine lV (Value.bool false) he0 rfl rfl (wanted_plain rfl _) (rn_asg rfl (he0.op rfl) w) ?_
  intro a1 he1
  clear he0 a
  refine wpList_nil ?_
  refine then_ok ?_
  refine wp_seq ?_
  refine wp_seq ?_
  refine wp_region_lit ?_
  refine lV (Value.slice A l.length c) he1 rfl rfl (wanted_plain rfl _) (rn_mv rfl (he1.op rfl) w) ?_
  intro a2 he2
  clear he1 a1
  refine lV (Value.int .i64 ((l.length : Nat) : Int)) he2 rfl rfl (wanted_plain rfl _) (rn_lenJ rfl (he2.op rfl) w) ?_
  intro a3 he3
  clear he2 a2
  by_cases hb0 : 40 < ((l.length : Nat) : Int)
  · skip
    refine lV (Value.bool true) he3 rfl rfl (wanted_plain rfl _) (rn_gtI rfl (he3.op rfl) (he3.op rfl) (decide_eq_true hb0) w) ?_
    intro a4 he4
    clear he3 a3
    refine wpList_nil ?_
    refine then_ok ?_
    refine wp_cond_true (he4.op rfl) ?_
    refine wp_seq ?_
    refine wp_region_lit ?_
    refine lC he4 rfl rfl Tryd.func9 (by kernel_rfl) rfl rfl (wanted_plain rfl _) rfl (known_c w (hT.new hH.new)) ?_
    intro w5 a6 hn he6
    have hH5 := hH.call hn
    clear he4 a4 hH hn
    refine lV (Value.bool true) he6 rfl rfl (wanted_plain rfl _) (rn_asg rfl (he6.op rfl) w5) ?_
    intro a7 he7
    clear he6 a6
    refine wpList_nil ?_
    refine then_ok ?_
    refine wp_ret ?_
    try simp only [Exit.then, Exit.inBlock, Exit.noGoto]
    exact ret_env rfl he7 rfl ⟨by first | rfl | (exfalso; omega), hH5.new⟩
  · skip
    refine lV (Value.bool false) he3 rfl rfl (wanted_plain rfl _) (rn_gtI rfl (he3.op rfl) (he3.op rfl) (decide_eq_false hb0) w) ?_
    intro a4 he4
    clear he3 a3
    refine wpList_nil ?_
    refine then_ok ?_
    refine wp_cond_false (he4.op rfl) ?_
    refine wp_skip ?_
    refine then_ok ?_
    refine wp_seq ?_
    refine wp_seq ?_
    have h1 := one_eq l i
    have h2 := getL_ge l i
    refine wp_region_lit ?_
    refine lV (Value.slice A l.length c) he4 rfl rfl (wanted_plain rfl _) (rn_mv rfl (he4.op rfl) w) ?_
    intro a5 he5
    clear he4 a4
    by_cases hb1 : okL l
    · skip
      refine lC he5 rfl rfl Tryd.func10 (by kernel_rfl) rfl rfl (wanted_plain rfl _) rfl (Valid_c A c b l true (decide_eq_true hb1) (by omega) w (hr.new hH.new)) ?_
      intro w6 a7 hn he7
      have hH6 := hH.call hn
      clear he5 a5 hH hn
      refine lV (Value.slice A l.length c) he7 rfl rfl (wanted_plain rfl _) (rn_mv rfl (he7.op rfl) w6) ?_
      intro a8 he8
      clear he7 a7
      refine lC he8 rfl rfl Tryd.func11 (by kernel_rfl) rfl rfl (wanted_plain rfl _) rfl (RValid_c A c b l true (decide_eq_true hb1) (by omega) w6 (hr.new hH6.new)) ?_
      intro w9 a10 hn he10
      have hH9 := hH6.call hn
      clear he8 a8 hH6 hn
      refine lV (Value.bool false) he10 rfl rfl (wanted_plain rfl _) (rn_neB (i := true) (j := true) rfl (he10.op rfl) (he10.op rfl) rfl w9) ?_
      intro a11 he11
      clear he10 a10
      refine lV (Value.bool false) he11 rfl rfl (wanted_plain rfl _) (rn_mv rfl (he11.op rfl) w9) ?_
      intro a12 he12
      clear he11 a11
      refine lV (Value.slice A l.length c) he12 rfl rfl (he12.want rfl rfl rfl rfl rfl) (rn_mv rfl (he12.op rfl) w9) ?_
      intro a13 he13
      clear he12 a12
      refine lV (Value.int .i64 i) he13 rfl rfl (he13.want rfl rfl rfl rfl rfl) (rn_mv rfl (he13.op rfl) w9) ?_
      intro a14 he14
      clear he13 a13
      refine lV (Value.int .i64 m) he14 rfl rfl (he14.want rfl rfl rfl rfl rfl) (rn_mv rfl (he14.op rfl) w9) ?_
      intro a15 he15
      clear he14 a14
      refine lC he15 rfl rfl Tryd.func12 (by kernel_rfl) rfl rfl (he15.want rfl rfl rfl rfl rfl) rfl (Get_c A c b l i m (by omega) w9 (hr.new hH9.new)) ?_
      intro w16 a17 hn he17
      have hH16 := hH9.call hn
      clear he15 a15 hH9 hn
      refine lV (Value.slice A l.length c) he17 rfl rfl (he17.want rfl rfl rfl rfl rfl) (rn_mv rfl (he17.op rfl) w16) ?_
      intro a18 he18
      clear he17 a17
      refine lV (Value.int .i64 i) he18 rfl rfl (he18.want rfl rfl rfl rfl rfl) (rn_mv rfl (he18.op rfl) w16) ?_
      intro a19 he19
      clear he18 a18
      refine lV (Value.int .i64 m) he19 rfl rfl (he19.want rfl rfl rfl rfl rfl) (rn_mv rfl (he19.op rfl) w16) ?_
      intro a20 he20
      clear he19 a19
      refine lC he20 rfl rfl Tryd.func13 (by kernel_rfl) rfl rfl (he20.want rfl rfl rfl rfl rfl) rfl (RGet_c A c b l i m (by omega) w16 (hr.new hH16.new)) ?_
      intro w21 a22 hn he22
      have hH21 := hH16.call hn
      clear he20 a20 hH16 hn
      refine lV (Value.bool false) he22 rfl rfl (he22.want rfl rfl rfl rfl rfl) (rn_neI rfl (he22.op rfl) (he22.op rfl) (bneT rfl) w21) ?_
      intro a23 he23
      clear he22 a22
      refine lV (Value.bool false) he23 rfl rfl (wanted_plain rfl _) (rn_pk0 rfl (he23.op rfl) (he23.op rfl) w21) ?_
      intro a24 he24
      clear he23 a23
      refine wpList_nil ?_
      refine then_ok ?_
      refine wp_cond_false (he24.op rfl) ?_
      refine wp_skip ?_
      refine then_ok ?_
      refine wp_seq ?_
      refine wp_region_lit ?_
      refine lV (Value.slice A l.length c) he24 rfl rfl (wanted_plain rfl _) (rn_mv rfl (he24.op rfl) w21) ?_
      intro a25 he25
      clear he24 a24
      refine lV (Value.int .i64 i) he25 rfl rfl (wanted_plain rfl _) (rn_mv rfl (he25.op rfl) w21) ?_
      intro a26 he26
      clear he25 a25
      refine lC he26 rfl rfl Tryd.func13 (by kernel_rfl) rfl rfl (wanted_plain rfl _) rfl (RGet_c A c b l i 1 (by omega) w21 (hr.new hH21.new)) ?_
      intro w27 a28 hn he28
      have hH27 := hH21.call hn
      clear he26 a26 hH21 hn
      refine lV (Value.int .i64 (getL l i 1)) he28 rfl rfl (wanted_plain rfl _) (rn_asg rfl (he28.op rfl) w27) ?_
      intro a29 he29
      clear he28 a28
      refine wpList_nil ?_
      refine then_ok ?_
      refine wp_seq ?_
      refine wp_seq ?_
      refine wp_region_lit ?_
      refine lV (Value.int .i64 (getL l i 1)) he29 rfl rfl (wanted_plain rfl _) (rn_mv rfl (he29.op rfl) w27) ?_
      intro a30 he30
      clear he29 a29
      by_cases hb2 : (getL l i 1) = 0
      · skip
        refine lV (Value.bool true) he30 rfl rfl (wanted_plain rfl _) (rn_eqI rfl (he30.op rfl) (he30.op rfl) (beqT hb2) w27) ?_
        intro a31 he31
        clear he30 a30
        refine wpList_nil ?_
        refine then_ok ?_
        refine wp_cond_true (he31.op rfl) ?_
        refine wp_region_lit ?_
        refine lV (Value.int .i64 1) he31 rfl rfl (wanted_plain rfl _) (rn_asg rfl (he31.op rfl) w27) ?_
        intro a32 he32
        clear he31 a31
        refine wpList_nil ?_
        refine then_ok ?_
        refine wp_seq ?_
        refine wp_region_lit ?_
        refine lV (Value.slice A l.length c) he32 rfl rfl (wanted_plain rfl _) (rn_mv rfl (he32.op rfl) w27) ?_
        intro a33 he33
        clear he32 a32
        refine lV (Value.int .i64 i) he33 rfl rfl (wanted_plain rfl _) (rn_mv rfl (he33.op rfl) w27) ?_
        intro a34 he34
        clear he33 a33
        refine lC he34 rfl rfl Tryd.func14 (by kernel_rfl) rfl rfl (wanted_plain rfl _) rfl (One_c A c b l i (by omega) w27 (hr.new hH27.new)) ?_
        intro w35 a36 hn he36
        have hH35 := hH27.call hn
        clear he34 a34 hH27 hn
        refine lV (Value.int .i64 1) he36 rfl rfl (wanted_plain rfl _) (rn_mv rfl (he36.op rfl) w35) ?_
        intro a37 he37
        clear he36 a36
        by_cases hb3 : (oneL l i) = 1
        · skip
          refine lV (Value.bool true) he37 rfl rfl (wanted_plain rfl _) (rn_eqI rfl (he37.op rfl) (he37.op rfl) (beqT hb3) w35) ?_
          intro a38 he38
          clear he37 a37
          refine lV (Value.bool true) he38 rfl rfl (wanted_plain rfl _) (rn_mv rfl (he38.op rfl) w35) ?_
          intro a39 he39
          clear he38 a38
          refine lC he39 rfl rfl Tryd.func9 (by kernel_rfl) rfl rfl (he39.want rfl rfl rfl rfl rfl) rfl (known_c w35 (hT.new hH35.new)) ?_
          intro w40 a41 hn he41
          have hH40 := hH35.call hn
          clear he39 a39 hH35 hn
          refine lV (Value.bool true) he41 rfl rfl (wanted_plain rfl _) (rn_pk rfl (he41.op rfl) (he41.op rfl) w40) ?_
          intro a42 he42
          clear he41 a41
          refine lV (Value.bool true) he42 rfl rfl (wanted_plain rfl _) (rn_asg rfl (he42.op rfl) w40) ?_
          intro a43 he43
          clear he42 a42
          refine wpList_nil ?_
          refine then_ok ?_
          refine wp_ret ?_
          try simp only [Exit.then, Exit.inBlock, Exit.noGoto]
          exact ret_env rfl he43 rfl ⟨by first | rfl | (exfalso; omega), hH40.new⟩
        · skip
          refine lV (Value.bool false) he37 rfl rfl (wanted_plain rfl _) (rn_eqI rfl (he37.op rfl) (he37.op rfl) (beqF hb3) w35) ?_
          intro a38 he38
          clear he37 a37
          refine lV (Value.bool false) he38 rfl rfl (wanted_plain rfl _) (rn_mv rfl (he38.op rfl) w35) ?_
          intro a39 he39
          clear he38 a38
          refine lSkip he39 rfl rfl (he39.wantNot rfl rfl rfl rfl rfl rfl) ?_
          intro a40 he40
          clear he39 a39
          refine lV (Value.bool false) he40 rfl rfl (wanted_plain rfl _) (rn_pk0 rfl (he40.op rfl) (he40.op rfl) w35) ?_
          intro a41 he41
          clear he40 a40
          refine lV (Value.bool false) he41 rfl rfl (wanted_plain rfl _) (rn_asg rfl (he41.op rfl) w35) ?_
          intro a42 he42
          clear he41 a41
          refine wpList_nil ?_
          refine then_ok ?_
          refine wp_ret ?_
          try simp only [Exit.then, Exit.inBlock, Exit.noGoto]
          exact ret_env rfl he42 rfl ⟨by first | rfl | (exfalso; omega), hH35.new⟩
      · skip
        refine lV (Value.bool false) he30 rfl rfl (wanted_plain rfl _) (rn_eqI rfl (he30.op rfl) (he30.op rfl) (beqF hb2) w27) ?_
        intro a31 he31
        clear he30 a30
        refine wpList_nil ?_
        refine then_ok ?_
        refine wp_cond_false (he31.op rfl) ?_
        refine wp_skip ?_
        refine then_ok ?_
        refine wp_seq ?_
        refine wp_region_lit ?_
        refine lV (Value.slice A l.length c) he31 rfl rfl (wanted_plain rfl _) (rn_mv rfl (he31.op rfl) w27) ?_
        intro a32 he32
        clear he31 a31
        refine lV (Value.int .i64 i) he32 rfl rfl (wanted_plain rfl _) (rn_mv rfl (he32.op rfl) w27) ?_
        intro a33 he33
        clear he32 a32
        refine lC he33 rfl rfl Tryd.func14 (by kernel_rfl) rfl rfl (wanted_plain rfl _) rfl (One_c A c b l i (by omega) w27 (hr.new hH27.new)) ?_
        intro w34 a35 hn he35
        have hH34 := hH27.call hn
        clear he33 a33 hH27 hn
        refine lV (Value.int .i64 (getL l i 1)) he35 rfl rfl (wanted_plain rfl _) (rn_mv rfl (he35.op rfl) w34) ?_
        intro a36 he36
        clear he35 a35
        by_cases hb3 : (oneL l i) = (getL l i 1)
        · skip
          refine lV (Value.bool true) he36 rfl rfl (wanted_plain rfl _) (rn_eqI rfl (he36.op rfl) (he36.op rfl) (beqT hb3) w34) ?_
          intro a37 he37
          clear he36 a36
          refine lV (Value.bool true) he37 rfl rfl (wanted_plain rfl _) (rn_mv rfl (he37.op rfl) w34) ?_
          intro a38 he38
          clear he37 a37
          refine lC he38 rfl rfl Tryd.func9 (by kernel_rfl) rfl rfl (he38.want rfl rfl rfl rfl rfl) rfl (known_c w34 (hT.new hH34.new)) ?_
          intro w39 a40 hn he40
          have hH39 := hH34.call hn
          clear he38 a38 hH34 hn
          refine lV (Value.bool true) he40 rfl rfl (wanted_plain rfl _) (rn_pk rfl (he40.op rfl) (he40.op rfl) w39) ?_
          intro a41 he41
          clear he40 a40
          refine lV (Value.bool true) he41 rfl rfl (wanted_plain rfl _) (rn_asg rfl (he41.op rfl) w39) ?_
          intro a42 he42
          clear he41 a41
          refine wpList_nil ?_
          refine then_ok ?_
          refine wp_ret ?_
          try simp only [Exit.then, Exit.inBlock, Exit.noGoto]
          exact ret_env rfl he42 rfl ⟨by first | rfl | (exfalso; omega), hH39.new⟩
        · skip
          refine lV (Value.bool false) he36 rfl rfl (wanted_plain rfl _) (rn_eqI rfl (he36.op rfl) (he36.op rfl) (beqF hb3) w34) ?_
          intro a37 he37
          clear he36 a36
          refine lV (Value.bool false) he37 rfl rfl (wanted_plain rfl _) (rn_mv rfl (he37.op rfl) w34) ?_
          intro a38 he38
          clear he37 a37
          refine lSkip he38 rfl rfl (he38.wantNot rfl rfl rfl rfl rfl rfl) ?_
          intro a39 he39
          clear he38 a38
          refine lV (Value.bool false) he39 rfl rfl (wanted_plain rfl _) (rn_pk0 rfl (he39.op rfl) (he39.op rfl) w34) ?_
          intro a40 he40
          clear he39 a39
          refine lV (Value.bool false) he40 rfl rfl (wanted_plain rfl _) (rn_asg rfl (he40.op rfl) w34) ?_
          intro a41 he41
          clear he40 a40
          refine wpList_nil ?_
          refine then_ok ?_
          refine wp_ret ?_
          try simp only [Exit.then, Exit.inBlock, Exit.noGoto]
          exact ret_env rfl he41 rfl ⟨by first | rfl | (exfalso; omega), hH34.new⟩
    · skip
      refine lC he5 rfl rfl Tryd.func10 (by kernel_rfl) rfl rfl (wanted_plain rfl _) rfl (Valid_c A c b l false (decide_eq_false hb1) (by omega) w (hr.new hH.new)) ?_
      intro w6 a7 hn he7
      have hH6 := hH.call hn
      clear he5 a5 hH hn
      refine lV (Value.slice A l.length c) he7 rfl rfl (wanted_plain rfl _) (rn_mv rfl (he7.op rfl) w6) ?_
      intro a8 he8
      clear he7 a7
      refine lC he8 rfl rfl Tryd.func11 (by kernel_rfl) rfl rfl (wanted_plain rfl _) rfl (RValid_c A c b l false (decide_eq_false hb1) (by omega) w6 (hr.new hH6.new)) ?_
      intro w9 a10 hn he10
      have hH9 := hH6.call hn
      clear he8 a8 hH6 hn
      refine lV (Value.bool false) he10 rfl rfl (wanted_plain rfl _) (rn_neB (i := false) (j := false) rfl (he10.op rfl) (he10.op rfl) rfl w9) ?_
      intro a11 he11
      clear he10 a10
      refine lV (Value.bool false) he11 rfl rfl (wanted_plain rfl _) (rn_mv rfl (he11.op rfl) w9) ?_
      intro a12 he12
      clear he11 a11
      refine lV (Value.slice A l.length c) he12 rfl rfl (he12.want rfl rfl rfl rfl rfl) (rn_mv rfl (he12.op rfl) w9) ?_
      intro a13 he13
      clear he12 a12
      refine lV (Value.int .i64 i) he13 rfl rfl (he13.want rfl rfl rfl rfl rfl) (rn_mv rfl (he13.op rfl) w9) ?_
      intro a14 he14
      clear he13 a13
      refine lV (Value.int .i64 m) he14 rfl rfl (he14.want rfl rfl rfl rfl rfl) (rn_mv rfl (he14.op rfl) w9) ?_
      intro a15 he15
      clear he14 a14
      refine lC he15 rfl rfl Tryd.func12 (by kernel_rfl) rfl rfl (he15.want rfl rfl rfl rfl rfl) rfl (Get_c A c b l i m (by omega) w9 (hr.new hH9.new)) ?_
      intro w16 a17 hn he17
      have hH16 := hH9.call hn
      clear he15 a15 hH9 hn
      refine lV (Value.slice A l.length c) he17 rfl rfl (he17.want rfl rfl rfl rfl rfl) (rn_mv rfl (he17.op rfl) w16) ?_
      intro a18 he18
      clear he17 a17
      refine lV (Value.int .i64 i) he18 rfl rfl (he18.want rfl rfl rfl rfl rfl) (rn_mv rfl (he18.op rfl) w16) ?_
      intro a19 he19
      clear he18 a18
      refine lV (Value.int .i64 m) he19 rfl rfl (he19.want rfl rfl rfl rfl rfl) (rn_mv rfl (he19.op rfl) w16) ?_
      intro a20 he20
      clear he19 a19
      refine lC he20 rfl rfl Tryd.func13 (by kernel_rfl) rfl rfl (he20.want rfl rfl rfl rfl rfl) rfl (RGet_c A c b l i m (by omega) w16 (hr.new hH16.new)) ?_
      intro w21 a22 hn he22
      have hH21 := hH16.call hn
      clear he20 a20 hH16 hn
      refine lV (Value.bool false) he22 rfl rfl (he22.want rfl rfl rfl rfl rfl) (rn_neI rfl (he22.op rfl) (he22.op rfl) (bneT rfl) w21) ?_
      intro a23 he23
      clear he22 a22
      refine lV (Value.bool false) he23 rfl rfl (wanted_plain rfl _) (rn_pk0 rfl (he23.op rfl) (he23.op rfl) w21) ?_
      intro a24 he24
      clear he23 a23
      refine wpList_nil ?_
      refine then_ok ?_
      refine wp_cond_false (he24.op rfl) ?_
      refine wp_skip ?_
      refine then_ok ?_
      refine wp_seq ?_
      refine wp_region_lit ?_
      refine lV (Value.slice A l.length c) he24 rfl rfl (wanted_plain rfl _) (rn_mv rfl (he24.op rfl) w21) ?_
      intro a25 he25
      clear he24 a24
      refine lV (Value.int .i64 i) he25 rfl rfl (wanted_plain rfl _) (rn_mv rfl (he25.op rfl) w21) ?_
      intro a26 he26
      clear he25 a25
      refine lC he26 rfl rfl Tryd.func13 (by kernel_rfl) rfl rfl (wanted_plain rfl _) rfl (RGet_c A c b l i 1 (by omega) w21 (hr.new hH21.new)) ?_
      intro w27 a28 hn he28
      have hH27 := hH21.call hn
      clear he26 a26 hH21 hn
      refine lV (Value.int .i64 (getL l i 1)) he28 rfl rfl (wanted_plain rfl _) (rn_asg rfl (he28.op rfl) w27) ?_
      intro a29 he29
      clear he28 a28
      refine wpList_nil ?_
      refine then_ok ?_
      refine wp_seq ?_
      refine wp_seq ?_
      refine wp_region_lit ?_
      refine lV (Value.int .i64 (getL l i 1)) he29 rfl rfl (wanted_plain rfl _) (rn_mv rfl (he29.op rfl) w27) ?_
      intro a30 he30
      clear he29 a29
      by_cases hb2 : (getL l i 1) = 0
      · skip
        refine lV (Value.bool true) he30 rfl rfl (wanted_plain rfl _) (rn_eqI rfl (he30.op rfl) (he30.op rfl) (beqT hb2) w27) ?_
        intro a31 he31
        clear he30 a30
        refine wpList_nil ?_
        refine then_ok ?_
        refine wp_cond_true (he31.op rfl) ?_
        refine wp_region_lit ?_
        refine lV (Value.int .i64 1) he31 rfl rfl (wanted_plain rfl _) (rn_asg rfl (he31.op rfl) w27) ?_
        intro a32 he32
        clear he31 a31
        refine wpList_nil ?_
        refine then_ok ?_
        refine wp_seq ?_
        refine wp_region_lit ?_
        refine lV (Value.slice A l.length c) he32 rfl rfl (wanted_plain rfl _) (rn_mv rfl (he32.op rfl) w27) ?_
        intro a33 he33
        clear he32 a32
        refine lV (Value.int .i64 i) he33 rfl rfl (wanted_plain rfl _) (rn_mv rfl (he33.op rfl) w27) ?_
        intro a34 he34
        clear he33 a33
        refine lC he34 rfl rfl Tryd.func14 (by kernel_rfl) rfl rfl (wanted_plain rfl _) rfl (One_c A c b l i (by omega) w27 (hr.new hH27.new)) ?_
        intro w35 a36 hn he36
        have hH35 := hH27.call hn
        clear he34 a34 hH27 hn
        refine lV (Value.int .i64 1) he36 rfl rfl (wanted_plain rfl _) (rn_mv rfl (he36.op rfl) w35) ?_
        intro a37 he37
        clear he36 a36
        by_cases hb3 : (oneL l i) = 1
        · skip
          refine lV (Value.bool true) he37 rfl rfl (wanted_plain rfl _) (rn_eqI rfl (he37.op rfl) (he37.op rfl) (beqT hb3) w35) ?_
          intro a38 he38
          clear he37 a37
          refine lV (Value.bool true) he38 rfl rfl (wanted_plain rfl _) (rn_mv rfl (he38.op rfl) w35) ?_
          intro a39 he39
          clear he38 a38
          refine lC he39 rfl rfl Tryd.func9 (by kernel_rfl) rfl rfl (he39.want rfl rfl rfl rfl rfl) rfl (known_c w35 (hT.new hH35.new)) ?_
          intro w40 a41 hn he41
          have hH40 := hH35.call hn
          clear he39 a39 hH35 hn
          refine lV (Value.bool true) he41 rfl rfl (wanted_plain rfl _) (rn_pk rfl (he41.op rfl) (he41.op rfl) w40) ?_
          intro a42 he42
          clear he41 a41
          refine lV (Value.bool true) he42 rfl rfl (wanted_plain rfl _) (rn_asg rfl (he42.op rfl) w40) ?_
          intro a43 he43
          clear he42 a42
          refine wpList_nil ?_
          refine then_ok ?_
          refine wp_ret ?_
          try simp only [Exit.then, Exit.inBlock, Exit.noGoto]
          exact ret_env rfl he43 rfl ⟨by first | rfl | (exfalso; omega), hH40.new⟩
        · skip
          refine lV (Value.bool false) he37 rfl rfl (wanted_plain rfl _) (rn_eqI rfl (he37.op rfl) (he37.op rfl) (beqF hb3) w35) ?_
          intro a38 he38
          clear he37 a37
          refine lV (Value.bool false) he38 rfl rfl (wanted_plain rfl _) (rn_mv rfl (he38.op rfl) w35) ?_
          intro a39 he39
          clear he38 a38
          refine lSkip he39 rfl rfl (he39.wantNot rfl rfl rfl rfl rfl rfl) ?_
          intro a40 he40
          clear he39 a39
          refine lV (Value.bool false) he40 rfl rfl (wanted_plain rfl _) (rn_pk0 rfl (he40.op rfl) (he40.op rfl) w35) ?_
          intro a41 he41
          clear he40 a40
          refine lV (Value.bool false) he41 rfl rfl (wanted_plain rfl _) (rn_asg rfl (he41.op rfl) w35) ?_
          intro a42 he42
          clear he41 a41
          refine wpList_nil ?_
          refine then_ok ?_
          refine wp_ret ?_
          try simp only [Exit.then, Exit.inBlock, Exit.noGoto]
          exact ret_env rfl he42 rfl ⟨by first | rfl | (exfalso; omega), hH35.new⟩
      · skip
        refine lV (Value.bool false) he30 rfl rfl (wanted_plain rfl _) (rn_eqI rfl (he30.op rfl) (he30.op rfl) (beqF hb2) w27) ?_
        intro a31 he31
        clear he30 a30
        refine wpList_nil ?_
        refine then_ok ?_
        refine wp_cond_false (he31.op rfl) ?_
        refine wp_skip ?_
        refine then_ok ?_
        refine wp_seq ?_
        refine wp_region_lit ?_
        refine lV (Value.slice A l.length c) he31 rfl rfl (wanted_plain rfl _) (rn_mv rfl (he31.op rfl) w27) ?_
        intro a32 he32
        clear he31 a31
        refine lV (Value.int .i64 i) he32 rfl rfl (wanted_plain rfl _) (rn_mv rfl (he32.op rfl) w27) ?_
        intro a33 he33
        clear he32 a32
        refine lC he33 rfl rfl Tryd.func14 (by kernel_rfl) rfl rfl (wanted_plain rfl _) rfl (One_c A c b l i (by omega) w27 (hr.new hH27.new)) ?_
        intro w34 a35 hn he35
        have hH34 := hH27.call hn
        clear he33 a33 hH27 hn
        refine lV (Value.int .i64 (getL l i 1)) he35 rfl rfl (wanted_plain rfl _) (rn_mv rfl (he35.op rfl) w34) ?_
        intro a36 he36
        clear he35 a35
        by_cases hb3 : (oneL l i) = (getL l i 1)
        · skip
          refine lV (Value.bool true) he36 rfl rfl (wanted_plain rfl _) (rn_eqI rfl (he36.op rfl) (he36.op rfl) (beqT hb3) w34) ?_
          intro a37 he37
          clear he36 a36
          refine lV (Value.bool true) he37 rfl rfl (wanted_plain rfl _) (rn_mv rfl (he37.op rfl) w34) ?_
          intro a38 he38
          clear he37 a37
          refine lC he38 rfl rfl Tryd.func9 (by kernel_rfl) rfl rfl (he38.want rfl rfl rfl rfl rfl) rfl (known_c w34 (hT.new hH34.new)) ?_
          intro w39 a40 hn he40
          have hH39 := hH34.call hn
          clear he38 a38 hH34 hn
          refine lV (Value.bool true) he40 rfl rfl (wanted_plain rfl _) (rn_pk rfl (he40.op rfl) (he40.op rfl) w39) ?_
          intro a41 he41
          clear he40 a40
          refine lV (Value.bool true) he41 rfl rfl (wanted_plain rfl _) (rn_asg rfl (he41.op rfl) w39) ?_
          intro a42 he42
          clear he41 a41
          refine wpList_nil ?_
          refine then_ok ?_
          refine wp_ret ?_
          try simp only [Exit.then, Exit.inBlock, Exit.noGoto]
          exact ret_env rfl he42 rfl ⟨by first | rfl | (exfalso; omega), hH39.new⟩
        · skip
          refine lV (Value.bool false) he36 rfl rfl (wanted_plain rfl _) (rn_eqI rfl (he36.op rfl) (he36.op rfl) (beqF hb3) w34) ?_
          intro a37 he37
          clear he36 a36
          refine lV (Value.bool false) he37 rfl rfl (wanted_plain rfl _) (rn_mv rfl (he37.op rfl) w34) ?_
          intro a38 he38
          clear he37 a37
          refine lSkip he38 rfl rfl (he38.wantNot rfl rfl rfl rfl rfl rfl) ?_
          intro a39 he39
          clear he38 a38
          refine lV (Value.bool false) he39 rfl rfl (wanted_plain rfl _) (rn_pk0 rfl (he39.op rfl) (he39.op rfl) w34) ?_
          intro a40 he40
          clear he39 a39
          refine lV (Value.bool false) he40 rfl rfl (wanted_plain rfl _) (rn_asg rfl (he40.op rfl) w34) ?_
          intro a41 he41
          clear he40 a40
          refine wpList_nil ?_
          refine then_ok ?_
          refine wp_ret ?_
          try simp only [Exit.then, Exit.inBlock, Exit.noGoto]
          exact ret_env rfl he41 rfl ⟨by first | rfl | (exfalso; omega), hH34.new⟩
set_option linter.unusedSimpArgs false in
set_option maxRecDepth 100000 in
set_option maxHeartbeats 1600000 in
theorem ParamsTexts_w (A : Option Addr) (c b : Nat) (l : List Int) (s : List UInt8) (w : World) (hr : Rd w b A l.length (ivs l)) (hT : Tab w) : Calls Tryd.prog 4 #[.slice A l.length c, .string (bs s)] w fun e w' => e = .returned (.bool true) ∧ New w w' := by
  refine calls_args (vl := [Value.slice A l.length c, Value.string (bs s)]) 52 Tryd.func4 rfl Tryd.ntmps4 (by kernel_rfl) (fun a he => ?_)
  have he0 : Env 52 [(0, Value.slice A l.length c), (1, Value.string (bs s))] a := he
  clear he
  have hH := Hp.start w
  refine wp_seq ?_
  refine wp_region_lit ?_
  refine lV (Value.bool false) he0 rfl rfl (wanted_plain rfl _) (rn_asg rfl (he0.op rfl) w) ?_
  intro a1 he1
  clear he0 a
  refine wpList_nil ?_
  refine then_ok ?_
  refine wp_seq ?_
  refine wp_seq ?_
  refine wp_region_lit ?_
  refine lV (Value.slice A l.length c) he1 rfl rfl (wanted_plain rfl _) (rn_mv rfl (he1.op rfl) w) ?_
  intro a2 he2
  clear he1 a1
  refine lV (Value.int .i64 ((l.length : Nat) : Int)) he2 rfl rfl (wanted_plain rfl _) (rn_lenJ rfl (he2.op rfl) w) ?_
  intro a3 he3
  clear he2 a2
  by_cases hb0 : 40 < ((l.length : Nat) : Int)
  · skip
    refine lV (Value.bool true) he3 rfl rfl (wanted_plain rfl _) (rn_gtI rfl (he3.op rfl) (he3.op rfl) (decide_eq_true hb0) w) ?_
    intro a4 he4
    clear he3 a3
    refine lV (Value.bool true) he4 rfl rfl (wanted_plain rfl _) (rn_mv rfl (he4.op rfl) w) ?_
    intro a5 he5
    clear he4 a4
    refine lSkip he5 rfl rfl (he5.wantNot rfl rfl rfl rfl rfl rfl) ?_
    intro a6 he6
    clear he5 a5
    refine lSkip he6 rfl rfl (he6.wantNot rfl rfl rfl rfl rfl rfl) ?_
    intro a7 he7
    clear he6 a6
    refine lSkip he7 rfl rfl (he7.wantNot rfl rfl rfl rfl rfl rfl) ?_
    intro a8 he8
    clear he7 a7
    refine lV (Value.bool true) he8 rfl rfl (wanted_plain rfl _) (rn_pk rfl (he8.op rfl) (he8.op rfl) w) ?_
    intro a9 he9
    clear he8 a8
    refine wpList_nil ?_
    refine then_ok ?_
    refine wp_cond_true (he9.op rfl) ?_
    refine wp_seq ?_
    refine wp_region_lit ?_
    refine lC he9 rfl rfl Tryd.func9 (by kernel_rfl) rfl rfl (wanted_plain rfl _) rfl (known_c w (hT.new hH.new)) ?_
    intro w10 a11 hn he11
    have hH10 := hH.call hn
    clear he9 a9 hH hn
    refine lV (Value.bool true) he11 rfl rfl (wanted_plain rfl _) (rn_asg rfl (he11.op rfl) w10) ?_
    intro a12 he12
    clear he11 a11
    refine wpList_nil ?_
    refine then_ok ?_
    refine wp_ret ?_
    try simp only [Exit.then, Exit.inBlock, Exit.noGoto]
    exact ret_env rfl he12 rfl ⟨by first | rfl | (exfalso; omega), hH10.new⟩
  · skip
    refine lV (Value.bool false) he3 rfl rfl (wanted_plain rfl _) (rn_gtI rfl (he3.op rfl) (he3.op rfl) (decide_eq_false hb0) w) ?_
    intro a4 he4
    clear he3 a3
    refine lV (Value.bool false) he4 rfl rfl (wanted_plain rfl _) (rn_mv rfl (he4.op rfl) w) ?_
    intro a5 he5
    clear he4 a4
    refine lV (Value.string (bs s)) he5 rfl rfl (he5.want rfl rfl rfl rfl rfl) (rn_mv rfl (he5.op rfl) w) ?_
    intro a6 he6
    clear he5 a5
    refine lV (Value.int .i64 ((s.length : Nat) : Int)) he6 rfl rfl (he6.want rfl rfl rfl rfl rfl) (rn_lenS rfl (he6.op rfl) w) ?_
    intro a7 he7
    clear he6 a6
    by_cases hb1 : 200 < ((s.length : Nat) : Int)
    · skip
      refine lV (Value.bool true) he7 rfl rfl (he7.want rfl rfl rfl rfl rfl) (rn_gtI rfl (he7.op rfl) (he7.op rfl) (decide_eq_true hb1) w) ?_
      intro a8 he8
      clear he7 a7
      refine lV (Value.bool true) he8 rfl rfl (wanted_plain rfl _) (rn_pk0 rfl (he8.op rfl) (he8.op rfl) w) ?_
      intro a9 he9
      clear he8 a8
      refine wpList_nil ?_
      refine then_ok ?_
      refine wp_cond_true (he9.op rfl) ?_
      refine wp_seq ?_
      refine wp_region_lit ?_
      refine lC he9 rfl rfl Tryd.func9 (by kernel_rfl) rfl rfl (wanted_plain rfl _) rfl (known_c w (hT.new hH.new)) ?_
      intro w10 a11 hn he11
      have hH10 := hH.call hn
      clear he9 a9 hH hn
      refine lV (Value.bool true) he11 rfl rfl (wanted_plain rfl _) (rn_asg rfl (he11.op rfl) w10) ?_
      intro a12 he12
      clear he11 a11
      refine wpList_nil ?_
      refine then_ok ?_
      refine wp_ret ?_
      try simp only [Exit.then, Exit.inBlock, Exit.noGoto]
      exact ret_env rfl he12 rfl ⟨by first | rfl | (exfalso; omega), hH10.new⟩
    · skip
      refine lV (Value.bool false) he7 rfl rfl (he7.want rfl rfl rfl rfl rfl) (rn_gtI rfl (he7.op rfl) (he7.op rfl) (decide_eq_false hb1) w) ?_
      intro a8 he8
      clear he7 a7
      refine lV (Value.bool false) he8 rfl rfl (wanted_plain rfl _) (rn_pk0 rfl (he8.op rfl) (he8.op rfl) w) ?_
      intro a9 he9
      clear he8 a8
      refine wpList_nil ?_
      refine then_ok ?_
      refine wp_cond_false (he9.op rfl) ?_
      refine wp_skip ?_
      refine then_ok ?_
      refine wp_seq ?_
      refine wp_seq ?_
      have hLs := lst_len s
      refine wp_region_lit ?_
      refine lV (Value.slice A l.length c) he9 rfl rfl (wanted_plain rfl _) (rn_mv rfl (he9.op rfl) w) ?_
      intro a10 he10
      clear he9 a9
      by_cases hb2 : okL l
      · skip
        refine lC he10 rfl rfl Tryd.func11 (by kernel_rfl) rfl rfl (wanted_plain rfl _) rfl (RValid_c A c b l true (decide_eq_true hb2) (by omega) w (hr.new hH.new)) ?_
        intro w11 a12 hn he12
        have hH11 := hH.call hn
        clear he10 a10 hH hn
        refine lV (Value.bool false) he12 rfl rfl (wanted_plain rfl _) (rn_not (b := true) rfl (he12.op rfl) w11) ?_
        intro a13 he13
        clear he12 a12
        refine wpList_nil ?_
        refine then_ok ?_
        refine wp_cond_false (he13.op rfl) ?_
        refine wp_seq ?_
        have htl := text_len l hb2.2.1
        refine wp_region_lit ?_
        refine lV (Value.slice A l.length c) he13 rfl rfl (wanted_plain rfl _) (rn_mv rfl (he13.op rfl) w11) ?_
        intro a14 he14
        clear he13 a13
        refine lV (Value.slice A l.length c) he14 rfl rfl (wanted_plain rfl _) (rn_mv rfl (he14.op rfl) w11) ?_
        intro a15 he15
        clear he14 a14
        refine lC he15 rfl rfl Tryd.func16 (by kernel_rfl) rfl rfl (wanted_plain rfl _) rfl (RText_c A c b l hb2.2.1 (by omega) w11 (hr.new hH11.new)) ?_
        intro w16 a17 hn he17
        have hH16 := hH11.call hn
        clear he15 a15 hH11 hn
        refine lC he17 rfl rfl Tryd.func15 (by kernel_rfl) rfl rfl (wanted_plain rfl _) rfl (text_c A c b l (textL l) 0 true (decide_eq_true (if_pos hb2)) (by omega) w16 (hr.new hH16.new) (hT.new hH16.new)) ?_
        intro w18 a19 hn he19
        have hH18 := hH16.call hn
        clear he17 a17 hH16 hn
        refine lV (Value.bool false) he19 rfl rfl (wanted_plain rfl _) (rn_not (b := true) rfl (he19.op rfl) w18) ?_
        intro a20 he20
        clear he19 a19
        refine lV (Value.bool false) he20 rfl rfl (wanted_plain rfl _) (rn_mv rfl (he20.op rfl) w18) ?_
        intro a21 he21
        clear he20 a20
        refine lV (Value.slice A l.length c) he21 rfl rfl (he21.want rfl rfl rfl rfl rfl) (rn_mv rfl (he21.op rfl) w18) ?_
        intro a22 he22
        clear he21 a21
        refine lC he22 rfl rfl Tryd.func16 (by kernel_rfl) rfl rfl (he22.want rfl rfl rfl rfl rfl) rfl (RText_c A c b l hb2.2.1 (by omega) w18 (hr.new hH18.new)) ?_
        intro w23 a24 hn he24
        have hH23 := hH18.call hn
        clear he22 a22 hH18 hn
        refine lV (Value.slice A l.length c) he24 rfl rfl (he24.want rfl rfl rfl rfl rfl) (rn_mv rfl (he24.op rfl) w23) ?_
        intro a25 he25
        clear he24 a24
        refine lC he25 rfl rfl Tryd.func17 (by kernel_rfl) rfl rfl (he25.want rfl rfl rfl rfl rfl) rfl (parses_c (textL l) 0 A c b l true (decide_eq_true (prs_text hb2)) (by omega) (by omega) w23 (hr.new hH23.new)) ?_
        intro w26 a27 hn he27
        have hH26 := hH23.call hn
        clear he25 a25 hH23 hn
        refine lV (Value.bool false) he27 rfl rfl (he27.want rfl rfl rfl rfl rfl) (rn_not (b := true) rfl (he27.op rfl) w26) ?_
        intro a28 he28
        clear he27 a27
        refine lV (Value.bool false) he28 rfl rfl (wanted_plain rfl _) (rn_pk0 rfl (he28.op rfl) (he28.op rfl) w26) ?_
        intro a29 he29
        clear he28 a28
        refine wpList_nil ?_
        refine then_ok ?_
        refine wp_cond_false (he29.op rfl) ?_
        refine wp_skip ?_
        refine then_ok ?_
        refine wp_seq ?_
        refine wp_region_lit ?_
        refine lV (Value.string (bs s)) he29 rfl rfl (wanted_plain rfl _) (rn_mv rfl (he29.op rfl) w26) ?_
        intro a30 he30
        clear he29 a29
        by_cases hb3 : ∀ c ∈ s, fine c
        · skip
          refine lCx he30 rfl rfl Tryd.func18 (by kernel_rfl) rfl rfl (wanted_plain rfl _) rfl (RParse_yes s hb3 (by omega) w26) ?_
          rintro _ w32 ⟨A31, c31, b31, rfl, hr31, hn⟩
          refine ⟨_, rfl, ?_⟩
          intro a33 he33
          have hH32 := hH26.call hn
          clear he30 a30 hH26
          clear hn
          refine lV (Value.tuple #[Value.slice A31 (lst s).length c31, Value.bool true]) he33 rfl rfl (wanted_plain rfl _) (rn_mv rfl (he33.op rfl) w32) ?_
          intro a34 he34
          clear he33 a33
          refine lV (Value.slice A31 (lst s).length c31) he34 rfl rfl (wanted_plain rfl _) (rn_ext rfl (he34.op rfl) rfl w32) ?_
          intro a35 he35
          clear he34 a34
          refine lV (Value.bool true) he35 rfl rfl (wanted_plain rfl _) (rn_ext rfl (he35.op rfl) rfl w32) ?_
          intro a36 he36
          clear he35 a35
          refine lV (Value.slice A31 (lst s).length c31) he36 rfl rfl (wanted_plain rfl _) (rn_asg rfl (he36.op rfl) w32) ?_
          intro a37 he37
          clear he36 a36
          refine lV (Value.bool true) he37 rfl rfl (wanted_plain rfl _) (rn_asg rfl (he37.op rfl) w32) ?_
          intro a38 he38
          clear he37 a37
          refine wpList_nil ?_
          refine then_ok ?_
          refine wp_seq ?_
          refine wp_seq ?_
          refine wp_region_lit ?_
          refine lV (Value.bool true) he38 rfl rfl (wanted_plain rfl _) (rn_mv rfl (he38.op rfl) w32) ?_
          intro a39 he39
          clear he38 a38
          refine lV (Value.bool false) he39 rfl rfl (wanted_plain rfl _) (rn_not (b := true) rfl (he39.op rfl) w32) ?_
          intro a40 he40
          clear he39 a39
          refine wpList_nil ?_
          refine then_ok ?_
          refine wp_cond_false (he40.op rfl) ?_
          refine wp_skip ?_
          refine then_ok ?_
          refine wp_seq ?_
          refine wp_region_lit ?_
          refine lV (Value.string (bs s)) he40 rfl rfl (wanted_plain rfl _) (rn_mv rfl (he40.op rfl) w32) ?_
          intro a41 he41
          clear he40 a40
          refine lV (Value.slice A31 (lst s).length c31) he41 rfl rfl (wanted_plain rfl _) (rn_mv rfl (he41.op rfl) w32) ?_
          intro a42 he42
          clear he41 a41
          refine lC he42 rfl rfl Tryd.func17 (by kernel_rfl) rfl rfl (wanted_plain rfl _) rfl (parses_c s 0 A31 c31 b31 (lst s) true (decide_eq_true (prs_yes hb3)) (by omega) (by omega) w32 hr31) ?_
          intro w43 a44 hn he44
          have hH43 := hH32.call hn
          replace hr31 := hr31.new hn
          clear he42 a42 hH32 hn
          refine lV (Value.bool true) he44 rfl rfl (wanted_plain rfl _) (rn_mv rfl (he44.op rfl) w43) ?_
          intro a45 he45
          clear he44 a44
          refine lC he45 rfl rfl Tryd.func9 (by kernel_rfl) rfl rfl (he45.want rfl rfl rfl rfl rfl) rfl (known_c w43 (hT.new hH43.new)) ?_
          intro w46 a47 hn he47
          have hH46 := hH43.call hn
          replace hr31 := hr31.new hn
          clear he45 a45 hH43 hn
          refine lV (Value.bool true) he47 rfl rfl (wanted_plain rfl _) (rn_pk rfl (he47.op rfl) (he47.op rfl) w46) ?_
          intro a48 he48
          clear he47 a47
          refine lV (Value.bool true) he48 rfl rfl (wanted_plain rfl _) (rn_asg rfl (he48.op rfl) w46) ?_
          intro a49 he49
          clear he48 a48
          refine wpList_nil ?_
          refine then_ok ?_
          refine wp_ret ?_
          try simp only [Exit.then, Exit.inBlock, Exit.noGoto]
          exact ret_env rfl he49 rfl ⟨by first | rfl | (exfalso; omega), hH46.new⟩
        · skip
          refine lC he30 rfl rfl Tryd.func18 (by kernel_rfl) rfl rfl (wanted_plain rfl _) rfl (RParse_no s hb3 (by omega) w26) ?_
          intro w31 a32 hn he32
          have hH31 := hH26.call hn
          clear he30 a30 hH26 hn
          refine lV (Value.tuple #[Value.slice none 0 0, Value.bool false]) he32 rfl rfl (wanted_plain rfl _) (rn_mv rfl (he32.op rfl) w31) ?_
          intro a33 he33
          clear he32 a32
          refine lV (Value.slice none 0 0) he33 rfl rfl (wanted_plain rfl _) (rn_ext rfl (he33.op rfl) rfl w31) ?_
          intro a34 he34
          clear he33 a33
          refine lV (Value.bool false) he34 rfl rfl (wanted_plain rfl _) (rn_ext rfl (he34.op rfl) rfl w31) ?_
          intro a35 he35
          clear he34 a34
          refine lV (Value.slice none 0 0) he35 rfl rfl (wanted_plain rfl _) (rn_asg rfl (he35.op rfl) w31) ?_
          intro a36 he36
          clear he35 a35
          refine lV (Value.bool false) he36 rfl rfl (wanted_plain rfl _) (rn_asg rfl (he36.op rfl) w31) ?_
          intro a37 he37
          clear he36 a36
          refine wpList_nil ?_
          refine then_ok ?_
          refine wp_seq ?_
          refine wp_seq ?_
          refine wp_region_lit ?_
          refine lV (Value.bool false) he37 rfl rfl (wanted_plain rfl _) (rn_mv rfl (he37.op rfl) w31) ?_
          intro a38 he38
          clear he37 a37
          refine lV (Value.bool true) he38 rfl rfl (wanted_plain rfl _) (rn_not (b := false) rfl (he38.op rfl) w31) ?_
          intro a39 he39
          clear he38 a38
          refine wpList_nil ?_
          refine then_ok ?_
          refine wp_cond_true (he39.op rfl) ?_
          refine wp_seq ?_
          refine wp_region_lit ?_
          refine lV (Value.string (bs s)) he39 rfl rfl (wanted_plain rfl _) (rn_mv rfl (he39.op rfl) w31) ?_
          intro a40 he40
          clear he39 a39
          refine lC he40 rfl rfl Tryd.func17 (by kernel_rfl) rfl rfl (wanted_plain rfl _) rfl (parses_c s 6 none 0 0 ([] : List Int) true (decide_eq_true (prs_no hb3)) (by omega) (by decide) w31 (Rd.nil _ 0 none)) ?_
          intro w41 a42 hn he42
          have hH41 := hH31.call hn
          clear he40 a40 hH31 hn
          refine lV (Value.bool true) he42 rfl rfl (wanted_plain rfl _) (rn_mv rfl (he42.op rfl) w41) ?_
          intro a43 he43
          clear he42 a42
          refine lC he43 rfl rfl Tryd.func9 (by kernel_rfl) rfl rfl (he43.want rfl rfl rfl rfl rfl) rfl (known_c w41 (hT.new hH41.new)) ?_
          intro w44 a45 hn he45
          have hH44 := hH41.call hn
          clear he43 a43 hH41 hn
          refine lV (Value.bool true) he45 rfl rfl (wanted_plain rfl _) (rn_pk rfl (he45.op rfl) (he45.op rfl) w44) ?_
          intro a46 he46
          clear he45 a45
          refine lV (Value.bool true) he46 rfl rfl (wanted_plain rfl _) (rn_asg rfl (he46.op rfl) w44) ?_
          intro a47 he47
          clear he46 a46
          refine wpList_nil ?_
          refine then_ok ?_
          refine wp_ret ?_
          try simp only [Exit.then, Exit.inBlock, Exit.noGoto]
          exact ret_env rfl he47 rfl ⟨by first | rfl | (exfalso; omega), hH44.new⟩
      · skip
        refine lC he10 rfl rfl Tryd.func11 (by kernel_rfl) rfl rfl (wanted_plain rfl _) rfl (RValid_c A c b l false (decide_eq_false hb2) (by omega) w (hr.new hH.new)) ?_
        intro w11 a12 hn he12
        have hH11 := hH.call hn
        clear he10 a10 hH hn
        refine lV (Value.bool true) he12 rfl rfl (wanted_plain rfl _) (rn_not (b := false) rfl (he12.op rfl) w11) ?_
        intro a13 he13
        clear he12 a12
        refine wpList_nil ?_
        refine then_ok ?_
        refine wp_cond_true (he13.op rfl) ?_
        refine wp_seq ?_
        refine wp_region_lit ?_
        refine lV (Value.slice A l.length c) he13 rfl rfl (wanted_plain rfl _) (rn_mv rfl (he13.op rfl) w11) ?_
        intro a14 he14
        clear he13 a13
        refine lC he14 rfl rfl Tryd.func15 (by kernel_rfl) rfl rfl (wanted_plain rfl _) rfl (text_c A c b l ([] : List UInt8) 2 true (decide_eq_true (if_neg hb2)) (by omega) w11 (hr.new hH11.new) (hT.new hH11.new)) ?_
        intro w15 a16 hn he16
        have hH15 := hH11.call hn
        clear he14 a14 hH11 hn
        refine lV (Value.bool false) he16 rfl rfl (wanted_plain rfl _) (rn_not (b := true) rfl (he16.op rfl) w15) ?_
        intro a17 he17
        clear he16 a16
        refine wpList_nil ?_
        refine then_ok ?_
        refine wp_cond_false (he17.op rfl) ?_
        refine wp_skip ?_
        refine then_ok ?_
        refine wp_seq ?_
        refine wp_region_lit ?_
        refine lV (Value.string (bs s)) he17 rfl rfl (wanted_plain rfl _) (rn_mv rfl (he17.op rfl) w15) ?_
        intro a18 he18
        clear he17 a17
        by_cases hb3 : ∀ c ∈ s, fine c
        · skip
          refine lCx he18 rfl rfl Tryd.func18 (by kernel_rfl) rfl rfl (wanted_plain rfl _) rfl (RParse_yes s hb3 (by omega) w15) ?_
          rintro _ w20 ⟨A19, c19, b19, rfl, hr19, hn⟩
          refine ⟨_, rfl, ?_⟩
          intro a21 he21
          have hH20 := hH15.call hn
          clear he18 a18 hH15
          clear hn
          refine lV (Value.tuple #[Value.slice A19 (lst s).length c19, Value.bool true]) he21 rfl rfl (wanted_plain rfl _) (rn_mv rfl (he21.op rfl) w20) ?_
          intro a22 he22
          clear he21 a21
          refine lV (Value.slice A19 (lst s).length c19) he22 rfl rfl (wanted_plain rfl _) (rn_ext rfl (he22.op rfl) rfl w20) ?_
          intro a23 he23
          clear he22 a22
          refine lV (Value.bool true) he23 rfl rfl (wanted_plain rfl _) (rn_ext rfl (he23.op rfl) rfl w20) ?_
          intro a24 he24
          clear he23 a23
          refine lV (Value.slice A19 (lst s).length c19) he24 rfl rfl (wanted_plain rfl _) (rn_asg rfl (he24.op rfl) w20) ?_
          intro a25 he25
          clear he24 a24
          refine lV (Value.bool true) he25 rfl rfl (wanted_plain rfl _) (rn_asg rfl (he25.op rfl) w20) ?_
          intro a26 he26
          clear he25 a25
          refine wpList_nil ?_
          refine then_ok ?_
          refine wp_seq ?_
          refine wp_seq ?_
          refine wp_region_lit ?_
          refine lV (Value.bool true) he26 rfl rfl (wanted_plain rfl _) (rn_mv rfl (he26.op rfl) w20) ?_
          intro a27 he27
          clear he26 a26
          refine lV (Value.bool false) he27 rfl rfl (wanted_plain rfl _) (rn_not (b := true) rfl (he27.op rfl) w20) ?_
          intro a28 he28
          clear he27 a27
          refine wpList_nil ?_
          refine then_ok ?_
          refine wp_cond_false (he28.op rfl) ?_
          refine wp_skip ?_
          refine then_ok ?_
          refine wp_seq ?_
          refine wp_region_lit ?_
          refine lV (Value.string (bs s)) he28 rfl rfl (wanted_plain rfl _) (rn_mv rfl (he28.op rfl) w20) ?_
          intro a29 he29
          clear he28 a28
          refine lV (Value.slice A19 (lst s).length c19) he29 rfl rfl (wanted_plain rfl _) (rn_mv rfl (he29.op rfl) w20) ?_
          intro a30 he30
          clear he29 a29
          refine lC he30 rfl rfl Tryd.func17 (by kernel_rfl) rfl rfl (wanted_plain rfl _) rfl (parses_c s 0 A19 c19 b19 (lst s) true (decide_eq_true (prs_yes hb3)) (by omega) (by omega) w20 hr19) ?_
          intro w31 a32 hn he32
          have hH31 := hH20.call hn
          replace hr19 := hr19.new hn
          clear he30 a30 hH20 hn
          refine lV (Value.bool true) he32 rfl rfl (wanted_plain rfl _) (rn_mv rfl (he32.op rfl) w31) ?_
          intro a33 he33
          clear he32 a32
          refine lC he33 rfl rfl Tryd.func9 (by kernel_rfl) rfl rfl (he33.want rfl rfl rfl rfl rfl) rfl (known_c w31 (hT.new hH31.new)) ?_
          intro w34 a35 hn he35
          have hH34 := hH31.call hn
          replace hr19 := hr19.new hn
          clear he33 a33 hH31 hn
          refine lV (Value.bool true) he35 rfl rfl (wanted_plain rfl _) (rn_pk rfl (he35.op rfl) (he35.op rfl) w34) ?_
          intro a36 he36
          clear he35 a35
          refine lV (Value.bool true) he36 rfl rfl (wanted_plain rfl _) (rn_asg rfl (he36.op rfl) w34) ?_
          intro a37 he37
          clear he36 a36
          refine wpList_nil ?_
          refine then_ok ?_
          refine wp_ret ?_
          try simp only [Exit.then, Exit.inBlock, Exit.noGoto]
          exact ret_env rfl he37 rfl ⟨by first | rfl | (exfalso; omega), hH34.new⟩
        · skip
          refine lC he18 rfl rfl Tryd.func18 (by kernel_rfl) rfl rfl (wanted_plain rfl _) rfl (RParse_no s hb3 (by omega) w15) ?_
          intro w19 a20 hn he20
          have hH19 := hH15.call hn
          clear he18 a18 hH15 hn
          refine lV (Value.tuple #[Value.slice none 0 0, Value.bool false]) he20 rfl rfl (wanted_plain rfl _) (rn_mv rfl (he20.op rfl) w19) ?_
          intro a21 he21
          clear he20 a20
          refine lV (Value.slice none 0 0) he21 rfl rfl (wanted_plain rfl _) (rn_ext rfl (he21.op rfl) rfl w19) ?_
          intro a22 he22
          clear he21 a21
          refine lV (Value.bool false) he22 rfl rfl (wanted_plain rfl _) (rn_ext rfl (he22.op rfl) rfl w19) ?_
          intro a23 he23
          clear he22 a22
          refine lV (Value.slice none 0 0) he23 rfl rfl (wanted_plain rfl _) (rn_asg rfl (he23.op rfl) w19) ?_
          intro a24 he24
          clear he23 a23
          refine lV (Value.bool false) he24 rfl rfl (wanted_plain rfl _) (rn_asg rfl (he24.op rfl) w19) ?_
          intro a25 he25
          clear he24 a24
          refine wpList_nil ?_
          refine then_ok ?_
          refine wp_seq ?_
          refine wp_seq ?_
          refine wp_region_lit ?_
          refine lV (Value.bool false) he25 rfl rfl (wanted_plain rfl _) (rn_mv rfl (he25.op rfl) w19) ?_
          intro a26 he26
          clear he25 a25
          refine lV (Value.bool true) he26 rfl rfl (wanted_plain rfl _) (rn_not (b := false) rfl (he26.op rfl) w19) ?_
          intro a27 he27
          clear he26 a26
          refine wpList_nil ?_
          refine then_ok ?_
          refine wp_cond_true (he27.op rfl) ?_
          refine wp_seq ?_
          refine wp_region_lit ?_
          refine lV (Value.string (bs s)) he27 rfl rfl (wanted_plain rfl _) (rn_mv rfl (he27.op rfl) w19) ?_
          intro a28 he28
          clear he27 a27
          refine lC he28 rfl rfl Tryd.func17 (by kernel_rfl) rfl rfl (wanted_plain rfl _) rfl (parses_c s 6 none 0 0 ([] : List Int) true (decide_eq_true (prs_no hb3)) (by omega) (by decide) w19 (Rd.nil _ 0 none)) ?_
          intro w29 a30 hn he30
          have hH29 := hH19.call hn
          clear he28 a28 hH19 hn
          refine lV (Value.bool true) he30 rfl rfl (wanted_plain rfl _) (rn_mv rfl (he30.op rfl) w29) ?_
          intro a31 he31
          clear he30 a30
          refine lC he31 rfl rfl Tryd.func9 (by kernel_rfl) rfl rfl (he31.want rfl rfl rfl rfl rfl) rfl (known_c w29 (hT.new hH29.new)) ?_
          intro w32 a33 hn he33
          have hH32 := hH29.call hn
          clear he31 a31 hH29 hn
          refine lV (Value.bool true) he33 rfl rfl (wanted_plain rfl _) (rn_pk rfl (he33.op rfl) (he33.op rfl) w32) ?_
          intro a34 he34
          clear he33 a33
          refine lV (Value.bool true) he34 rfl rfl (wanted_plain rfl _) (rn_asg rfl (he34.op rfl) w32) ?_
          intro a35 he35
          clear he34 a34
          refine wpList_nil ?_
          refine then_ok ?_
          refine wp_ret ?_
          try simp only [Exit.then, Exit.inBlock, Exit.noGoto]
          exact ret_env rfl he35 rfl ⟨by first | rfl | (exfalso; omega), hH32.new⟩
set_option linter.unusedSimpArgs false in
set_option maxRecDepth 100000 in
set_option maxHeartbeats 1600000 in
theorem ParamsNil_w (r : Int) (w : World) (hT : Tab w) : Calls Tryd.prog 7 #[.int .i32 r] w fun e w' => e = .returned (.bool true) ∧ New w w' := by
  refine calls_args (vl := [Value.int .i32 r]) 22 Tryd.func7 rfl Tryd.ntmps7 (by kernel_rfl) (fun a he => ?_)
  have he0 : Env 22 [(0, Value.int .i32 r)] a := he
  clear he
  have hH := Hp.start w
  refine wp_seq ?_
  refine wp_region_lit ?_
  refine lV (Value.bool false) he0 rfl rfl (wanted_plain rfl _) (rn_asg rfl (he0.op rfl) w) ?_
  intro a1 he1
  clear he0 a
  refine wpList_nil ?_
  refine then_ok ?_
  refine wp_seq ?_
  refine wp_region_lit ?_
  refine lV (Value.pointer none) he1 rfl rfl (wanted_plain rfl _) (rn_asg rfl (he1.op rfl) w) ?_
  intro a2 he2
  clear he1 a1
  refine wpList_nil ?_
  refine then_ok ?_
  refine wp_seq ?_
  refine wp_region_lit ?_
  refine lV (Value.pointer none) he2 rfl rfl (wanted_plain rfl _) (rn_mv rfl (he2.op rfl) w) ?_
  intro a3 he3
  clear he2 a2
  refine lC he3 rfl rfl Tryd.func21 (by kernel_rfl) rfl rfl (wanted_plain rfl _) rfl (ResetNil_c w) ?_
  intro w4 a5 hn he5
  have hH4 := hH.call hn
  clear he3 a3 hH hn
  refine wpList_nil ?_
  refine then_ok ?_
  refine wp_seq ?_
  refine wp_region_lit ?_
  refine lV (Value.pointer none) he5 rfl rfl (wanted_plain rfl _) (rn_mv rfl (he5.op rfl) w4) ?_
  intro a6 he6
  clear he5 a5
  refine lV (Value.int .i32 r) he6 rfl rfl (wanted_plain rfl _) (rn_mv rfl (he6.op rfl) w4) ?_
  intro a7 he7
  clear he6 a6
  refine lC he7 rfl rfl Tryd.func20 (by kernel_rfl) rfl rfl (wanted_plain rfl _) rfl (AddNil_c r w4) ?_
  intro w8 a9 hn he9
  have hH8 := hH4.call hn
  clear he7 a7 hH4 hn
  refine lV (Value.bool true) he9 rfl rfl (wanted_plain rfl _) (rn_not (b := false) rfl (he9.op rfl) w8) ?_
  intro a10 he10
  clear he9 a9
  refine lV (Value.bool true) he10 rfl rfl (wanted_plain rfl _) (rn_mv rfl (he10.op rfl) w8) ?_
  intro a11 he11
  clear he10 a10
  refine lV (Value.pointer none) he11 rfl rfl (he11.want rfl rfl rfl rfl rfl) (rn_mv rfl (he11.op rfl) w8) ?_
  intro a12 he12
  clear he11 a11
  refine lC he12 rfl rfl Tryd.func25 (by kernel_rfl) rfl rfl (he12.want rfl rfl rfl rfl rfl) rfl (has_nil none 0 0 ([] : List Int) true (by decide) (by decide) w8 (Rd.nil _ 0 none)) ?_
  intro w13 a14 hn he14
  have hH13 := hH8.call hn
  clear he12 a12 hH8 hn
  refine lV (Value.bool true) he14 rfl rfl (wanted_plain rfl _) (rn_pk rfl (he14.op rfl) (he14.op rfl) w13) ?_
  intro a15 he15
  clear he14 a14
  refine lV (Value.bool true) he15 rfl rfl (wanted_plain rfl _) (rn_mv rfl (he15.op rfl) w13) ?_
  intro a16 he16
  clear he15 a15
  refine lV (Value.pointer none) he16 rfl rfl (he16.want rfl rfl rfl rfl rfl) (rn_mv rfl (he16.op rfl) w13) ?_
  intro a17 he17
  clear he16 a16
  refine lC he17 rfl rfl Tryd.func19 (by kernel_rfl) rfl rfl (he17.want rfl rfl rfl rfl rfl) rfl (CopyNil_c w13) ?_
  intro w18 a19 hn he19
  have hH18 := hH13.call hn
  clear he17 a17 hH13 hn
  refine lV (Value.bool true) he19 rfl rfl (he19.want rfl rfl rfl rfl rfl) (rn_eqP0 rfl (he19.op rfl) (he19.op rfl) w18) ?_
  intro a20 he20
  clear he19 a19
  refine lV (Value.bool true) he20 rfl rfl (wanted_plain rfl _) (rn_pk rfl (he20.op rfl) (he20.op rfl) w18) ?_
  intro a21 he21
  clear he20 a20
  refine lV (Value.bool true) he21 rfl rfl (wanted_plain rfl _) (rn_mv rfl (he21.op rfl) w18) ?_
  intro a22 he22
  clear he21 a21
  refine lC he22 rfl rfl Tryd.func9 (by kernel_rfl) rfl rfl (he22.want rfl rfl rfl rfl rfl) rfl (known_c w18 (hT.new hH18.new)) ?_
  intro w23 a24 hn he24
  have hH23 := hH18.call hn
  clear he22 a22 hH18 hn
  refine lV (Value.bool true) he24 rfl rfl (wanted_plain rfl _) (rn_pk rfl (he24.op rfl) (he24.op rfl) w23) ?_
  intro a25 he25
  clear he24 a24
  refine lV (Value.bool true) he25 rfl rfl (wanted_plain rfl _) (rn_asg rfl (he25.op rfl) w23) ?_
  intro a26 he26
  clear he25 a25
  refine wpList_nil ?_
  refine then_ok ?_
  refine wp_ret ?_
  try simp only [Exit.then, Exit.inBlock, Exit.noGoto]
  exact ret_env rfl he26 rfl ⟨by first | rfl | (exfalso; omega), hH23.new⟩
end Go.Proofs.YtpebpjkhkgakfaaDoor
