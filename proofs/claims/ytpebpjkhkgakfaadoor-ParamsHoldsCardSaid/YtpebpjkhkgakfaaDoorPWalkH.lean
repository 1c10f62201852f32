/-
  The statement of the stage: Parse inverts Text, what Parse returns is valid and says the same again, a builder has it.
-/
import Derived.Test.YtpebpjkhkgakfaaDoorPLaw
namespace Go.Proofs.YtpebpjkhkgakfaaDoor
open Go.RowKit

theorem lst0 (s : List UInt8) : (lst s).length = 0 ↔ s = [] := by rw [List.length_eq_zero_iff, lst_nil]
set_option linter.unusedSimpArgs false in
set_option maxRecDepth 100000 in
set_option maxHeartbeats 1600000 in
theorem ParamsHolds_w (A : Option Addr) (c b : Nat) (l : List Int) (s : List UInt8) (i : Int) (w : World) (hr : Rd w b A l.length (ivs l)) (hT : Tab w) : Calls Tryd.prog 8 #[.slice A l.length c, .string (bs s), .int .i64 i] w fun e w' => e = .returned (.bool true) ∧ New w w' := by
  refine calls_args (vl := [Value.slice A l.length c, Value.string (bs s), Value.int .i64 i]) 103 Tryd.func8 rfl Tryd.ntmps8 (by kernel_rfl) (fun a he => ?_)
  have he0 : Env 103 [(0, Value.slice A l.length c), (1, Value.string (bs s)), (2, Value.int .i64 i)] a := he
  clear he
  have hH := Hp.start w
  refine wp_seq ?_
  refine wp_region_lit ?_
  refine lV (Value.bool false) he0 rfl rfl (wanted_plain rfl _) (rn_asg rfl (he0.op rfl) w) ?_
  intro a1 he1
  clear he0 a
  refine wpList_nil ?_
  refine then_ok ?_
  refine wp_seq ?_
  refine wp_seq ?_
  refine wp_region_lit ?_
  refine lV (Value.slice A l.length c) he1 rfl rfl (wanted_plain rfl _) (rn_mv rfl (he1.op rfl) w) ?_
  intro a2 he2
  clear he1 a1
  refine lV (Value.int .i64 ((l.length : Nat) : Int)) he2 rfl rfl (wanted_plain rfl _) (rn_lenJ rfl (he2.op rfl) w) ?_
  intro a3 he3
  clear he2 a2
  by_cases hb0 : 40 < ((l.length : Nat) : Int)
  · skip
    refine lV (Value.bool true) he3 rfl rfl (wanted_plain rfl _) (rn_gtI rfl (he3.op rfl) (he3.op rfl) (decide_eq_true hb0) w) ?_
    intro a4 he4
    clear he3 a3
    refine lV (Value.bool true) he4 rfl rfl (wanted_plain rfl _) (rn_mv rfl (he4.op rfl) w) ?_
    intro a5 he5
    clear he4 a4
    refine lSkip he5 rfl rfl (he5.wantNot rfl rfl rfl rfl rfl rfl) ?_
    intro a6 he6
    clear he5 a5
    refine lSkip he6 rfl rfl (he6.wantNot rfl rfl rfl rfl rfl rfl) ?_
    intro a7 he7
    clear he6 a6
    refine lSkip he7 rfl rfl (he7.wantNot rfl rfl rfl rfl rfl rfl) ?_
    intro a8 he8
    clear he7 a7
    refine lV (Value.bool true) he8 rfl rfl (wanted_plain rfl _) (rn_pk rfl (he8.op rfl) (he8.op rfl) w) ?_
    intro a9 he9
    clear he8 a8
    refine wpList_nil ?_
    refine then_ok ?_
    refine wp_cond_true (he9.op rfl) ?_
    refine wp_seq ?_
    refine wp_region_lit ?_
    refine lC he9 rfl rfl Tryd.func9 (by kernel_rfl) rfl rfl (wanted_plain rfl _) rfl (known_c w (hT.new hH.new)) ?_
    intro w10 a11 hn he11
    have hH10 := hH.call hn
    clear he9 a9 hH hn
    refine lV (Value.bool true) he11 rfl rfl (wanted_plain rfl _) (rn_asg rfl (he11.op rfl) w10) ?_
    intro a12 he12
    clear he11 a11
    refine wpList_nil ?_
    refine then_ok ?_
    refine wp_ret ?_
    try simp only [Exit.then, Exit.inBlock, Exit.noGoto]
    exact ret_env rfl he12 rfl ⟨by first | rfl | (exfalso; omega) | exact absurd ((lst0 s).1 (by omega)) (by assumption) | exact absurd ((lst0 s).2 (by assumption)) (by omega), hH10.new⟩
  · skip
    refine lV (Value.bool false) he3 rfl rfl (wanted_plain rfl _) (rn_gtI rfl (he3.op rfl) (he3.op rfl) (decide_eq_false hb0) w) ?_
    intro a4 he4
    clear he3 a3
    refine lV (Value.bool false) he4 rfl rfl (wanted_plain rfl _) (rn_mv rfl (he4.op rfl) w) ?_
    intro a5 he5
    clear he4 a4
    refine lV (Value.string (bs s)) he5 rfl rfl (he5.want rfl rfl rfl rfl rfl) (rn_mv rfl (he5.op rfl) w) ?_
    intro a6 he6
    clear he5 a5
    refine lV (Value.int .i64 ((s.length : Nat) : Int)) he6 rfl rfl (he6.want rfl rfl rfl rfl rfl) (rn_lenS rfl (he6.op rfl) w) ?_
    intro a7 he7
    clear he6 a6
    by_cases hb1 : 200 < ((s.length : Nat) : Int)
    · skip
      refine lV (Value.bool true) he7 rfl rfl (he7.want rfl rfl rfl rfl rfl) (rn_gtI rfl (he7.op rfl) (he7.op rfl) (decide_eq_true hb1) w) ?_
      intro a8 he8
      clear he7 a7
      refine lV (Value.bool true) he8 rfl rfl (wanted_plain rfl _) (rn_pk0 rfl (he8.op rfl) (he8.op rfl) w) ?_
      intro a9 he9
      clear he8 a8
      refine wpList_nil ?_
      refine then_ok ?_
      refine wp_cond_true (he9.op rfl) ?_
      refine wp_seq ?_
      refine wp_region_lit ?_
      refine lC he9 rfl rfl Tryd.func9 (by kernel_rfl) rfl rfl (wanted_plain rfl _) rfl (known_c w (hT.new hH.new)) ?_
      intro w10 a11 hn he11
      have hH10 := hH.call hn
      clear he9 a9 hH hn
      refine lV (Value.bool true) he11 rfl rfl (wanted_plain rfl _) (rn_asg rfl (he11.op rfl) w10) ?_
      intro a12 he12
      clear he11 a11
      refine wpList_nil ?_
      refine then_ok ?_
      refine wp_ret ?_
      try simp only [Exit.then, Exit.inBlock, Exit.noGoto]
      exact ret_env rfl he12 rfl ⟨by first | rfl | (exfalso; omega) | exact absurd ((lst0 s).1 (by omega)) (by assumption) | exact absurd ((lst0 s).2 (by assumption)) (by omega), hH10.new⟩
    · skip
      refine lV (Value.bool false) he7 rfl rfl (he7.want rfl rfl rfl rfl rfl) (rn_gtI rfl (he7.op rfl) (he7.op rfl) (decide_eq_false hb1) w) ?_
      intro a8 he8
      clear he7 a7
      refine lV (Value.bool false) he8 rfl rfl (wanted_plain rfl _) (rn_pk0 rfl (he8.op rfl) (he8.op rfl) w) ?_
      intro a9 he9
      clear he8 a8
      refine wpList_nil ?_
      refine then_ok ?_
      refine wp_cond_false (he9.op rfl) ?_
      refine wp_skip ?_
      refine then_ok ?_
      refine wp_seq ?_
      refine wp_seq ?_
      refine wp_region_lit ?_
      refine lV (Value.slice A l.length c) he9 rfl rfl (wanted_plain rfl _) (rn_mv rfl (he9.op rfl) w) ?_
      intro a10 he10
      clear he9 a9
      by_cases hb2 : okL l
      · skip
        refine lC he10 rfl rfl Tryd.func27 (by kernel_rfl) rfl rfl (wanted_plain rfl _) rfl (Text_c A c b l (textL l) 0 (if_pos hb2) (by omega) w (hr.new hH.new) (hT.new hH.new)) ?_
        intro w11 a12 hn he12
        have hH11 := hH.call hn
        clear he10 a10 hH hn
        refine lV (Value.tuple #[Value.string (bs (textL l)), Value.int .i64 0]) he12 rfl rfl (wanted_plain rfl _) (rn_mv rfl (he12.op rfl) w11) ?_
        intro a13 he13
        clear he12 a12
        refine lV (Value.string (bs (textL l))) he13 rfl rfl (wanted_plain rfl _) (rn_ext rfl (he13.op rfl) rfl w11) ?_
        intro a14 he14
        clear he13 a13
        refine lV (Value.int .i64 0) he14 rfl rfl (wanted_plain rfl _) (rn_ext rfl (he14.op rfl) rfl w11) ?_
        intro a15 he15
        clear he14 a14
        refine lV (Value.string (bs (textL l))) he15 rfl rfl (wanted_plain rfl _) (rn_asg rfl (he15.op rfl) w11) ?_
        intro a16 he16
        clear he15 a15
        refine lV (Value.int .i64 0) he16 rfl rfl (wanted_plain rfl _) (rn_asg rfl (he16.op rfl) w11) ?_
        intro a17 he17
        clear he16 a16
        refine wpList_nil ?_
        refine then_ok ?_
        refine wp_seq ?_
        have htl := text_len l hb2.2.1
        have hll := hb2.1
        have ho1 := one_ge l i
        refine wp_region_lit ?_
        refine lV (Value.int .i64 0) he17 rfl rfl (wanted_plain rfl _) (rn_mv rfl (he17.op rfl) w11) ?_
        intro a18 he18
        clear he17 a17
        refine lV (Value.bool true) he18 rfl rfl (wanted_plain rfl _) (rn_eqE rfl (he18.op rfl) (he18.op rfl) (beqT rfl) w11) ?_
        intro a19 he19
        clear he18 a18
        refine lV (Value.bool true) he19 rfl rfl (wanted_plain rfl _) (rn_mv rfl (he19.op rfl) w11) ?_
        intro a20 he20
        clear he19 a19
        refine lV (Value.slice A l.length c) he20 rfl rfl (he20.want rfl rfl rfl rfl rfl) (rn_mv rfl (he20.op rfl) w11) ?_
        intro a21 he21
        clear he20 a20
        refine lC he21 rfl rfl Tryd.func10 (by kernel_rfl) rfl rfl (he21.want rfl rfl rfl rfl rfl) rfl (Valid_c A c b l true (decide_eq_true hb2) (by omega) w11 (hr.new hH11.new)) ?_
        intro w22 a23 hn he23
        have hH22 := hH11.call hn
        clear he21 a21 hH11 hn
        refine lV (Value.bool false) he23 rfl rfl (he23.want rfl rfl rfl rfl rfl) (rn_not (b := true) rfl (he23.op rfl) w22) ?_
        intro a24 he24
        clear he23 a23
        refine lV (Value.bool false) he24 rfl rfl (he24.want rfl rfl rfl rfl rfl) (rn_mv rfl (he24.op rfl) w22) ?_
        intro a25 he25
        clear he24 a24
        refine lV (Value.string (bs (textL l))) he25 rfl rfl (he25.want rfl rfl rfl rfl rfl) (rn_mv rfl (he25.op rfl) w22) ?_
        intro a26 he26
        clear he25 a25
        refine lV (Value.slice A l.length c) he26 rfl rfl (he26.want rfl rfl rfl rfl rfl) (rn_mv rfl (he26.op rfl) w22) ?_
        intro a27 he27
        clear he26 a26
        refine lC he27 rfl rfl Tryd.func17 (by kernel_rfl) rfl rfl (he27.want rfl rfl rfl rfl rfl) rfl (parses_c (textL l) 0 A c b l true (decide_eq_true (prs_text hb2)) (by omega) (by omega) w22 (hr.new hH22.new)) ?_
        intro w28 a29 hn he29
        have hH28 := hH22.call hn
        clear he27 a27 hH22 hn
        refine lV (Value.bool false) he29 rfl rfl (he29.want rfl rfl rfl rfl rfl) (rn_not (b := true) rfl (he29.op rfl) w28) ?_
        intro a30 he30
        clear he29 a29
        refine lV (Value.bool false) he30 rfl rfl (he30.want rfl rfl rfl rfl rfl) (rn_pk0 rfl (he30.op rfl) (he30.op rfl) w28) ?_
        intro a31 he31
        clear he30 a30
        refine lV (Value.bool false) he31 rfl rfl (he31.want rfl rfl rfl rfl rfl) (rn_mv rfl (he31.op rfl) w28) ?_
        intro a32 he32
        clear he31 a31
        refine lV (Value.slice A l.length c) he32 rfl rfl (he32.want rfl rfl rfl rfl rfl) (rn_mv rfl (he32.op rfl) w28) ?_
        intro a33 he33
        clear he32 a32
        refine lV (Value.int .i64 i) he33 rfl rfl (he33.want rfl rfl rfl rfl rfl) (rn_mv rfl (he33.op rfl) w28) ?_
        intro a34 he34
        clear he33 a33
        refine lC he34 rfl rfl Tryd.func14 (by kernel_rfl) rfl rfl (he34.want rfl rfl rfl rfl rfl) rfl (One_c A c b l i (by omega) w28 (hr.new hH28.new)) ?_
        intro w35 a36 hn he36
        have hH35 := hH28.call hn
        clear he34 a34 hH28 hn
        by_cases hb3 : (oneL l i) < 1
        · skip
          refine lV (Value.bool true) he36 rfl rfl (he36.want rfl rfl rfl rfl rfl) (rn_lsI rfl (he36.op rfl) (he36.op rfl) (decide_eq_true hb3) w35) ?_
          intro a37 he37
          clear he36 a36
          refine lV (Value.bool true) he37 rfl rfl (he37.want rfl rfl rfl rfl rfl) (rn_pk0 rfl (he37.op rfl) (he37.op rfl) w35) ?_
          intro a38 he38
          clear he37 a37
          refine lV (Value.bool true) he38 rfl rfl (wanted_plain rfl _) (rn_pk rfl (he38.op rfl) (he38.op rfl) w35) ?_
          intro a39 he39
          clear he38 a38
          refine wpList_nil ?_
          refine then_ok ?_
          refine wp_cond_true (he39.op rfl) ?_
          refine wp_seq ?_
          refine wp_region_lit ?_
          refine lV (Value.bool false) he39 rfl rfl (wanted_plain rfl _) (rn_asg rfl (he39.op rfl) w35) ?_
          intro a40 he40
          clear he39 a39
          refine wpList_nil ?_
          refine then_ok ?_
          refine wp_ret ?_
          try simp only [Exit.then, Exit.inBlock, Exit.noGoto]
          exact ret_env rfl he40 rfl ⟨by first | rfl | (exfalso; omega) | exact absurd ((lst0 s).1 (by omega)) (by assumption) | exact absurd ((lst0 s).2 (by assumption)) (by omega), hH35.new⟩
        · skip
          refine lV (Value.bool false) he36 rfl rfl (he36.want rfl rfl rfl rfl rfl) (rn_lsI rfl (he36.op rfl) (he36.op rfl) (decide_eq_false hb3) w35) ?_
          intro a37 he37
          clear he36 a36
          refine lV (Value.bool false) he37 rfl rfl (he37.want rfl rfl rfl rfl rfl) (rn_pk0 rfl (he37.op rfl) (he37.op rfl) w35) ?_
          intro a38 he38
          clear he37 a37
          refine lV (Value.bool false) he38 rfl rfl (wanted_plain rfl _) (rn_pk rfl (he38.op rfl) (he38.op rfl) w35) ?_
          intro a39 he39
          clear he38 a38
          refine wpList_nil ?_
          refine then_ok ?_
          refine wp_cond_false (he39.op rfl) ?_
          refine wp_skip ?_
          refine then_ok ?_
          refine wp_seq ?_
          refine wp_region_lit ?_
          refine lV (Value.string (bs s)) he39 rfl rfl (wanted_plain rfl _) (rn_mv rfl (he39.op rfl) w35) ?_
          intro a40 he40
          clear he39 a39
          by_cases hb4 : ∀ c ∈ s, fine c
          · skip
            refine lCx he40 rfl rfl Tryd.func28 (by kernel_rfl) rfl rfl (wanted_plain rfl _) rfl (Parse_c s (lst s) 0 (prs_yes hb4) (by omega) w35) ?_
            rintro _ w42 ⟨A41, c41, b41, rfl, hr41, hn⟩
            refine ⟨_, rfl, ?_⟩
            intro a43 he43
            have hH42 := hH35.call hn
            clear he40 a40 hH35
            clear hn
            refine lV (Value.tuple #[Value.slice A41 (lst s).length c41, Value.int .i64 0]) he43 rfl rfl (wanted_plain rfl _) (rn_mv rfl (he43.op rfl) w42) ?_
            intro a44 he44
            clear he43 a43
            refine lV (Value.slice A41 (lst s).length c41) he44 rfl rfl (wanted_plain rfl _) (rn_ext rfl (he44.op rfl) rfl w42) ?_
            intro a45 he45
            clear he44 a44
            refine lV (Value.int .i64 0) he45 rfl rfl (wanted_plain rfl _) (rn_ext rfl (he45.op rfl) rfl w42) ?_
            intro a46 he46
            clear he45 a45
            refine lV (Value.slice A41 (lst s).length c41) he46 rfl rfl (wanted_plain rfl _) (rn_asg rfl (he46.op rfl) w42) ?_
            intro a47 he47
            clear he46 a46
            refine lV (Value.int .i64 0) he47 rfl rfl (wanted_plain rfl _) (rn_asg rfl (he47.op rfl) w42) ?_
            intro a48 he48
            clear he47 a47
            refine wpList_nil ?_
            refine then_ok ?_
            refine wp_seq ?_
            refine wp_seq ?_
            refine wp_region_lit ?_
            refine lV (Value.int .i64 0) he48 rfl rfl (wanted_plain rfl _) (rn_mv rfl (he48.op rfl) w42) ?_
            intro a49 he49
            clear he48 a48
            refine lV (Value.bool false) he49 rfl rfl (wanted_plain rfl _) (rn_neE rfl (he49.op rfl) (he49.op rfl) (bneT rfl) w42) ?_
            intro a50 he50
            clear he49 a49
            refine wpList_nil ?_
            refine then_ok ?_
            refine wp_cond_false (he50.op rfl) ?_
            refine wp_skip ?_
            refine then_ok ?_
            refine wp_seq ?_
            refine wp_seq ?_
            have hfs := hb4
            have hol := lst_ok hfs
            have hLs := lst_len s
            have htl2 := text_len (lst s) hol.2.1
            refine wp_region_lit ?_
            refine lV (Value.slice A41 (lst s).length c41) he50 rfl rfl (wanted_plain rfl _) (rn_mv rfl (he50.op rfl) w42) ?_
            intro a51 he51
            clear he50 a50
            refine lV (Value.int .i64 (((lst s).length : Nat) : Int)) he51 rfl rfl (wanted_plain rfl _) (rn_lenJ rfl (he51.op rfl) w42) ?_
            intro a52 he52
            clear he51 a51
            by_cases hb5 : (((lst s).length : Nat) : Int) = 0
            · skip
              refine lV (Value.bool true) he52 rfl rfl (wanted_plain rfl _) (rn_eqI rfl (he52.op rfl) (he52.op rfl) (beqT hb5) w42) ?_
              intro a53 he53
              clear he52 a52
              refine lV (Value.string (bs s)) he53 rfl rfl (wanted_plain rfl _) (rn_mv rfl (he53.op rfl) w42) ?_
              intro a54 he54
              clear he53 a53
              by_cases hb6 : s = ([] : List UInt8)
              · skip
                refine lV (Value.bool true) he54 rfl rfl (wanted_plain rfl _) (rn_eqS (a := s) (c := ([] : List UInt8)) rfl (he54.op rfl) (he54.op rfl) (decide_eq_true hb6) w42) ?_
                intro a55 he55
                clear he54 a54
                refine lV (Value.bool false) he55 rfl rfl (wanted_plain rfl _) (rn_neB (i := true) (j := true) rfl (he55.op rfl) (he55.op rfl) rfl w42) ?_
                intro a56 he56
                clear he55 a55
                refine lV (Value.bool false) he56 rfl rfl (wanted_plain rfl _) (rn_mv rfl (he56.op rfl) w42) ?_
                intro a57 he57
                clear he56 a56
                refine lV (Value.slice A41 (lst s).length c41) he57 rfl rfl (he57.want rfl rfl rfl rfl rfl) (rn_mv rfl (he57.op rfl) w42) ?_
                intro a58 he58
                clear he57 a57
                refine lV (Value.int .i64 (((lst s).length : Nat) : Int)) he58 rfl rfl (he58.want rfl rfl rfl rfl rfl) (rn_lenJ rfl (he58.op rfl) w42) ?_
                intro a59 he59
                clear he58 a58
                by_cases hb7 : 16 < (((lst s).length : Nat) : Int)
                · skip
                  refine lV (Value.bool true) he59 rfl rfl (he59.want rfl rfl rfl rfl rfl) (rn_gtI rfl (he59.op rfl) (he59.op rfl) (decide_eq_true hb7) w42) ?_
                  intro a60 he60
                  clear he59 a59
                  refine lV (Value.bool true) he60 rfl rfl (wanted_plain rfl _) (rn_pk0 rfl (he60.op rfl) (he60.op rfl) w42) ?_
                  intro a61 he61
                  clear he60 a60
                  refine wpList_nil ?_
                  refine then_ok ?_
                  refine wp_cond_true (he61.op rfl) ?_
                  refine wp_seq ?_
                  refine wp_region_lit ?_
                  refine lV (Value.bool false) he61 rfl rfl (wanted_plain rfl _) (rn_asg rfl (he61.op rfl) w42) ?_
                  intro a62 he62
                  clear he61 a61
                  refine wpList_nil ?_
                  refine then_ok ?_
                  refine wp_ret ?_
                  try simp only [Exit.then, Exit.inBlock, Exit.noGoto]
                  exact ret_env rfl he62 rfl ⟨by first | rfl | (exfalso; omega) | exact absurd ((lst0 s).1 (by omega)) (by assumption) | exact absurd ((lst0 s).2 (by assumption)) (by omega), hH42.new⟩
                · skip
                  refine lV (Value.bool false) he59 rfl rfl (he59.want rfl rfl rfl rfl rfl) (rn_gtI rfl (he59.op rfl) (he59.op rfl) (decide_eq_false hb7) w42) ?_
                  intro a60 he60
                  clear he59 a59
                  refine lV (Value.bool false) he60 rfl rfl (wanted_plain rfl _) (rn_pk0 rfl (he60.op rfl) (he60.op rfl) w42) ?_
                  intro a61 he61
                  clear he60 a60
                  refine wpList_nil ?_
                  refine then_ok ?_
                  refine wp_cond_false (he61.op rfl) ?_
                  refine wp_skip ?_
                  refine then_ok ?_
                  refine wp_seq ?_
                  refine wp_seq ?_
                  refine wp_region_lit ?_
                  refine lV (Value.slice A41 (lst s).length c41) he61 rfl rfl (wanted_plain rfl _) (rn_mv rfl (he61.op rfl) w42) ?_
                  intro a62 he62
                  clear he61 a61
                  refine lC he62 rfl rfl Tryd.func27 (by kernel_rfl) rfl rfl (wanted_plain rfl _) rfl (Text_c A41 c41 b41 (lst s) (textL (lst s)) 0 (if_pos hol) (by omega) w42 hr41 (hT.new hH42.new)) ?_
                  intro w63 a64 hn he64
                  have hH63 := hH42.call hn
                  replace hr41 := hr41.new hn
                  clear he62 a62 hH42 hn
                  refine lV (Value.tuple #[Value.string (bs (textL (lst s))), Value.int .i64 0]) he64 rfl rfl (wanted_plain rfl _) (rn_mv rfl (he64.op rfl) w63) ?_
                  intro a65 he65
                  clear he64 a64
                  refine lV (Value.string (bs (textL (lst s)))) he65 rfl rfl (wanted_plain rfl _) (rn_ext rfl (he65.op rfl) rfl w63) ?_
                  intro a66 he66
                  clear he65 a65
                  refine lV (Value.int .i64 0) he66 rfl rfl (wanted_plain rfl _) (rn_ext rfl (he66.op rfl) rfl w63) ?_
                  intro a67 he67
                  clear he66 a66
                  refine lV (Value.string (bs (textL (lst s)))) he67 rfl rfl (wanted_plain rfl _) (rn_asg rfl (he67.op rfl) w63) ?_
                  intro a68 he68
                  clear he67 a67
                  refine lV (Value.int .i64 0) he68 rfl rfl (wanted_plain rfl _) (rn_asg rfl (he68.op rfl) w63) ?_
                  intro a69 he69
                  clear he68 a68
                  refine wpList_nil ?_
                  refine then_ok ?_
                  refine wp_seq ?_
                  refine wp_region_lit ?_
                  refine lV (Value.int .i64 0) he69 rfl rfl (wanted_plain rfl _) (rn_mv rfl (he69.op rfl) w63) ?_
                  intro a70 he70
                  clear he69 a69
                  refine lV (Value.bool false) he70 rfl rfl (wanted_plain rfl _) (rn_neE rfl (he70.op rfl) (he70.op rfl) (bneT rfl) w63) ?_
                  intro a71 he71
                  clear he70 a70
                  refine lV (Value.bool false) he71 rfl rfl (wanted_plain rfl _) (rn_mv rfl (he71.op rfl) w63) ?_
                  intro a72 he72
                  clear he71 a71
                  refine lV (Value.slice A41 (lst s).length c41) he72 rfl rfl (he72.want rfl rfl rfl rfl rfl) (rn_mv rfl (he72.op rfl) w63) ?_
                  intro a73 he73
                  clear he72 a72
                  refine lC he73 rfl rfl Tryd.func10 (by kernel_rfl) rfl rfl (he73.want rfl rfl rfl rfl rfl) rfl (Valid_c A41 c41 b41 (lst s) true (decide_eq_true hol) (by omega) w63 hr41) ?_
                  intro w74 a75 hn he75
                  have hH74 := hH63.call hn
                  replace hr41 := hr41.new hn
                  clear he73 a73 hH63 hn
                  refine lV (Value.bool false) he75 rfl rfl (he75.want rfl rfl rfl rfl rfl) (rn_not (b := true) rfl (he75.op rfl) w74) ?_
                  intro a76 he76
                  clear he75 a75
                  refine lV (Value.bool false) he76 rfl rfl (wanted_plain rfl _) (rn_pk0 rfl (he76.op rfl) (he76.op rfl) w74) ?_
                  intro a77 he77
                  clear he76 a76
                  refine lV (Value.bool false) he77 rfl rfl (wanted_plain rfl _) (rn_mv rfl (he77.op rfl) w74) ?_
                  intro a78 he78
                  clear he77 a77
                  refine lV (Value.string (bs (textL (lst s)))) he78 rfl rfl (he78.want rfl rfl rfl rfl rfl) (rn_mv rfl (he78.op rfl) w74) ?_
                  intro a79 he79
                  clear he78 a78
                  refine lV (Value.slice A41 (lst s).length c41) he79 rfl rfl (he79.want rfl rfl rfl rfl rfl) (rn_mv rfl (he79.op rfl) w74) ?_
                  intro a80 he80
                  clear he79 a79
                  refine lC he80 rfl rfl Tryd.func17 (by kernel_rfl) rfl rfl (he80.want rfl rfl rfl rfl rfl) rfl (parses_c (textL (lst s)) 0 A41 c41 b41 (lst s) true (decide_eq_true (prs_text hol)) (by omega) (by omega) w74 hr41) ?_
                  intro w81 a82 hn he82
                  have hH81 := hH74.call hn
                  replace hr41 := hr41.new hn
                  clear he80 a80 hH74 hn
                  refine lV (Value.bool false) he82 rfl rfl (he82.want rfl rfl rfl rfl rfl) (rn_not (b := true) rfl (he82.op rfl) w81) ?_
                  intro a83 he83
                  clear he82 a82
                  refine lV (Value.bool false) he83 rfl rfl (wanted_plain rfl _) (rn_pk0 rfl (he83.op rfl) (he83.op rfl) w81) ?_
                  intro a84 he84
                  clear he83 a83
                  refine wpList_nil ?_
                  refine then_ok ?_
                  refine wp_cond_false (he84.op rfl) ?_
                  refine wp_skip ?_
                  refine then_ok ?_
                  refine wp_seq ?_
                  have hT85 := hT.new hH81.new
                  have hR85 := hH81.new
                  have hH85 := Hp.start w81
                  clear hH81 hT 
                  refine wp_region_lit ?_
                  refine lNewP (fun p => .pointer (some ⟨p, 0, none⟩)) he84 hH85 rfl rfl (wanted_plain rfl _) (rn_allocN rfl w81) ?_
                  intro p86 w86 a87 hp hn hH86 he87
                  clear he84 a84 hH85 hn hp
                  refine wpList_nil ?_
                  refine then_ok ?_
                  refine wp_seq ?_
                  refine wp_seq ?_
                  refine wp_region_lit ?_
                  refine lV (Value.string (bs s)) he87 rfl rfl (wanted_plain rfl _) (rn_mv rfl (he87.op rfl) w86) ?_
                  intro a88 he88
                  clear he87 a87
                  refine lEx he88 rfl rfl (wanted_plain rfl _) (rx_range (l := s) rfl (he88.op rfl)) ?_
                  rintro _ w89 ⟨q89, rfl, hq89, hit89, hn⟩
                  have hH89 := hH86.call hn
                  replace hq89 := Nat.le_trans hH86.new.size hq89
                  intro a90 he90
                  clear he88 a88 hH86 hn
                  refine wpList_nil ?_
                  refine then_ok ?_
                  refine wp_block ?_
                  refine loop_nat (fun q a w' => ∃ (i : Nat), q = s.length - i ∧ i ≤ s.length ∧ (∀ c ∈ s.take i, fine c) ∧ Env 103 [(92, Value.pointer (some ⟨q89, 0, none⟩)), (13, Value.pointer (some ⟨p86, 0, none⟩)), (9, Value.slice A41 (lst s).length c41)] a ∧ Hp w81 [⟨p86, 39, (cbF (say (s.take i)))⟩] w' ∧ It w' q89 s i) _ ⟨0, rfl, Nat.zero_le _, (fun n hn => by simp at hn), he90.mem ⟨rfl, rfl, rfl, trivial⟩, hH89, hit89⟩ ?_
                  clear he90 hH89
                  rintro q a91 w91 ⟨i, rfl, hi, hfi, he91, hH91, hit89⟩
                  refine wp_seq ?_
                  refine wp_region_lit ?_
                  by_cases hb8 : i < s.length
                  · skip
                    refine lEx he91 rfl rfl (wanted_plain rfl _) (rx_next1 hit89 rfl (he91.op rfl) (getD_at (d := 0) hb8) (hfs _ (getD_mem hb8))) ?_
                    rintro _ w92 ⟨rfl, hi_, hf_⟩
                    have hH92 := hH91.iter hit89 hq89 hf_
                    replace hit89 := hi_
                    intro a93 he93
                    clear he91 a91 hH91 hf_ hi_
                    refine lV (Value.bool true) he93 rfl rfl (wanted_plain rfl _) (rn_ext rfl (he93.op rfl) rfl w92) ?_
                    intro a94 he94
                    clear he93 a93
                    refine wpList_nil ?_
                    refine then_ok ?_
                    refine wp_seq ?_
                    refine wp_cond_true (he94.op rfl) ?_
                    refine wp_skip ?_
                    refine then_ok ?_
                    refine wp_block ?_
                    refine wp_seq ?_
                    refine wp_region_lit ?_
                    refine lV (Value.int .i32 ((s.getD i 0).toNat : Int)) he94 rfl rfl (wanted_plain rfl _) (rn_ext rfl (he94.op rfl) rfl w92) ?_
                    intro a95 he95
                    clear he94 a94
                    refine lV (Value.int .i32 ((s.getD i 0).toNat : Int)) he95 rfl rfl (wanted_plain rfl _) (rn_asg rfl (he95.op rfl) w92) ?_
                    intro a96 he96
                    clear he95 a95
                    refine wpList_nil ?_
                    refine then_ok ?_
                    refine wp_region_lit ?_
                    refine lV (Value.int .i32 ((s.getD i 0).toNat : Int)) he96 rfl rfl (wanted_plain rfl _) (rn_mv rfl (he96.op rfl) w92) ?_
                    intro a97 he97
                    clear he96 a96
                    refine lCx he97 rfl rfl Tryd.func20 (by kernel_rfl) rfl rfl (wanted_plain rfl _) rfl (Add_k p86 (s.take i) (s.getD i 0) ((s.getD i 0).toNat : Int) rfl (hfs _ (getD_mem hb8)) hfi w92 (hH92.at (i := 0) rfl)) ?_
                    rintro _ w98 ⟨rfl, hf, hB_⟩
                    replace hit89 := hit89.turn (hH92.at (i := 0) rfl) hf
                    have hH98 : Hp w81 [⟨p86, 39, (cbF (say ((s.take i) ++ [(s.getD i 0)])))⟩] w98 := hH92.turn 0 rfl hf hB_ rfl
                    refine ⟨_, rfl, ?_⟩
                    intro a99 he99
                    clear he97 a97 hH92 hf hB_
                    refine wpList_nil ?_
                    refine block_ok ?_
                    refine then_ok ?_
                    exact ⟨s.length - (i + 1), by omega, i + 1, rfl, by omega, fine_take hfi (getD_at (d := 0) hb8) (hfs _ (getD_mem hb8)), he99.mem ⟨rfl, rfl, rfl, trivial⟩, (by rw [take_snoc (getD_at (d := 0) hb8)]; exact hH98), hit89⟩
                  · skip
                    refine lV (Value.tuple #[Value.bool false]) he91 rfl rfl (wanted_plain rfl _) (rn_next0 hit89 rfl (he91.op rfl) hb8) ?_
                    intro a92 he92
                    clear he91 a91
                    refine lV (Value.bool false) he92 rfl rfl (wanted_plain rfl _) (rn_ext rfl (he92.op rfl) rfl w91) ?_
                    intro a93 he93
                    clear he92 a92
                    refine wpList_nil ?_
                    refine then_ok ?_
                    refine wp_seq ?_
                    refine wp_cond_false (he93.op rfl) ?_
                    refine wp_exit ?_
                    refine then_exit ?_
                    refine then_exit ?_
                    refine block_exit ?_
                    refine then_ok ?_
                    refine wp_seq ?_
                    have ht : s.take i = s := List.take_of_length_le (by omega)
                    rw [ht] at hfi hH91
                    refine wp_region_lit ?_
                    refine lV (Value.slice A41 (lst s).length c41) he93 rfl rfl (wanted_plain rfl _) (rn_mv rfl (he93.op rfl) w91) ?_
                    intro a94 he94
                    clear he93 a93
                    refine lC he94 rfl rfl Tryd.func25 (by kernel_rfl) rfl rfl (wanted_plain rfl _) rfl (has_c p86 (say s) A41 c41 b41 (lst s) true (decide_eq_true rfl) (by omega) w91 (hH91.at (i := 0) rfl) (hr41.new hH91.new)) ?_
                    intro w95 a96 hn he96
                    have hH95 := hH91.call hn
                    replace hit89 := hit89.new hn
                    clear he94 a94 hH91 hn
                    refine lV (Value.bool true) he96 rfl rfl (wanted_plain rfl _) (rn_mv rfl (he96.op rfl) w95) ?_
                    intro a97 he97
                    clear he96 a96
                    refine lC he97 rfl rfl Tryd.func9 (by kernel_rfl) rfl rfl (he97.want rfl rfl rfl rfl rfl) rfl (known_c w95 (hT85.new hH95.new)) ?_
                    intro w98 a99 hn he99
                    have hH98 := hH95.call hn
                    replace hit89 := hit89.new hn
                    clear he97 a97 hH95 hn
                    refine lV (Value.bool true) he99 rfl rfl (wanted_plain rfl _) (rn_pk rfl (he99.op rfl) (he99.op rfl) w98) ?_
                    intro a100 he100
                    clear he99 a99
                    refine lV (Value.bool true) he100 rfl rfl (wanted_plain rfl _) (rn_asg rfl (he100.op rfl) w98) ?_
                    intro a101 he101
                    clear he100 a100
                    refine wpList_nil ?_
                    refine then_ok ?_
                    refine wp_ret ?_
                    try simp only [Exit.then, Exit.inBlock, Exit.noGoto]
                    exact ret_env rfl he101 rfl ⟨by first | rfl | (exfalso; omega) | exact absurd ((lst0 s).1 (by omega)) (by assumption) | exact absurd ((lst0 s).2 (by assumption)) (by omega), (New.trans hR85 hH98.new)⟩
              · skip
                refine lV (Value.bool false) he54 rfl rfl (wanted_plain rfl _) (rn_eqS (a := s) (c := ([] : List UInt8)) rfl (he54.op rfl) (he54.op rfl) (decide_eq_false hb6) w42) ?_
                intro a55 he55
                clear he54 a54
                refine lV (Value.bool true) he55 rfl rfl (wanted_plain rfl _) (rn_neB (i := true) (j := false) rfl (he55.op rfl) (he55.op rfl) rfl w42) ?_
                intro a56 he56
                clear he55 a55
                refine lV (Value.bool true) he56 rfl rfl (wanted_plain rfl _) (rn_mv rfl (he56.op rfl) w42) ?_
                intro a57 he57
                clear he56 a56
                refine lSkip he57 rfl rfl (he57.wantNot rfl rfl rfl rfl rfl rfl) ?_
                intro a58 he58
                clear he57 a57
                refine lSkip he58 rfl rfl (he58.wantNot rfl rfl rfl rfl rfl rfl) ?_
                intro a59 he59
                clear he58 a58
                refine lSkip he59 rfl rfl (he59.wantNot rfl rfl rfl rfl rfl rfl) ?_
                intro a60 he60
                clear he59 a59
                refine lV (Value.bool true) he60 rfl rfl (wanted_plain rfl _) (rn_pk rfl (he60.op rfl) (he60.op rfl) w42) ?_
                intro a61 he61
                clear he60 a60
                refine wpList_nil ?_
                refine then_ok ?_
                refine wp_cond_true (he61.op rfl) ?_
                refine wp_seq ?_
                refine wp_region_lit ?_
                refine lV (Value.bool false) he61 rfl rfl (wanted_plain rfl _) (rn_asg rfl (he61.op rfl) w42) ?_
                intro a62 he62
                clear he61 a61
                refine wpList_nil ?_
                refine then_ok ?_
                refine wp_ret ?_
                try simp only [Exit.then, Exit.inBlock, Exit.noGoto]
                exact ret_env rfl he62 rfl ⟨by first | rfl | (exfalso; omega) | exact absurd ((lst0 s).1 (by omega)) (by assumption) | exact absurd ((lst0 s).2 (by assumption)) (by omega), hH42.new⟩
            · skip
              refine lV (Value.bool false) he52 rfl rfl (wanted_plain rfl _) (rn_eqI rfl (he52.op rfl) (he52.op rfl) (beqF hb5) w42) ?_
              intro a53 he53
              clear he52 a52
              refine lV (Value.string (bs s)) he53 rfl rfl (wanted_plain rfl _) (rn_mv rfl (he53.op rfl) w42) ?_
              intro a54 he54
              clear he53 a53
              by_cases hb6 : s = ([] : List UInt8)
              · skip
                refine lV (Value.bool true) he54 rfl rfl (wanted_plain rfl _) (rn_eqS (a := s) (c := ([] : List UInt8)) rfl (he54.op rfl) (he54.op rfl) (decide_eq_true hb6) w42) ?_
                intro a55 he55
                clear he54 a54
                refine lV (Value.bool true) he55 rfl rfl (wanted_plain rfl _) (rn_neB (i := false) (j := true) rfl (he55.op rfl) (he55.op rfl) rfl w42) ?_
                intro a56 he56
                clear he55 a55
                refine lV (Value.bool true) he56 rfl rfl (wanted_plain rfl _) (rn_mv rfl (he56.op rfl) w42) ?_
                intro a57 he57
                clear he56 a56
                refine lSkip he57 rfl rfl (he57.wantNot rfl rfl rfl rfl rfl rfl) ?_
                intro a58 he58
                clear he57 a57
                refine lSkip he58 rfl rfl (he58.wantNot rfl rfl rfl rfl rfl rfl) ?_
                intro a59 he59
                clear he58 a58
                refine lSkip he59 rfl rfl (he59.wantNot rfl rfl rfl rfl rfl rfl) ?_
                intro a60 he60
                clear he59 a59
                refine lV (Value.bool true) he60 rfl rfl (wanted_plain rfl _) (rn_pk rfl (he60.op rfl) (he60.op rfl) w42) ?_
                intro a61 he61
                clear he60 a60
                refine wpList_nil ?_
                refine then_ok ?_
                refine wp_cond_true (he61.op rfl) ?_
                refine wp_seq ?_
                refine wp_region_lit ?_
                refine lV (Value.bool false) he61 rfl rfl (wanted_plain rfl _) (rn_asg rfl (he61.op rfl) w42) ?_
                intro a62 he62
                clear he61 a61
                refine wpList_nil ?_
                refine then_ok ?_
                refine wp_ret ?_
                try simp only [Exit.then, Exit.inBlock, Exit.noGoto]
                exact ret_env rfl he62 rfl ⟨by first | rfl | (exfalso; omega) | exact absurd ((lst0 s).1 (by omega)) (by assumption) | exact absurd ((lst0 s).2 (by assumption)) (by omega), hH42.new⟩
              · skip
                refine lV (Value.bool false) he54 rfl rfl (wanted_plain rfl _) (rn_eqS (a := s) (c := ([] : List UInt8)) rfl (he54.op rfl) (he54.op rfl) (decide_eq_false hb6) w42) ?_
                intro a55 he55
                clear he54 a54
                refine lV (Value.bool false) he55 rfl rfl (wanted_plain rfl _) (rn_neB (i := false) (j := false) rfl (he55.op rfl) (he55.op rfl) rfl w42) ?_
                intro a56 he56
                clear he55 a55
                refine lV (Value.bool false) he56 rfl rfl (wanted_plain rfl _) (rn_mv rfl (he56.op rfl) w42) ?_
                intro a57 he57
                clear he56 a56
                refine lV (Value.slice A41 (lst s).length c41) he57 rfl rfl (he57.want rfl rfl rfl rfl rfl) (rn_mv rfl (he57.op rfl) w42) ?_
                intro a58 he58
                clear he57 a57
                refine lV (Value.int .i64 (((lst s).length : Nat) : Int)) he58 rfl rfl (he58.want rfl rfl rfl rfl rfl) (rn_lenJ rfl (he58.op rfl) w42) ?_
                intro a59 he59
                clear he58 a58
                by_cases hb7 : 16 < (((lst s).length : Nat) : Int)
                · skip
                  refine lV (Value.bool true) he59 rfl rfl (he59.want rfl rfl rfl rfl rfl) (rn_gtI rfl (he59.op rfl) (he59.op rfl) (decide_eq_true hb7) w42) ?_
                  intro a60 he60
                  clear he59 a59
                  refine lV (Value.bool true) he60 rfl rfl (wanted_plain rfl _) (rn_pk0 rfl (he60.op rfl) (he60.op rfl) w42) ?_
                  intro a61 he61
                  clear he60 a60
                  refine wpList_nil ?_
                  refine then_ok ?_
                  refine wp_cond_true (he61.op rfl) ?_
                  refine wp_seq ?_
                  refine wp_region_lit ?_
                  refine lV (Value.bool false) he61 rfl rfl (wanted_plain rfl _) (rn_asg rfl (he61.op rfl) w42) ?_
                  intro a62 he62
                  clear he61 a61
                  refine wpList_nil ?_
                  refine then_ok ?_
                  refine wp_ret ?_
                  try simp only [Exit.then, Exit.inBlock, Exit.noGoto]
                  exact ret_env rfl he62 rfl ⟨by first | rfl | (exfalso; omega) | exact absurd ((lst0 s).1 (by omega)) (by assumption) | exact absurd ((lst0 s).2 (by assumption)) (by omega), hH42.new⟩
                · skip
                  refine lV (Value.bool false) he59 rfl rfl (he59.want rfl rfl rfl rfl rfl) (rn_gtI rfl (he59.op rfl) (he59.op rfl) (decide_eq_false hb7) w42) ?_
                  intro a60 he60
                  clear he59 a59
                  refine lV (Value.bool false) he60 rfl rfl (wanted_plain rfl _) (rn_pk0 rfl (he60.op rfl) (he60.op rfl) w42) ?_
                  intro a61 he61
                  clear he60 a60
                  refine wpList_nil ?_
                  refine then_ok ?_
                  refine wp_cond_false (he61.op rfl) ?_
                  refine wp_skip ?_
                  refine then_ok ?_
                  refine wp_seq ?_
                  refine wp_seq ?_
                  refine wp_region_lit ?_
                  refine lV (Value.slice A41 (lst s).length c41) he61 rfl rfl (wanted_plain rfl _) (rn_mv rfl (he61.op rfl) w42) ?_
                  intro a62 he62
                  clear he61 a61
                  refine lC he62 rfl rfl Tryd.func27 (by kernel_rfl) rfl rfl (wanted_plain rfl _) rfl (Text_c A41 c41 b41 (lst s) (textL (lst s)) 0 (if_pos hol) (by omega) w42 hr41 (hT.new hH42.new)) ?_
                  intro w63 a64 hn he64
                  have hH63 := hH42.call hn
                  replace hr41 := hr41.new hn
                  clear he62 a62 hH42 hn
                  refine lV (Value.tuple #[Value.string (bs (textL (lst s))), Value.int .i64 0]) he64 rfl rfl (wanted_plain rfl _) (rn_mv rfl (he64.op rfl) w63) ?_
                  intro a65 he65
                  clear he64 a64
                  refine lV (Value.string (bs (textL (lst s)))) he65 rfl rfl (wanted_plain rfl _) (rn_ext rfl (he65.op rfl) rfl w63) ?_
                  intro a66 he66
                  clear he65 a65
                  refine lV (Value.int .i64 0) he66 rfl rfl (wanted_plain rfl _) (rn_ext rfl (he66.op rfl) rfl w63) ?_
                  intro a67 he67
                  clear he66 a66
                  refine lV (Value.string (bs (textL (lst s)))) he67 rfl rfl (wanted_plain rfl _) (rn_asg rfl (he67.op rfl) w63) ?_
                  intro a68 he68
                  clear he67 a67
                  refine lV (Value.int .i64 0) he68 rfl rfl (wanted_plain rfl _) (rn_asg rfl (he68.op rfl) w63) ?_
                  intro a69 he69
                  clear he68 a68
                  refine wpList_nil ?_
                  refine then_ok ?_
                  refine wp_seq ?_
                  refine wp_region_lit ?_
                  refine lV (Value.int .i64 0) he69 rfl rfl (wanted_plain rfl _) (rn_mv rfl (he69.op rfl) w63) ?_
                  intro a70 he70
                  clear he69 a69
                  refine lV (Value.bool false) he70 rfl rfl (wanted_plain rfl _) (rn_neE rfl (he70.op rfl) (he70.op rfl) (bneT rfl) w63) ?_
                  intro a71 he71
                  clear he70 a70
                  refine lV (Value.bool false) he71 rfl rfl (wanted_plain rfl _) (rn_mv rfl (he71.op rfl) w63) ?_
                  intro a72 he72
                  clear he71 a71
                  refine lV (Value.slice A41 (lst s).length c41) he72 rfl rfl (he72.want rfl rfl rfl rfl rfl) (rn_mv rfl (he72.op rfl) w63) ?_
                  intro a73 he73
                  clear he72 a72
                  refine lC he73 rfl rfl Tryd.func10 (by kernel_rfl) rfl rfl (he73.want rfl rfl rfl rfl rfl) rfl (Valid_c A41 c41 b41 (lst s) true (decide_eq_true hol) (by omega) w63 hr41) ?_
                  intro w74 a75 hn he75
                  have hH74 := hH63.call hn
                  replace hr41 := hr41.new hn
                  clear he73 a73 hH63 hn
                  refine lV (Value.bool false) he75 rfl rfl (he75.want rfl rfl rfl rfl rfl) (rn_not (b := true) rfl (he75.op rfl) w74) ?_
                  intro a76 he76
                  clear he75 a75
                  refine lV (Value.bool false) he76 rfl rfl (wanted_plain rfl _) (rn_pk0 rfl (he76.op rfl) (he76.op rfl) w74) ?_
                  intro a77 he77
                  clear he76 a76
                  refine lV (Value.bool false) he77 rfl rfl (wanted_plain rfl _) (rn_mv rfl (he77.op rfl) w74) ?_
                  intro a78 he78
                  clear he77 a77
                  refine lV (Value.string (bs (textL (lst s)))) he78 rfl rfl (he78.want rfl rfl rfl rfl rfl) (rn_mv rfl (he78.op rfl) w74) ?_
                  intro a79 he79
                  clear he78 a78
                  refine lV (Value.slice A41 (lst s).length c41) he79 rfl rfl (he79.want rfl rfl rfl rfl rfl) (rn_mv rfl (he79.op rfl) w74) ?_
                  intro a80 he80
                  clear he79 a79
                  refine lC he80 rfl rfl Tryd.func17 (by kernel_rfl) rfl rfl (he80.want rfl rfl rfl rfl rfl) rfl (parses_c (textL (lst s)) 0 A41 c41 b41 (lst s) true (decide_eq_true (prs_text hol)) (by omega) (by omega) w74 hr41) ?_
                  intro w81 a82 hn he82
                  have hH81 := hH74.call hn
                  replace hr41 := hr41.new hn
                  clear he80 a80 hH74 hn
                  refine lV (Value.bool false) he82 rfl rfl (he82.want rfl rfl rfl rfl rfl) (rn_not (b := true) rfl (he82.op rfl) w81) ?_
                  intro a83 he83
                  clear he82 a82
                  refine lV (Value.bool false) he83 rfl rfl (wanted_plain rfl _) (rn_pk0 rfl (he83.op rfl) (he83.op rfl) w81) ?_
                  intro a84 he84
                  clear he83 a83
                  refine wpList_nil ?_
                  refine then_ok ?_
                  refine wp_cond_false (he84.op rfl) ?_
                  refine wp_skip ?_
                  refine then_ok ?_
                  refine wp_seq ?_
                  have hT85 := hT.new hH81.new
                  have hR85 := hH81.new
                  have hH85 := Hp.start w81
                  clear hH81 hT 
                  refine wp_region_lit ?_
                  refine lNewP (fun p => .pointer (some ⟨p, 0, none⟩)) he84 hH85 rfl rfl (wanted_plain rfl _) (rn_allocN rfl w81) ?_
                  intro p86 w86 a87 hp hn hH86 he87
                  clear he84 a84 hH85 hn hp
                  refine wpList_nil ?_
                  refine then_ok ?_
                  refine wp_seq ?_
                  refine wp_seq ?_
                  refine wp_region_lit ?_
                  refine lV (Value.string (bs s)) he87 rfl rfl (wanted_plain rfl _) (rn_mv rfl (he87.op rfl) w86) ?_
                  intro a88 he88
                  clear he87 a87
                  refine lEx he88 rfl rfl (wanted_plain rfl _) (rx_range (l := s) rfl (he88.op rfl)) ?_
                  rintro _ w89 ⟨q89, rfl, hq89, hit89, hn⟩
                  have hH89 := hH86.call hn
                  replace hq89 := Nat.le_trans hH86.new.size hq89
                  intro a90 he90
                  clear he88 a88 hH86 hn
                  refine wpList_nil ?_
                  refine then_ok ?_
                  refine wp_block ?_
                  refine loop_nat (fun q a w' => ∃ (i : Nat), q = s.length - i ∧ i ≤ s.length ∧ (∀ c ∈ s.take i, fine c) ∧ Env 103 [(92, Value.pointer (some ⟨q89, 0, none⟩)), (13, Value.pointer (some ⟨p86, 0, none⟩)), (9, Value.slice A41 (lst s).length c41)] a ∧ Hp w81 [⟨p86, 39, (cbF (say (s.take i)))⟩] w' ∧ It w' q89 s i) _ ⟨0, rfl, Nat.zero_le _, (fun n hn => by simp at hn), he90.mem ⟨rfl, rfl, rfl, trivial⟩, hH89, hit89⟩ ?_
                  clear he90 hH89
                  rintro q a91 w91 ⟨i, rfl, hi, hfi, he91, hH91, hit89⟩
                  refine wp_seq ?_
                  refine wp_region_lit ?_
                  by_cases hb8 : i < s.length
                  · skip
                    refine lEx he91 rfl rfl (wanted_plain rfl _) (rx_next1 hit89 rfl (he91.op rfl) (getD_at (d := 0) hb8) (hfs _ (getD_mem hb8))) ?_
                    rintro _ w92 ⟨rfl, hi_, hf_⟩
                    have hH92 := hH91.iter hit89 hq89 hf_
                    replace hit89 := hi_
                    intro a93 he93
                    clear he91 a91 hH91 hf_ hi_
                    refine lV (Value.bool true) he93 rfl rfl (wanted_plain rfl _) (rn_ext rfl (he93.op rfl) rfl w92) ?_
                    intro a94 he94
                    clear he93 a93
                    refine wpList_nil ?_
                    refine then_ok ?_
                    refine wp_seq ?_
                    refine wp_cond_true (he94.op rfl) ?_
                    refine wp_skip ?_
                    refine then_ok ?_
                    refine wp_block ?_
                    refine wp_seq ?_
                    refine wp_region_lit ?_
                    refine lV (Value.int .i32 ((s.getD i 0).toNat : Int)) he94 rfl rfl (wanted_plain rfl _) (rn_ext rfl (he94.op rfl) rfl w92) ?_
                    intro a95 he95
                    clear he94 a94
                    refine lV (Value.int .i32 ((s.getD i 0).toNat : Int)) he95 rfl rfl (wanted_plain rfl _) (rn_asg rfl (he95.op rfl) w92) ?_
                    intro a96 he96
                    clear he95 a95
                    refine wpList_nil ?_
                    refine then_ok ?_
                    refine wp_region_lit ?_
                    refine lV (Value.int .i32 ((s.getD i 0).toNat : Int)) he96 rfl rfl (wanted_plain rfl _) (rn_mv rfl (he96.op rfl) w92) ?_
                    intro a97 he97
                    clear he96 a96
                    refine lCx he97 rfl rfl Tryd.func20 (by kernel_rfl) rfl rfl (wanted_plain rfl _) rfl (Add_k p86 (s.take i) (s.getD i 0) ((s.getD i 0).toNat : Int) rfl (hfs _ (getD_mem hb8)) hfi w92 (hH92.at (i := 0) rfl)) ?_
                    rintro _ w98 ⟨rfl, hf, hB_⟩
                    replace hit89 := hit89.turn (hH92.at (i := 0) rfl) hf
                    have hH98 : Hp w81 [⟨p86, 39, (cbF (say ((s.take i) ++ [(s.getD i 0)])))⟩] w98 := hH92.turn 0 rfl hf hB_ rfl
                    refine ⟨_, rfl, ?_⟩
                    intro a99 he99
                    clear he97 a97 hH92 hf hB_
                    refine wpList_nil ?_
                    refine block_ok ?_
                    refine then_ok ?_
                    exact ⟨s.length - (i + 1), by omega, i + 1, rfl, by omega, fine_take hfi (getD_at (d := 0) hb8) (hfs _ (getD_mem hb8)), he99.mem ⟨rfl, rfl, rfl, trivial⟩, (by rw [take_snoc (getD_at (d := 0) hb8)]; exact hH98), hit89⟩
                  · skip
                    refine lV (Value.tuple #[Value.bool false]) he91 rfl rfl (wanted_plain rfl _) (rn_next0 hit89 rfl (he91.op rfl) hb8) ?_
                    intro a92 he92
                    clear he91 a91
                    refine lV (Value.bool false) he92 rfl rfl (wanted_plain rfl _) (rn_ext rfl (he92.op rfl) rfl w91) ?_
                    intro a93 he93
                    clear he92 a92
                    refine wpList_nil ?_
                    refine then_ok ?_
                    refine wp_seq ?_
                    refine wp_cond_false (he93.op rfl) ?_
                    refine wp_exit ?_
                    refine then_exit ?_
                    refine then_exit ?_
                    refine block_exit ?_
                    refine then_ok ?_
                    refine wp_seq ?_
                    have ht : s.take i = s := List.take_of_length_le (by omega)
                    rw [ht] at hfi hH91
                    refine wp_region_lit ?_
                    refine lV (Value.slice A41 (lst s).length c41) he93 rfl rfl (wanted_plain rfl _) (rn_mv rfl (he93.op rfl) w91) ?_
                    intro a94 he94
                    clear he93 a93
                    refine lC he94 rfl rfl Tryd.func25 (by kernel_rfl) rfl rfl (wanted_plain rfl _) rfl (has_c p86 (say s) A41 c41 b41 (lst s) true (decide_eq_true rfl) (by omega) w91 (hH91.at (i := 0) rfl) (hr41.new hH91.new)) ?_
                    intro w95 a96 hn he96
                    have hH95 := hH91.call hn
                    replace hit89 := hit89.new hn
                    clear he94 a94 hH91 hn
                    refine lV (Value.bool true) he96 rfl rfl (wanted_plain rfl _) (rn_mv rfl (he96.op rfl) w95) ?_
                    intro a97 he97
                    clear he96 a96
                    refine lC he97 rfl rfl Tryd.func9 (by kernel_rfl) rfl rfl (he97.want rfl rfl rfl rfl rfl) rfl (known_c w95 (hT85.new hH95.new)) ?_
                    intro w98 a99 hn he99
                    have hH98 := hH95.call hn
                    replace hit89 := hit89.new hn
                    clear he97 a97 hH95 hn
                    refine lV (Value.bool true) he99 rfl rfl (wanted_plain rfl _) (rn_pk rfl (he99.op rfl) (he99.op rfl) w98) ?_
                    intro a100 he100
                    clear he99 a99
                    refine lV (Value.bool true) he100 rfl rfl (wanted_plain rfl _) (rn_asg rfl (he100.op rfl) w98) ?_
                    intro a101 he101
                    clear he100 a100
                    refine wpList_nil ?_
                    refine then_ok ?_
                    refine wp_ret ?_
                    try simp only [Exit.then, Exit.inBlock, Exit.noGoto]
                    exact ret_env rfl he101 rfl ⟨by first | rfl | (exfalso; omega) | exact absurd ((lst0 s).1 (by omega)) (by assumption) | exact absurd ((lst0 s).2 (by assumption)) (by omega), (New.trans hR85 hH98.new)⟩
          · skip
            refine lCx he40 rfl rfl Tryd.func28 (by kernel_rfl) rfl rfl (wanted_plain rfl _) rfl (Parse_c s [] 6 (prs_no hb4) (by omega) w35) ?_
            rintro _ w42 ⟨A41, c41, b41, rfl, hr41, hn⟩
            refine ⟨_, rfl, ?_⟩
            intro a43 he43
            have hH42 := hH35.call hn
            clear he40 a40 hH35
            clear hn
            refine lV (Value.tuple #[Value.slice A41 0 c41, Value.int .i64 6]) he43 rfl rfl (wanted_plain rfl _) (rn_mv rfl (he43.op rfl) w42) ?_
            intro a44 he44
            clear he43 a43
            refine lV (Value.slice A41 0 c41) he44 rfl rfl (wanted_plain rfl _) (rn_ext rfl (he44.op rfl) rfl w42) ?_
            intro a45 he45
            clear he44 a44
            refine lV (Value.int .i64 6) he45 rfl rfl (wanted_plain rfl _) (rn_ext rfl (he45.op rfl) rfl w42) ?_
            intro a46 he46
            clear he45 a45
            refine lV (Value.slice A41 0 c41) he46 rfl rfl (wanted_plain rfl _) (rn_asg rfl (he46.op rfl) w42) ?_
            intro a47 he47
            clear he46 a46
            refine lV (Value.int .i64 6) he47 rfl rfl (wanted_plain rfl _) (rn_asg rfl (he47.op rfl) w42) ?_
            intro a48 he48
            clear he47 a47
            refine wpList_nil ?_
            refine then_ok ?_
            refine wp_seq ?_
            refine wp_seq ?_
            refine wp_region_lit ?_
            refine lV (Value.int .i64 6) he48 rfl rfl (wanted_plain rfl _) (rn_mv rfl (he48.op rfl) w42) ?_
            intro a49 he49
            clear he48 a48
            refine lV (Value.bool true) he49 rfl rfl (wanted_plain rfl _) (rn_neE rfl (he49.op rfl) (he49.op rfl) (by decide) w42) ?_
            intro a50 he50
            clear he49 a49
            refine wpList_nil ?_
            refine then_ok ?_
            refine wp_cond_true (he50.op rfl) ?_
            refine wp_seq ?_
            refine wp_region_lit ?_
            refine lV (Value.slice A41 0 c41) he50 rfl rfl (wanted_plain rfl _) (rn_mv rfl (he50.op rfl) w42) ?_
            intro a51 he51
            clear he50 a50
            refine lV (Value.int .i64 0) he51 rfl rfl (wanted_plain rfl _) (rn_lenJ rfl (he51.op rfl) w42) ?_
            intro a52 he52
            clear he51 a51
            refine lV (Value.bool true) he52 rfl rfl (wanted_plain rfl _) (rn_eqI rfl (he52.op rfl) (he52.op rfl) (beqT rfl) w42) ?_
            intro a53 he53
            clear he52 a52
            refine lV (Value.bool true) he53 rfl rfl (wanted_plain rfl _) (rn_mv rfl (he53.op rfl) w42) ?_
            intro a54 he54
            clear he53 a53
            refine lC he54 rfl rfl Tryd.func9 (by kernel_rfl) rfl rfl (he54.want rfl rfl rfl rfl rfl) rfl (known_c w42 (hT.new hH42.new)) ?_
            intro w55 a56 hn he56
            have hH55 := hH42.call hn
            replace hr41 := hr41.new hn
            clear he54 a54 hH42 hn
            refine lV (Value.bool true) he56 rfl rfl (wanted_plain rfl _) (rn_pk rfl (he56.op rfl) (he56.op rfl) w55) ?_
            intro a57 he57
            clear he56 a56
            refine lV (Value.bool true) he57 rfl rfl (wanted_plain rfl _) (rn_asg rfl (he57.op rfl) w55) ?_
            intro a58 he58
            clear he57 a57
            refine wpList_nil ?_
            refine then_ok ?_
            refine wp_ret ?_
            try simp only [Exit.then, Exit.inBlock, Exit.noGoto]
            exact ret_env rfl he58 rfl ⟨by first | rfl | (exfalso; omega) | exact absurd ((lst0 s).1 (by omega)) (by assumption) | exact absurd ((lst0 s).2 (by assumption)) (by omega), hH55.new⟩
      · skip
        refine lC he10 rfl rfl Tryd.func27 (by kernel_rfl) rfl rfl (wanted_plain rfl _) rfl (Text_c A c b l [] 2 (if_neg hb2) (by omega) w (hr.new hH.new) (hT.new hH.new)) ?_
        intro w11 a12 hn he12
        have hH11 := hH.call hn
        clear he10 a10 hH hn
        refine lV (Value.tuple #[Value.string (bs []), Value.int .i64 2]) he12 rfl rfl (wanted_plain rfl _) (rn_mv rfl (he12.op rfl) w11) ?_
        intro a13 he13
        clear he12 a12
        refine lV (Value.string (bs [])) he13 rfl rfl (wanted_plain rfl _) (rn_ext rfl (he13.op rfl) rfl w11) ?_
        intro a14 he14
        clear he13 a13
        refine lV (Value.int .i64 2) he14 rfl rfl (wanted_plain rfl _) (rn_ext rfl (he14.op rfl) rfl w11) ?_
        intro a15 he15
        clear he14 a14
        refine lV (Value.string (bs [])) he15 rfl rfl (wanted_plain rfl _) (rn_asg rfl (he15.op rfl) w11) ?_
        intro a16 he16
        clear he15 a15
        refine lV (Value.int .i64 2) he16 rfl rfl (wanted_plain rfl _) (rn_asg rfl (he16.op rfl) w11) ?_
        intro a17 he17
        clear he16 a16
        refine wpList_nil ?_
        refine then_ok ?_
        refine wp_seq ?_
        refine wp_region_lit ?_
        refine lV (Value.int .i64 2) he17 rfl rfl (wanted_plain rfl _) (rn_mv rfl (he17.op rfl) w11) ?_
        intro a18 he18
        clear he17 a17
        refine lV (Value.bool false) he18 rfl rfl (wanted_plain rfl _) (rn_eqE rfl (he18.op rfl) (he18.op rfl) (by decide) w11) ?_
        intro a19 he19
        clear he18 a18
        refine lV (Value.bool false) he19 rfl rfl (wanted_plain rfl _) (rn_mv rfl (he19.op rfl) w11) ?_
        intro a20 he20
        clear he19 a19
        refine lSkip he20 rfl rfl (he20.wantNot rfl rfl rfl rfl rfl rfl) ?_
        intro a21 he21
        clear he20 a20
        refine lSkip he21 rfl rfl (he21.wantNot rfl rfl rfl rfl rfl rfl) ?_
        intro a22 he22
        clear he21 a21
        refine lSkip he22 rfl rfl (he22.wantNot rfl rfl rfl rfl rfl rfl) ?_
        intro a23 he23
        clear he22 a22
        refine lSkip he23 rfl rfl (he23.wantNot rfl rfl rfl rfl rfl rfl) ?_
        intro a24 he24
        clear he23 a23
        refine lSkip he24 rfl rfl (he24.wantU rfl rfl rfl rfl rfl) ?_
        intro a25 he25
        clear he24 a24
        refine lSkip he25 rfl rfl (he25.wantU rfl rfl rfl rfl rfl) ?_
        intro a26 he26
        clear he25 a25
        refine lSkip he26 rfl rfl (he26.wantU rfl rfl rfl rfl rfl) ?_
        intro a27 he27
        clear he26 a26
        refine lSkip he27 rfl rfl (he27.wantU rfl rfl rfl rfl rfl) ?_
        intro a28 he28
        clear he27 a27
        refine lSkip he28 rfl rfl (he28.wantNot rfl rfl rfl rfl rfl rfl) ?_
        intro a29 he29
        clear he28 a28
        refine lSkip he29 rfl rfl (he29.wantNot rfl rfl rfl rfl rfl rfl) ?_
        intro a30 he30
        clear he29 a29
        refine lSkip he30 rfl rfl (he30.wantU rfl rfl rfl rfl rfl) ?_
        intro a31 he31
        clear he30 a30
        refine lSkip he31 rfl rfl (he31.wantU rfl rfl rfl rfl rfl) ?_
        intro a32 he32
        clear he31 a31
        refine lSkip he32 rfl rfl (he32.wantU rfl rfl rfl rfl rfl) ?_
        intro a33 he33
        clear he32 a32
        refine lSkip he33 rfl rfl (he33.wantU rfl rfl rfl rfl rfl) ?_
        intro a34 he34
        clear he33 a33
        refine lSkip he34 rfl rfl (he34.wantNot rfl rfl rfl rfl rfl rfl) ?_
        intro a35 he35
        clear he34 a34
        refine lV (Value.bool false) he35 rfl rfl (wanted_plain rfl _) (rn_pk0 rfl (he35.op rfl) (he35.op rfl) w11) ?_
        intro a36 he36
        clear he35 a35
        refine wpList_nil ?_
        refine then_ok ?_
        refine wp_cond_false (he36.op rfl) ?_
        refine wp_skip ?_
        refine then_ok ?_
        refine wp_seq ?_
        refine wp_region_lit ?_
        refine lV (Value.string (bs s)) he36 rfl rfl (wanted_plain rfl _) (rn_mv rfl (he36.op rfl) w11) ?_
        intro a37 he37
        clear he36 a36
        by_cases hb3 : ∀ c ∈ s, fine c
        · skip
          refine lCx he37 rfl rfl Tryd.func28 (by kernel_rfl) rfl rfl (wanted_plain rfl _) rfl (Parse_c s (lst s) 0 (prs_yes hb3) (by omega) w11) ?_
          rintro _ w39 ⟨A38, c38, b38, rfl, hr38, hn⟩
          refine ⟨_, rfl, ?_⟩
          intro a40 he40
          have hH39 := hH11.call hn
          clear he37 a37 hH11
          clear hn
          refine lV (Value.tuple #[Value.slice A38 (lst s).length c38, Value.int .i64 0]) he40 rfl rfl (wanted_plain rfl _) (rn_mv rfl (he40.op rfl) w39) ?_
          intro a41 he41
          clear he40 a40
          refine lV (Value.slice A38 (lst s).length c38) he41 rfl rfl (wanted_plain rfl _) (rn_ext rfl (he41.op rfl) rfl w39) ?_
          intro a42 he42
          clear he41 a41
          refine lV (Value.int .i64 0) he42 rfl rfl (wanted_plain rfl _) (rn_ext rfl (he42.op rfl) rfl w39) ?_
          intro a43 he43
          clear he42 a42
          refine lV (Value.slice A38 (lst s).length c38) he43 rfl rfl (wanted_plain rfl _) (rn_asg rfl (he43.op rfl) w39) ?_
          intro a44 he44
          clear he43 a43
          refine lV (Value.int .i64 0) he44 rfl rfl (wanted_plain rfl _) (rn_asg rfl (he44.op rfl) w39) ?_
          intro a45 he45
          clear he44 a44
          refine wpList_nil ?_
          refine then_ok ?_
          refine wp_seq ?_
          refine wp_seq ?_
          refine wp_region_lit ?_
          refine lV (Value.int .i64 0) he45 rfl rfl (wanted_plain rfl _) (rn_mv rfl (he45.op rfl) w39) ?_
          intro a46 he46
          clear he45 a45
          refine lV (Value.bool false) he46 rfl rfl (wanted_plain rfl _) (rn_neE rfl (he46.op rfl) (he46.op rfl) (bneT rfl) w39) ?_
          intro a47 he47
          clear he46 a46
          refine wpList_nil ?_
          refine then_ok ?_
          refine wp_cond_false (he47.op rfl) ?_
          refine wp_skip ?_
          refine then_ok ?_
          refine wp_seq ?_
          refine wp_seq ?_
          have hfs := hb3
          have hol := lst_ok hfs
          have hLs := lst_len s
          have htl2 := text_len (lst s) hol.2.1
          refine wp_region_lit ?_
          refine lV (Value.slice A38 (lst s).length c38) he47 rfl rfl (wanted_plain rfl _) (rn_mv rfl (he47.op rfl) w39) ?_
          intro a48 he48
          clear he47 a47
          refine lV (Value.int .i64 (((lst s).length : Nat) : Int)) he48 rfl rfl (wanted_plain rfl _) (rn_lenJ rfl (he48.op rfl) w39) ?_
          intro a49 he49
          clear he48 a48
          by_cases hb4 : (((lst s).length : Nat) : Int) = 0
          · skip
            refine lV (Value.bool true) he49 rfl rfl (wanted_plain rfl _) (rn_eqI rfl (he49.op rfl) (he49.op rfl) (beqT hb4) w39) ?_
            intro a50 he50
            clear he49 a49
            refine lV (Value.string (bs s)) he50 rfl rfl (wanted_plain rfl _) (rn_mv rfl (he50.op rfl) w39) ?_
            intro a51 he51
            clear he50 a50
            by_cases hb5 : s = ([] : List UInt8)
            · skip
              refine lV (Value.bool true) he51 rfl rfl (wanted_plain rfl _) (rn_eqS (a := s) (c := ([] : List UInt8)) rfl (he51.op rfl) (he51.op rfl) (decide_eq_true hb5) w39) ?_
              intro a52 he52
              clear he51 a51
              refine lV (Value.bool false) he52 rfl rfl (wanted_plain rfl _) (rn_neB (i := true) (j := true) rfl (he52.op rfl) (he52.op rfl) rfl w39) ?_
              intro a53 he53
              clear he52 a52
              refine lV (Value.bool false) he53 rfl rfl (wanted_plain rfl _) (rn_mv rfl (he53.op rfl) w39) ?_
              intro a54 he54
              clear he53 a53
              refine lV (Value.slice A38 (lst s).length c38) he54 rfl rfl (he54.want rfl rfl rfl rfl rfl) (rn_mv rfl (he54.op rfl) w39) ?_
              intro a55 he55
              clear he54 a54
              refine lV (Value.int .i64 (((lst s).length : Nat) : Int)) he55 rfl rfl (he55.want rfl rfl rfl rfl rfl) (rn_lenJ rfl (he55.op rfl) w39) ?_
              intro a56 he56
              clear he55 a55
              by_cases hb6 : 16 < (((lst s).length : Nat) : Int)
              · skip
                refine lV (Value.bool true) he56 rfl rfl (he56.want rfl rfl rfl rfl rfl) (rn_gtI rfl (he56.op rfl) (he56.op rfl) (decide_eq_true hb6) w39) ?_
                intro a57 he57
                clear he56 a56
                refine lV (Value.bool true) he57 rfl rfl (wanted_plain rfl _) (rn_pk0 rfl (he57.op rfl) (he57.op rfl) w39) ?_
                intro a58 he58
                clear he57 a57
                refine wpList_nil ?_
                refine then_ok ?_
                refine wp_cond_true (he58.op rfl) ?_
                refine wp_seq ?_
                refine wp_region_lit ?_
                refine lV (Value.bool false) he58 rfl rfl (wanted_plain rfl _) (rn_asg rfl (he58.op rfl) w39) ?_
                intro a59 he59
                clear he58 a58
                refine wpList_nil ?_
                refine then_ok ?_
                refine wp_ret ?_
                try simp only [Exit.then, Exit.inBlock, Exit.noGoto]
                exact ret_env rfl he59 rfl ⟨by first | rfl | (exfalso; omega) | exact absurd ((lst0 s).1 (by omega)) (by assumption) | exact absurd ((lst0 s).2 (by assumption)) (by omega), hH39.new⟩
              · skip
                refine lV (Value.bool false) he56 rfl rfl (he56.want rfl rfl rfl rfl rfl) (rn_gtI rfl (he56.op rfl) (he56.op rfl) (decide_eq_false hb6) w39) ?_
                intro a57 he57
                clear he56 a56
                refine lV (Value.bool false) he57 rfl rfl (wanted_plain rfl _) (rn_pk0 rfl (he57.op rfl) (he57.op rfl) w39) ?_
                intro a58 he58
                clear he57 a57
                refine wpList_nil ?_
                refine then_ok ?_
                refine wp_cond_false (he58.op rfl) ?_
                refine wp_skip ?_
                refine then_ok ?_
                refine wp_seq ?_
                refine wp_seq ?_
                refine wp_region_lit ?_
                refine lV (Value.slice A38 (lst s).length c38) he58 rfl rfl (wanted_plain rfl _) (rn_mv rfl (he58.op rfl) w39) ?_
                intro a59 he59
                clear he58 a58
                refine lC he59 rfl rfl Tryd.func27 (by kernel_rfl) rfl rfl (wanted_plain rfl _) rfl (Text_c A38 c38 b38 (lst s) (textL (lst s)) 0 (if_pos hol) (by omega) w39 hr38 (hT.new hH39.new)) ?_
                intro w60 a61 hn he61
                have hH60 := hH39.call hn
                replace hr38 := hr38.new hn
                clear he59 a59 hH39 hn
                refine lV (Value.tuple #[Value.string (bs (textL (lst s))), Value.int .i64 0]) he61 rfl rfl (wanted_plain rfl _) (rn_mv rfl (he61.op rfl) w60) ?_
                intro a62 he62
                clear he61 a61
                refine lV (Value.string (bs (textL (lst s)))) he62 rfl rfl (wanted_plain rfl _) (rn_ext rfl (he62.op rfl) rfl w60) ?_
                intro a63 he63
                clear he62 a62
                refine lV (Value.int .i64 0) he63 rfl rfl (wanted_plain rfl _) (rn_ext rfl (he63.op rfl) rfl w60) ?_
                intro a64 he64
                clear he63 a63
                refine lV (Value.string (bs (textL (lst s)))) he64 rfl rfl (wanted_plain rfl _) (rn_asg rfl (he64.op rfl) w60) ?_
                intro a65 he65
                clear he64 a64
                refine lV (Value.int .i64 0) he65 rfl rfl (wanted_plain rfl _) (rn_asg rfl (he65.op rfl) w60) ?_
                intro a66 he66
                clear he65 a65
                refine wpList_nil ?_
                refine then_ok ?_
                refine wp_seq ?_
                refine wp_region_lit ?_
                refine lV (Value.int .i64 0) he66 rfl rfl (wanted_plain rfl _) (rn_mv rfl (he66.op rfl) w60) ?_
                intro a67 he67
                clear he66 a66
                refine lV (Value.bool false) he67 rfl rfl (wanted_plain rfl _) (rn_neE rfl (he67.op rfl) (he67.op rfl) (bneT rfl) w60) ?_
                intro a68 he68
                clear he67 a67
                refine lV (Value.bool false) he68 rfl rfl (wanted_plain rfl _) (rn_mv rfl (he68.op rfl) w60) ?_
                intro a69 he69
                clear he68 a68
                refine lV (Value.slice A38 (lst s).length c38) he69 rfl rfl (he69.want rfl rfl rfl rfl rfl) (rn_mv rfl (he69.op rfl) w60) ?_
                intro a70 he70
                clear he69 a69
                refine lC he70 rfl rfl Tryd.func10 (by kernel_rfl) rfl rfl (he70.want rfl rfl rfl rfl rfl) rfl (Valid_c A38 c38 b38 (lst s) true (decide_eq_true hol) (by omega) w60 hr38) ?_
                intro w71 a72 hn he72
                have hH71 := hH60.call hn
                replace hr38 := hr38.new hn
                clear he70 a70 hH60 hn
                refine lV (Value.bool false) he72 rfl rfl (he72.want rfl rfl rfl rfl rfl) (rn_not (b := true) rfl (he72.op rfl) w71) ?_
                intro a73 he73
                clear he72 a72
                refine lV (Value.bool false) he73 rfl rfl (wanted_plain rfl _) (rn_pk0 rfl (he73.op rfl) (he73.op rfl) w71) ?_
                intro a74 he74
                clear he73 a73
                refine lV (Value.bool false) he74 rfl rfl (wanted_plain rfl _) (rn_mv rfl (he74.op rfl) w71) ?_
                intro a75 he75
                clear he74 a74
                refine lV (Value.string (bs (textL (lst s)))) he75 rfl rfl (he75.want rfl rfl rfl rfl rfl) (rn_mv rfl (he75.op rfl) w71) ?_
                intro a76 he76
                clear he75 a75
                refine lV (Value.slice A38 (lst s).length c38) he76 rfl rfl (he76.want rfl rfl rfl rfl rfl) (rn_mv rfl (he76.op rfl) w71) ?_
                intro a77 he77
                clear he76 a76
                refine lC he77 rfl rfl Tryd.func17 (by kernel_rfl) rfl rfl (he77.want rfl rfl rfl rfl rfl) rfl (parses_c (textL (lst s)) 0 A38 c38 b38 (lst s) true (decide_eq_true (prs_text hol)) (by omega) (by omega) w71 hr38) ?_
                intro w78 a79 hn he79
                have hH78 := hH71.call hn
                replace hr38 := hr38.new hn
                clear he77 a77 hH71 hn
                refine lV (Value.bool false) he79 rfl rfl (he79.want rfl rfl rfl rfl rfl) (rn_not (b := true) rfl (he79.op rfl) w78) ?_
                intro a80 he80
                clear he79 a79
                refine lV (Value.bool false) he80 rfl rfl (wanted_plain rfl _) (rn_pk0 rfl (he80.op rfl) (he80.op rfl) w78) ?_
                intro a81 he81
                clear he80 a80
                refine wpList_nil ?_
                refine then_ok ?_
                refine wp_cond_false (he81.op rfl) ?_
                refine wp_skip ?_
                refine then_ok ?_
                refine wp_seq ?_
                have hT82 := hT.new hH78.new
                have hR82 := hH78.new
                have hH82 := Hp.start w78
                clear hH78 hT 
                refine wp_region_lit ?_
                refine lNewP (fun p => .pointer (some ⟨p, 0, none⟩)) he81 hH82 rfl rfl (wanted_plain rfl _) (rn_allocN rfl w78) ?_
                intro p83 w83 a84 hp hn hH83 he84
                clear he81 a81 hH82 hn hp
                refine wpList_nil ?_
                refine then_ok ?_
                refine wp_seq ?_
                refine wp_seq ?_
                refine wp_region_lit ?_
                refine lV (Value.string (bs s)) he84 rfl rfl (wanted_plain rfl _) (rn_mv rfl (he84.op rfl) w83) ?_
                intro a85 he85
                clear he84 a84
                refine lEx he85 rfl rfl (wanted_plain rfl _) (rx_range (l := s) rfl (he85.op rfl)) ?_
                rintro _ w86 ⟨q86, rfl, hq86, hit86, hn⟩
                have hH86 := hH83.call hn
                replace hq86 := Nat.le_trans hH83.new.size hq86
                intro a87 he87
                clear he85 a85 hH83 hn
                refine wpList_nil ?_
                refine then_ok ?_
                refine wp_block ?_
                refine loop_nat (fun q a w' => ∃ (i : Nat), q = s.length - i ∧ i ≤ s.length ∧ (∀ c ∈ s.take i, fine c) ∧ Env 103 [(92, Value.pointer (some ⟨q86, 0, none⟩)), (13, Value.pointer (some ⟨p83, 0, none⟩)), (9, Value.slice A38 (lst s).length c38)] a ∧ Hp w78 [⟨p83, 39, (cbF (say (s.take i)))⟩] w' ∧ It w' q86 s i) _ ⟨0, rfl, Nat.zero_le _, (fun n hn => by simp at hn), he87.mem ⟨rfl, rfl, rfl, trivial⟩, hH86, hit86⟩ ?_
                clear he87 hH86
                rintro q a88 w88 ⟨i, rfl, hi, hfi, he88, hH88, hit86⟩
                refine wp_seq ?_
                refine wp_region_lit ?_
                by_cases hb7 : i < s.length
                · skip
                  refine lEx he88 rfl rfl (wanted_plain rfl _) (rx_next1 hit86 rfl (he88.op rfl) (getD_at (d := 0) hb7) (hfs _ (getD_mem hb7))) ?_
                  rintro _ w89 ⟨rfl, hi_, hf_⟩
                  have hH89 := hH88.iter hit86 hq86 hf_
                  replace hit86 := hi_
                  intro a90 he90
                  clear he88 a88 hH88 hf_ hi_
                  refine lV (Value.bool true) he90 rfl rfl (wanted_plain rfl _) (rn_ext rfl (he90.op rfl) rfl w89) ?_
                  intro a91 he91
                  clear he90 a90
                  refine wpList_nil ?_
                  refine then_ok ?_
                  refine wp_seq ?_
                  refine wp_cond_true (he91.op rfl) ?_
                  refine wp_skip ?_
                  refine then_ok ?_
                  refine wp_block ?_
                  refine wp_seq ?_
                  refine wp_region_lit ?_
                  refine lV (Value.int .i32 ((s.getD i 0).toNat : Int)) he91 rfl rfl (wanted_plain rfl _) (rn_ext rfl (he91.op rfl) rfl w89) ?_
                  intro a92 he92
                  clear he91 a91
                  refine lV (Value.int .i32 ((s.getD i 0).toNat : Int)) he92 rfl rfl (wanted_plain rfl _) (rn_asg rfl (he92.op rfl) w89) ?_
                  intro a93 he93
                  clear he92 a92
                  refine wpList_nil ?_
                  refine then_ok ?_
                  refine wp_region_lit ?_
                  refine lV (Value.int .i32 ((s.getD i 0).toNat : Int)) he93 rfl rfl (wanted_plain rfl _) (rn_mv rfl (he93.op rfl) w89) ?_
                  intro a94 he94
                  clear he93 a93
                  refine lCx he94 rfl rfl Tryd.func20 (by kernel_rfl) rfl rfl (wanted_plain rfl _) rfl (Add_k p83 (s.take i) (s.getD i 0) ((s.getD i 0).toNat : Int) rfl (hfs _ (getD_mem hb7)) hfi w89 (hH89.at (i := 0) rfl)) ?_
                  rintro _ w95 ⟨rfl, hf, hB_⟩
                  replace hit86 := hit86.turn (hH89.at (i := 0) rfl) hf
                  have hH95 : Hp w78 [⟨p83, 39, (cbF (say ((s.take i) ++ [(s.getD i 0)])))⟩] w95 := hH89.turn 0 rfl hf hB_ rfl
                  refine ⟨_, rfl, ?_⟩
                  intro a96 he96
                  clear he94 a94 hH89 hf hB_
                  refine wpList_nil ?_
                  refine block_ok ?_
                  refine then_ok ?_
                  exact ⟨s.length - (i + 1), by omega, i + 1, rfl, by omega, fine_take hfi (getD_at (d := 0) hb7) (hfs _ (getD_mem hb7)), he96.mem ⟨rfl, rfl, rfl, trivial⟩, (by rw [take_snoc (getD_at (d := 0) hb7)]; exact hH95), hit86⟩
                · skip
                  refine lV (Value.tuple #[Value.bool false]) he88 rfl rfl (wanted_plain rfl _) (rn_next0 hit86 rfl (he88.op rfl) hb7) ?_
                  intro a89 he89
                  clear he88 a88
                  refine lV (Value.bool false) he89 rfl rfl (wanted_plain rfl _) (rn_ext rfl (he89.op rfl) rfl w88) ?_
                  intro a90 he90
                  clear he89 a89
                  refine wpList_nil ?_
                  refine then_ok ?_
                  refine wp_seq ?_
                  refine wp_cond_false (he90.op rfl) ?_
                  refine wp_exit ?_
                  refine then_exit ?_
                  refine then_exit ?_
                  refine block_exit ?_
                  refine then_ok ?_
                  refine wp_seq ?_
                  have ht : s.take i = s := List.take_of_length_le (by omega)
                  rw [ht] at hfi hH88
                  refine wp_region_lit ?_
                  refine lV (Value.slice A38 (lst s).length c38) he90 rfl rfl (wanted_plain rfl _) (rn_mv rfl (he90.op rfl) w88) ?_
                  intro a91 he91
                  clear he90 a90
                  refine lC he91 rfl rfl Tryd.func25 (by kernel_rfl) rfl rfl (wanted_plain rfl _) rfl (has_c p83 (say s) A38 c38 b38 (lst s) true (decide_eq_true rfl) (by omega) w88 (hH88.at (i := 0) rfl) (hr38.new hH88.new)) ?_
                  intro w92 a93 hn he93
                  have hH92 := hH88.call hn
                  replace hit86 := hit86.new hn
                  clear he91 a91 hH88 hn
                  refine lV (Value.bool true) he93 rfl rfl (wanted_plain rfl _) (rn_mv rfl (he93.op rfl) w92) ?_
                  intro a94 he94
                  clear he93 a93
                  refine lC he94 rfl rfl Tryd.func9 (by kernel_rfl) rfl rfl (he94.want rfl rfl rfl rfl rfl) rfl (known_c w92 (hT82.new hH92.new)) ?_
                  intro w95 a96 hn he96
                  have hH95 := hH92.call hn
                  replace hit86 := hit86.new hn
                  clear he94 a94 hH92 hn
                  refine lV (Value.bool true) he96 rfl rfl (wanted_plain rfl _) (rn_pk rfl (he96.op rfl) (he96.op rfl) w95) ?_
                  intro a97 he97
                  clear he96 a96
                  refine lV (Value.bool true) he97 rfl rfl (wanted_plain rfl _) (rn_asg rfl (he97.op rfl) w95) ?_
                  intro a98 he98
                  clear he97 a97
                  refine wpList_nil ?_
                  refine then_ok ?_
                  refine wp_ret ?_
                  try simp only [Exit.then, Exit.inBlock, Exit.noGoto]
                  exact ret_env rfl he98 rfl ⟨by first | rfl | (exfalso; omega) | exact absurd ((lst0 s).1 (by omega)) (by assumption) | exact absurd ((lst0 s).2 (by assumption)) (by omega), (New.trans hR82 hH95.new)⟩
            · skip
              refine lV (Value.bool false) he51 rfl rfl (wanted_plain rfl _) (rn_eqS (a := s) (c := ([] : List UInt8)) rfl (he51.op rfl) (he51.op rfl) (decide_eq_false hb5) w39) ?_
              intro a52 he52
              clear he51 a51
              refine lV (Value.bool true) he52 rfl rfl (wanted_plain rfl _) (rn_neB (i := true) (j := false) rfl (he52.op rfl) (he52.op rfl) rfl w39) ?_
              intro a53 he53
              clear he52 a52
              refine lV (Value.bool true) he53 rfl rfl (wanted_plain rfl _) (rn_mv rfl (he53.op rfl) w39) ?_
              intro a54 he54
              clear he53 a53
              refine lSkip he54 rfl rfl (he54.wantNot rfl rfl rfl rfl rfl rfl) ?_
              intro a55 he55
              clear he54 a54
              refine lSkip he55 rfl rfl (he55.wantNot rfl rfl rfl rfl rfl rfl) ?_
              intro a56 he56
              clear he55 a55
              refine lSkip he56 rfl rfl (he56.wantNot rfl rfl rfl rfl rfl rfl) ?_
              intro a57 he57
              clear he56 a56
              refine lV (Value.bool true) he57 rfl rfl (wanted_plain rfl _) (rn_pk rfl (he57.op rfl) (he57.op rfl) w39) ?_
              intro a58 he58
              clear he57 a57
              refine wpList_nil ?_
              refine then_ok ?_
              refine wp_cond_true (he58.op rfl) ?_
              refine wp_seq ?_
              refine wp_region_lit ?_
              refine lV (Value.bool false) he58 rfl rfl (wanted_plain rfl _) (rn_asg rfl (he58.op rfl) w39) ?_
              intro a59 he59
              clear he58 a58
              refine wpList_nil ?_
              refine then_ok ?_
              refine wp_ret ?_
              try simp only [Exit.then, Exit.inBlock, Exit.noGoto]
              exact ret_env rfl he59 rfl ⟨by first | rfl | (exfalso; omega) | exact absurd ((lst0 s).1 (by omega)) (by assumption) | exact absurd ((lst0 s).2 (by assumption)) (by omega), hH39.new⟩
          · skip
            refine lV (Value.bool false) he49 rfl rfl (wanted_plain rfl _) (rn_eqI rfl (he49.op rfl) (he49.op rfl) (beqF hb4) w39) ?_
            intro a50 he50
            clear he49 a49
            refine lV (Value.string (bs s)) he50 rfl rfl (wanted_plain rfl _) (rn_mv rfl (he50.op rfl) w39) ?_
            intro a51 he51
            clear he50 a50
            by_cases hb5 : s = ([] : List UInt8)
            · skip
              refine lV (Value.bool true) he51 rfl rfl (wanted_plain rfl _) (rn_eqS (a := s) (c := ([] : List UInt8)) rfl (he51.op rfl) (he51.op rfl) (decide_eq_true hb5) w39) ?_
              intro a52 he52
              clear he51 a51
              refine lV (Value.bool true) he52 rfl rfl (wanted_plain rfl _) (rn_neB (i := false) (j := true) rfl (he52.op rfl) (he52.op rfl) rfl w39) ?_
              intro a53 he53
              clear he52 a52
              refine lV (Value.bool true) he53 rfl rfl (wanted_plain rfl _) (rn_mv rfl (he53.op rfl) w39) ?_
              intro a54 he54
              clear he53 a53
              refine lSkip he54 rfl rfl (he54.wantNot rfl rfl rfl rfl rfl rfl) ?_
              intro a55 he55
              clear he54 a54
              refine lSkip he55 rfl rfl (he55.wantNot rfl rfl rfl rfl rfl rfl) ?_
              intro a56 he56
              clear he55 a55
              refine lSkip he56 rfl rfl (he56.wantNot rfl rfl rfl rfl rfl rfl) ?_
              intro a57 he57
              clear he56 a56
              refine lV (Value.bool true) he57 rfl rfl (wanted_plain rfl _) (rn_pk rfl (he57.op rfl) (he57.op rfl) w39) ?_
              intro a58 he58
              clear he57 a57
              refine wpList_nil ?_
              refine then_ok ?_
              refine wp_cond_true (he58.op rfl) ?_
              refine wp_seq ?_
              refine wp_region_lit ?_
              refine lV (Value.bool false) he58 rfl rfl (wanted_plain rfl _) (rn_asg rfl (he58.op rfl) w39) ?_
              intro a59 he59
              clear he58 a58
              refine wpList_nil ?_
              refine then_ok ?_
              refine wp_ret ?_
              try simp only [Exit.then, Exit.inBlock, Exit.noGoto]
              exact ret_env rfl he59 rfl ⟨by first | rfl | (exfalso; omega) | exact absurd ((lst0 s).1 (by omega)) (by assumption) | exact absurd ((lst0 s).2 (by assumption)) (by omega), hH39.new⟩
            · skip
              refine lV (Value.bool false) he51 rfl rfl (wanted_plain rfl _) (rn_eqS (a := s) (c := ([] : List UInt8)) rfl (he51.op rfl) (he51.op rfl) (decide_eq_false hb5) w39) ?_
              intro a52 he52
              clear he51 a51
              refine lV (Value.bool false) he52 rfl rfl (wanted_plain rfl _) (rn_neB (i := false) (j := false) rfl (he52.op rfl) (he52.op rfl) rfl w39) ?_
              intro a53 he53
              clear he52 a52
              refine lV (Value.bool false) he53 rfl rfl (wanted_plain rfl _) (rn_mv rfl (he53.op rfl) w39) ?_
              intro a54 he54
              clear he53 a53
              refine lV (Value.slice A38 (lst s).length c38) he54 rfl rfl (he54.want rfl rfl rfl rfl rfl) (rn_mv rfl (he54.op rfl) w39) ?_
              intro a55 he55
              clear he54 a54
              refine lV (Value.int .i64 (((lst s).length : Nat) : Int)) he55 rfl rfl (he55.want rfl rfl rfl rfl rfl) (rn_lenJ rfl (he55.op rfl) w39) ?_
              intro a56 he56
              clear he55 a55
              by_cases hb6 : 16 < (((lst s).length : Nat) : Int)
              · skip
                refine lV (Value.bool true) he56 rfl rfl (he56.want rfl rfl rfl rfl rfl) (rn_gtI rfl (he56.op rfl) (he56.op rfl) (decide_eq_true hb6) w39) ?_
                intro a57 he57
                clear he56 a56
                refine lV (Value.bool true) he57 rfl rfl (wanted_plain rfl _) (rn_pk0 rfl (he57.op rfl) (he57.op rfl) w39) ?_
                intro a58 he58
                clear he57 a57
                refine wpList_nil ?_
                refine then_ok ?_
                refine wp_cond_true (he58.op rfl) ?_
                refine wp_seq ?_
                refine wp_region_lit ?_
                refine lV (Value.bool false) he58 rfl rfl (wanted_plain rfl _) (rn_asg rfl (he58.op rfl) w39) ?_
                intro a59 he59
                clear he58 a58
                refine wpList_nil ?_
                refine then_ok ?_
                refine wp_ret ?_
                try simp only [Exit.then, Exit.inBlock, Exit.noGoto]
                exact ret_env rfl he59 rfl ⟨by first | rfl | (exfalso; omega) | exact absurd ((lst0 s).1 (by omega)) (by assumption) | exact absurd ((lst0 s).2 (by assumption)) (by omega), hH39.new⟩
              · skip
                refine lV (Value.bool false) he56 rfl rfl (he56.want rfl rfl rfl rfl rfl) (rn_gtI rfl (he56.op rfl) (he56.op rfl) (decide_eq_false hb6) w39) ?_
                intro a57 he57
                clear he56 a56
                refine lV (Value.bool false) he57 rfl rfl (wanted_plain rfl _) (rn_pk0 rfl (he57.op rfl) (he57.op rfl) w39) ?_
                intro a58 he58
                clear he57 a57
                refine wpList_nil ?_
                refine then_ok ?_
                refine wp_cond_false (he58.op rfl) ?_
                refine wp_skip ?_
                refine then_ok ?_
                refine wp_seq ?_
                refine wp_seq ?_
                refine wp_region_lit ?_
                refine lV (Value.slice A38 (lst s).length c38) he58 rfl rfl (wanted_plain rfl _) (rn_mv rfl (he58.op rfl) w39) ?_
                intro a59 he59
                clear he58 a58
                refine lC he59 rfl rfl Tryd.func27 (by kernel_rfl) rfl rfl (wanted_plain rfl _) rfl (Text_c A38 c38 b38 (lst s) (textL (lst s)) 0 (if_pos hol) (by omega) w39 hr38 (hT.new hH39.new)) ?_
                intro w60 a61 hn he61
                have hH60 := hH39.call hn
                replace hr38 := hr38.new hn
                clear he59 a59 hH39 hn
                refine lV (Value.tuple #[Value.string (bs (textL (lst s))), Value.int .i64 0]) he61 rfl rfl (wanted_plain rfl _) (rn_mv rfl (he61.op rfl) w60) ?_
                intro a62 he62
                clear he61 a61
                refine lV (Value.string (bs (textL (lst s)))) he62 rfl rfl (wanted_plain rfl _) (rn_ext rfl (he62.op rfl) rfl w60) ?_
                intro a63 he63
                clear he62 a62
                refine lV (Value.int .i64 0) he63 rfl rfl (wanted_plain rfl _) (rn_ext rfl (he63.op rfl) rfl w60) ?_
                intro a64 he64
                clear he63 a63
                refine lV (Value.string (bs (textL (lst s)))) he64 rfl rfl (wanted_plain rfl _) (rn_asg rfl (he64.op rfl) w60) ?_
                intro a65 he65
                clear he64 a64
                refine lV (Value.int .i64 0) he65 rfl rfl (wanted_plain rfl _) (rn_asg rfl (he65.op rfl) w60) ?_
                intro a66 he66
                clear he65 a65
                refine wpList_nil ?_
                refine then_ok ?_
                refine wp_seq ?_
                refine wp_region_lit ?_
                refine lV (Value.int .i64 0) he66 rfl rfl (wanted_plain rfl _) (rn_mv rfl (he66.op rfl) w60) ?_
                intro a67 he67
                clear he66 a66
                refine lV (Value.bool false) he67 rfl rfl (wanted_plain rfl _) (rn_neE rfl (he67.op rfl) (he67.op rfl) (bneT rfl) w60) ?_
                intro a68 he68
                clear he67 a67
                refine lV (Value.bool false) he68 rfl rfl (wanted_plain rfl _) (rn_mv rfl (he68.op rfl) w60) ?_
                intro a69 he69
                clear he68 a68
                refine lV (Value.slice A38 (lst s).length c38) he69 rfl rfl (he69.want rfl rfl rfl rfl rfl) (rn_mv rfl (he69.op rfl) w60) ?_
                intro a70 he70
                clear he69 a69
                refine lC he70 rfl rfl Tryd.func10 (by kernel_rfl) rfl rfl (he70.want rfl rfl rfl rfl rfl) rfl (Valid_c A38 c38 b38 (lst s) true (decide_eq_true hol) (by omega) w60 hr38) ?_
                intro w71 a72 hn he72
                have hH71 := hH60.call hn
                replace hr38 := hr38.new hn
                clear he70 a70 hH60 hn
                refine lV (Value.bool false) he72 rfl rfl (he72.want rfl rfl rfl rfl rfl) (rn_not (b := true) rfl (he72.op rfl) w71) ?_
                intro a73 he73
                clear he72 a72
                refine lV (Value.bool false) he73 rfl rfl (wanted_plain rfl _) (rn_pk0 rfl (he73.op rfl) (he73.op rfl) w71) ?_
                intro a74 he74
                clear he73 a73
                refine lV (Value.bool false) he74 rfl rfl (wanted_plain rfl _) (rn_mv rfl (he74.op rfl) w71) ?_
                intro a75 he75
                clear he74 a74
                refine lV (Value.string (bs (textL (lst s)))) he75 rfl rfl (he75.want rfl rfl rfl rfl rfl) (rn_mv rfl (he75.op rfl) w71) ?_
                intro a76 he76
                clear he75 a75
                refine lV (Value.slice A38 (lst s).length c38) he76 rfl rfl (he76.want rfl rfl rfl rfl rfl) (rn_mv rfl (he76.op rfl) w71) ?_
                intro a77 he77
                clear he76 a76
                refine lC he77 rfl rfl Tryd.func17 (by kernel_rfl) rfl rfl (he77.want rfl rfl rfl rfl rfl) rfl (parses_c (textL (lst s)) 0 A38 c38 b38 (lst s) true (decide_eq_true (prs_text hol)) (by omega) (by omega) w71 hr38) ?_
                intro w78 a79 hn he79
                have hH78 := hH71.call hn
                replace hr38 := hr38.new hn
                clear he77 a77 hH71 hn
                refine lV (Value.bool false) he79 rfl rfl (he79.want rfl rfl rfl rfl rfl) (rn_not (b := true) rfl (he79.op rfl) w78) ?_
                intro a80 he80
                clear he79 a79
                refine lV (Value.bool false) he80 rfl rfl (wanted_plain rfl _) (rn_pk0 rfl (he80.op rfl) (he80.op rfl) w78) ?_
                intro a81 he81
                clear he80 a80
                refine wpList_nil ?_
                refine then_ok ?_
                refine wp_cond_false (he81.op rfl) ?_
                refine wp_skip ?_
                refine then_ok ?_
                refine wp_seq ?_
                have hT82 := hT.new hH78.new
                have hR82 := hH78.new
                have hH82 := Hp.start w78
                clear hH78 hT 
                refine wp_region_lit ?_
                refine lNewP (fun p => .pointer (some ⟨p, 0, none⟩)) he81 hH82 rfl rfl (wanted_plain rfl _) (rn_allocN rfl w78) ?_
                intro p83 w83 a84 hp hn hH83 he84
                clear he81 a81 hH82 hn hp
                refine wpList_nil ?_
                refine then_ok ?_
                refine wp_seq ?_
                refine wp_seq ?_
                refine wp_region_lit ?_
                refine lV (Value.string (bs s)) he84 rfl rfl (wanted_plain rfl _) (rn_mv rfl (he84.op rfl) w83) ?_
                intro a85 he85
                clear he84 a84
                refine lEx he85 rfl rfl (wanted_plain rfl _) (rx_range (l := s) rfl (he85.op rfl)) ?_
                rintro _ w86 ⟨q86, rfl, hq86, hit86, hn⟩
                have hH86 := hH83.call hn
                replace hq86 := Nat.le_trans hH83.new.size hq86
                intro a87 he87
                clear he85 a85 hH83 hn
                refine wpList_nil ?_
                refine then_ok ?_
                refine wp_block ?_
                refine loop_nat (fun q a w' => ∃ (i : Nat), q = s.length - i ∧ i ≤ s.length ∧ (∀ c ∈ s.take i, fine c) ∧ Env 103 [(92, Value.pointer (some ⟨q86, 0, none⟩)), (13, Value.pointer (some ⟨p83, 0, none⟩)), (9, Value.slice A38 (lst s).length c38)] a ∧ Hp w78 [⟨p83, 39, (cbF (say (s.take i)))⟩] w' ∧ It w' q86 s i) _ ⟨0, rfl, Nat.zero_le _, (fun n hn => by simp at hn), he87.mem ⟨rfl, rfl, rfl, trivial⟩, hH86, hit86⟩ ?_
                clear he87 hH86
                rintro q a88 w88 ⟨i, rfl, hi, hfi, he88, hH88, hit86⟩
                refine wp_seq ?_
                refine wp_region_lit ?_
                by_cases hb7 : i < s.length
                · skip
                  refine lEx he88 rfl rfl (wanted_plain rfl _) (rx_next1 hit86 rfl (he88.op rfl) (getD_at (d := 0) hb7) (hfs _ (getD_mem hb7))) ?_
                  rintro _ w89 ⟨rfl, hi_, hf_⟩
                  have hH89 := hH88.iter hit86 hq86 hf_
                  replace hit86 := hi_
                  intro a90 he90
                  clear he88 a88 hH88 hf_ hi_
                  refine lV (Value.bool true) he90 rfl rfl (wanted_plain rfl _) (rn_ext rfl (he90.op rfl) rfl w89) ?_
                  intro a91 he91
                  clear he90 a90
                  refine wpList_nil ?_
                  refine then_ok ?_
                  refine wp_seq ?_
                  refine wp_cond_true (he91.op rfl) ?_
                  refine wp_skip ?_
                  refine then_ok ?_
                  refine wp_block ?_
                  refine wp_seq ?_
                  refine wp_region_lit ?_
                  refine lV (Value.int .i32 ((s.getD i 0).toNat : Int)) he91 rfl rfl (wanted_plain rfl _) (rn_ext rfl (he91.op rfl) rfl w89) ?_
                  intro a92 he92
                  clear he91 a91
                  refine lV (Value.int .i32 ((s.getD i 0).toNat : Int)) he92 rfl rfl (wanted_plain rfl _) (rn_asg rfl (he92.op rfl) w89) ?_
                  intro a93 he93
                  clear he92 a92
                  refine wpList_nil ?_
                  refine then_ok ?_
                  refine wp_region_lit ?_
                  refine lV (Value.int .i32 ((s.getD i 0).toNat : Int)) he93 rfl rfl (wanted_plain rfl _) (rn_mv rfl (he93.op rfl) w89) ?_
                  intro a94 he94
                  clear he93 a93
                  refine lCx he94 rfl rfl Tryd.func20 (by kernel_rfl) rfl rfl (wanted_plain rfl _) rfl (Add_k p83 (s.take i) (s.getD i 0) ((s.getD i 0).toNat : Int) rfl (hfs _ (getD_mem hb7)) hfi w89 (hH89.at (i := 0) rfl)) ?_
                  rintro _ w95 ⟨rfl, hf, hB_⟩
                  replace hit86 := hit86.turn (hH89.at (i := 0) rfl) hf
                  have hH95 : Hp w78 [⟨p83, 39, (cbF (say ((s.take i) ++ [(s.getD i 0)])))⟩] w95 := hH89.turn 0 rfl hf hB_ rfl
                  refine ⟨_, rfl, ?_⟩
                  intro a96 he96
                  clear he94 a94 hH89 hf hB_
                  refine wpList_nil ?_
                  refine block_ok ?_
                  refine then_ok ?_
                  exact ⟨s.length - (i + 1), by omega, i + 1, rfl, by omega, fine_take hfi (getD_at (d := 0) hb7) (hfs _ (getD_mem hb7)), he96.mem ⟨rfl, rfl, rfl, trivial⟩, (by rw [take_snoc (getD_at (d := 0) hb7)]; exact hH95), hit86⟩
                · skip
                  refine lV (Value.tuple #[Value.bool false]) he88 rfl rfl (wanted_plain rfl _) (rn_next0 hit86 rfl (he88.op rfl) hb7) ?_
                  intro a89 he89
                  clear he88 a88
                  refine lV (Value.bool false) he89 rfl rfl (wanted_plain rfl _) (rn_ext rfl (he89.op rfl) rfl w88) ?_
                  intro a90 he90
                  clear he89 a89
                  refine wpList_nil ?_
                  refine then_ok ?_
                  refine wp_seq ?_
                  refine wp_cond_false (he90.op rfl) ?_
                  refine wp_exit ?_
                  refine then_exit ?_
                  refine then_exit ?_
                  refine block_exit ?_
                  refine then_ok ?_
                  refine wp_seq ?_
                  have ht : s.take i = s := List.take_of_length_le (by omega)
                  rw [ht] at hfi hH88
                  refine wp_region_lit ?_
                  refine lV (Value.slice A38 (lst s).length c38) he90 rfl rfl (wanted_plain rfl _) (rn_mv rfl (he90.op rfl) w88) ?_
                  intro a91 he91
                  clear he90 a90
                  refine lC he91 rfl rfl Tryd.func25 (by kernel_rfl) rfl rfl (wanted_plain rfl _) rfl (has_c p83 (say s) A38 c38 b38 (lst s) true (decide_eq_true rfl) (by omega) w88 (hH88.at (i := 0) rfl) (hr38.new hH88.new)) ?_
                  intro w92 a93 hn he93
                  have hH92 := hH88.call hn
                  replace hit86 := hit86.new hn
                  clear he91 a91 hH88 hn
                  refine lV (Value.bool true) he93 rfl rfl (wanted_plain rfl _) (rn_mv rfl (he93.op rfl) w92) ?_
                  intro a94 he94
                  clear he93 a93
                  refine lC he94 rfl rfl Tryd.func9 (by kernel_rfl) rfl rfl (he94.want rfl rfl rfl rfl rfl) rfl (known_c w92 (hT82.new hH92.new)) ?_
                  intro w95 a96 hn he96
                  have hH95 := hH92.call hn
                  replace hit86 := hit86.new hn
                  clear he94 a94 hH92 hn
                  refine lV (Value.bool true) he96 rfl rfl (wanted_plain rfl _) (rn_pk rfl (he96.op rfl) (he96.op rfl) w95) ?_
                  intro a97 he97
                  clear he96 a96
                  refine lV (Value.bool true) he97 rfl rfl (wanted_plain rfl _) (rn_asg rfl (he97.op rfl) w95) ?_
                  intro a98 he98
                  clear he97 a97
                  refine wpList_nil ?_
                  refine then_ok ?_
                  refine wp_ret ?_
                  try simp only [Exit.then, Exit.inBlock, Exit.noGoto]
                  exact ret_env rfl he98 rfl ⟨by first | rfl | (exfalso; omega) | exact absurd ((lst0 s).1 (by omega)) (by assumption) | exact absurd ((lst0 s).2 (by assumption)) (by omega), (New.trans hR82 hH95.new)⟩
        · skip
          refine lCx he37 rfl rfl Tryd.func28 (by kernel_rfl) rfl rfl (wanted_plain rfl _) rfl (Parse_c s [] 6 (prs_no hb3) (by omega) w11) ?_
          rintro _ w39 ⟨A38, c38, b38, rfl, hr38, hn⟩
          refine ⟨_, rfl, ?_⟩
          intro a40 he40
          have hH39 := hH11.call hn
          clear he37 a37 hH11
          clear hn
          refine lV (Value.tuple #[Value.slice A38 0 c38, Value.int .i64 6]) he40 rfl rfl (wanted_plain rfl _) (rn_mv rfl (he40.op rfl) w39) ?_
          intro a41 he41
          clear he40 a40
          refine lV (Value.slice A38 0 c38) he41 rfl rfl (wanted_plain rfl _) (rn_ext rfl (he41.op rfl) rfl w39) ?_
          intro a42 he42
          clear he41 a41
          refine lV (Value.int .i64 6) he42 rfl rfl (wanted_plain rfl _) (rn_ext rfl (he42.op rfl) rfl w39) ?_
          intro a43 he43
          clear he42 a42
          refine lV (Value.slice A38 0 c38) he43 rfl rfl (wanted_plain rfl _) (rn_asg rfl (he43.op rfl) w39) ?_
          intro a44 he44
          clear he43 a43
          refine lV (Value.int .i64 6) he44 rfl rfl (wanted_plain rfl _) (rn_asg rfl (he44.op rfl) w39) ?_
          intro a45 he45
          clear he44 a44
          refine wpList_nil ?_
          refine then_ok ?_
          refine wp_seq ?_
          refine wp_seq ?_
          refine wp_region_lit ?_
          refine lV (Value.int .i64 6) he45 rfl rfl (wanted_plain rfl _) (rn_mv rfl (he45.op rfl) w39) ?_
          intro a46 he46
          clear he45 a45
          refine lV (Value.bool true) he46 rfl rfl (wanted_plain rfl _) (rn_neE rfl (he46.op rfl) (he46.op rfl) (by decide) w39) ?_
          intro a47 he47
          clear he46 a46
          refine wpList_nil ?_
          refine then_ok ?_
          refine wp_cond_true (he47.op rfl) ?_
          refine wp_seq ?_
          refine wp_region_lit ?_
          refine lV (Value.slice A38 0 c38) he47 rfl rfl (wanted_plain rfl _) (rn_mv rfl (he47.op rfl) w39) ?_
          intro a48 he48
          clear he47 a47
          refine lV (Value.int .i64 0) he48 rfl rfl (wanted_plain rfl _) (rn_lenJ rfl (he48.op rfl) w39) ?_
          intro a49 he49
          clear he48 a48
          refine lV (Value.bool true) he49 rfl rfl (wanted_plain rfl _) (rn_eqI rfl (he49.op rfl) (he49.op rfl) (beqT rfl) w39) ?_
          intro a50 he50
          clear he49 a49
          refine lV (Value.bool true) he50 rfl rfl (wanted_plain rfl _) (rn_mv rfl (he50.op rfl) w39) ?_
          intro a51 he51
          clear he50 a50
          refine lC he51 rfl rfl Tryd.func9 (by kernel_rfl) rfl rfl (he51.want rfl rfl rfl rfl rfl) rfl (known_c w39 (hT.new hH39.new)) ?_
          intro w52 a53 hn he53
          have hH52 := hH39.call hn
          replace hr38 := hr38.new hn
          clear he51 a51 hH39 hn
          refine lV (Value.bool true) he53 rfl rfl (wanted_plain rfl _) (rn_pk rfl (he53.op rfl) (he53.op rfl) w52) ?_
          intro a54 he54
          clear he53 a53
          refine lV (Value.bool true) he54 rfl rfl (wanted_plain rfl _) (rn_asg rfl (he54.op rfl) w52) ?_
          intro a55 he55
          clear he54 a54
          refine wpList_nil ?_
          refine then_ok ?_
          refine wp_ret ?_
          try simp only [Exit.then, Exit.inBlock, Exit.noGoto]
          exact ret_env rfl he55 rfl ⟨by first | rfl | (exfalso; omega) | exact absurd ((lst0 s).1 (by omega)) (by assumption) | exact absurd ((lst0 s).2 (by assumption)) (by omega), hH52.new⟩
end Go.Proofs.YtpebpjkhkgakfaaDoor
