/-
  RingNil.
-/
import Derived.Test.YtlpjhaghphmbeaaDoorRKnown
import Derived.Test.YtlpjhaghphmbeaaDoorRLawsN
namespace Go.Proofs.YtlpjhaghphmbeaaDoor
open Go.RowKit

set_option linter.unusedSimpArgs false in
set_option maxRecDepth 100000 in
set_option maxHeartbeats 1600000 in
theorem ringNil_walk (n m : Int) (x : Value) (l : List Ce) (so : Bool) (w : World) (hx : SlC w x l) (hT : Tab w) :
    Calls Tryd.prog 5 #[.int .i64 n, .int .i64 m, .agg #[x, .bool so]] w fun e w' => e = .returned (.bool true) ∧ Below w.heap.size w w' := by
  obtain ⟨B, cb, e_⟩ := hx.shape
  subst e_
  refine calls_args (vl := [.int .i64 n, .int .i64 m, .agg #[.slice B l.length cb, .bool so]]) 95 Tryd.func5 rfl Tryd.ntmps5 (by kernel_rfl) (fun a he => ?_)
  have he0 : Env 95 [(0, .int .i64 n), (1, .int .i64 m), (2, .agg #[.slice B l.length cb, .bool so])] a := he
  clear he
  have hH := Hp.start w
  refine wp_seq (wp_region_lit ?_)
  refine lNewP (fun p => .pointer (some ⟨p, 0, none⟩)) he0 hH rfl rfl (wanted_plain rfl _) (rn_boxL rfl (he0.op rfl) w) ?_
  intro p1 w1 a2 hp hn hH1 he2
  clear he0 a hH hn hp
  refine lW (.bool false) he2 rfl (rn_asg rfl (he2.op rfl) w1) ?_
  intro a3 he3
  clear he2 a2
  refine wpList_nil (then_ok ?_)
  by_cases h20 : (20 : Int) < l.length
  · skip
    refine wp_seq ?_
    refine wp_seq (wp_region_lit ?_)
    refine lW (.pointer (some ⟨p1, 0, none⟩)) he3 rfl (rn_faL0 rfl (he3.op rfl) rfl w1) ?_
    intro a4 he4
    clear he3 a3
    refine lW (.slice B l.length cb) he4 rfl (rn_ldS rfl (he4.op rfl) (hH1.at (i := 0) rfl) rfl) ?_
    intro a5 he5
    clear he4 a4
    refine lW (.int .i64 l.length) he5 rfl (rn_lenC rfl (he5.op rfl) w1) ?_
    intro a6 he6
    clear he5 a5
    refine lW (.bool true) he6 rfl (rn_gtr rfl (he6.op rfl) (he6.op rfl) (decide_eq_true h20) w1) ?_
    intro a7 he7
    clear he6 a6
    refine wpList_nil (then_ok ?_)
    refine wp_cond_true (he7.op rfl) ?_
    refine wp_seq (wp_region_lit ?_)
    refine lC he7 rfl rfl Tryd.func8 (by kernel_rfl) rfl rfl (wanted_plain rfl _) rfl (known_any w1 (hT.new hH1.new)) ?_
    intro w8 a9 hn he9
    have hH8 := hH1.call hn
    clear he7 a7 hH1 hn
    refine lW (.bool true) he9 rfl (rn_asg rfl (he9.op rfl) w8) ?_
    intro a10 he10
    clear he9 a9
    refine wpList_nil (then_ok ?_)
    refine wp_ret ?_
    try simp only [Exit.then, Exit.inBlock]
    exact ret_env rfl he10 rfl ⟨rfl, hH8.new.new_below⟩
  refine wp_seq ?_
  refine wp_seq (wp_region_lit ?_)
  refine lW (.pointer (some ⟨p1, 0, none⟩)) he3 rfl (rn_faL0 rfl (he3.op rfl) rfl w1) ?_
  intro a11 he11
  clear he3 a3
  refine lW (.slice B l.length cb) he11 rfl (rn_ldS rfl (he11.op rfl) (hH1.at (i := 0) rfl) rfl) ?_
  intro a12 he12
  clear he11 a11
  refine lW (.int .i64 l.length) he12 rfl (rn_lenC rfl (he12.op rfl) w1) ?_
  intro a13 he13
  clear he12 a12
  refine lW (.bool false) he13 rfl (rn_gtr rfl (he13.op rfl) (he13.op rfl) (decide_eq_false h20) w1) ?_
  intro a14 he14
  clear he13 a13
  refine wpList_nil (then_ok ?_)
  refine wp_cond_false (he14.op rfl) ?_
  refine wp_skip ?_
  refine then_ok ?_
  refine wp_seq (wp_region_lit ?_)
  refine lW (.pointer none) he14 rfl (rn_asg rfl (he14.op rfl) w1) ?_
  intro a15 he15
  clear he14 a14
  refine wpList_nil (then_ok ?_)
  refine wp_seq ?_
  refine wp_seq (wp_region_lit ?_)
  refine lW (.pointer none) he15 rfl (rn_mv rfl (he15.op rfl) w1) ?_
  intro a16 he16
  clear he15 a15
  refine lW (.agg #[.slice none 0 0, .int .i64 0, .int .i64 0, .int .i64 0, .int .i64 0]) he16 rfl (rn_bH rfl  w1) ?_
  intro a17 he17
  clear he16 a16
  refine lNewP (fun p => .pointer (some ⟨p, 0, none⟩)) he17 hH1 rfl rfl (wanted_plain rfl _) (rn_boxH rfl (he17.op rfl) w1) ?_
  intro p18 w18 a19 hp hn hH18 he19
  clear he17 a17 hH1 hn hp
  refine lNewP (fun p => .slice (some ⟨p, 0, none⟩) 2 2) he19 hH18 rfl rfl (wanted_plain rfl _) (rn_bsRp2 rfl (he19.op rfl) (he19.op rfl) w18) ?_
  intro p20 w20 a21 hp hn hH20 he21
  clear he19 a19 hH18 hn hp
  refine lW (.int .i64 2) he21 rfl (rn_lenRp rfl (he21.op rfl) w20) ?_
  intro a22 he22
  clear he21 a21
  refine lW (.int .i64 0) he22 rfl (rn_mv rfl (he22.op rfl) w20) ?_
  intro a23 he23
  clear he22 a22
  refine wpList_nil (then_ok ?_)
  have he24 : Env 95 [(20, .int .i64 0), (19, .int .i64 2), (18, .slice (some ⟨p20, 0, none⟩) 2 2), (5, .pointer (some ⟨p1, 0, none⟩)), (0, .int .i64 n), (1, .int .i64 m)] a23 := he23.mem ⟨rfl, rfl, rfl, rfl, rfl, rfl, trivial⟩
  clear he23
  as_aux_lemma =>
    refine wp_block ?_
    refine loop_nat (fun q a w' => ∃ (k : Nat), q = 2 - k ∧ k ≤ 2 ∧ Env 95 [(0, .int .i64 n), (1, .int .i64 m), (5, .pointer (some ⟨p1, 0, none⟩)), (18, .slice (some ⟨p20, 0, none⟩) 2 2), (19, .int .i64 (2 : Nat)), (20, .int .i64 k)] a ∧ Hp w [⟨p20, 25, #[.pointer none, .pointer (some ⟨p18, 0, none⟩)]⟩, ⟨p18, 60, #[.slice none 0 0, .int .i64 0, .int .i64 0, .int .i64 0, .int .i64 0]⟩, ⟨p1, 36, #[.slice B l.length cb, .bool so]⟩] w') 2 ⟨0, by omega, by omega, he24.mem ⟨rfl, rfl, rfl, rfl, rfl, rfl, trivial⟩, hH20⟩ ?_
    clear he24 hH20
    rintro q a25 w25 ⟨k, rfl, hk, he25, hH25⟩
    by_cases hk2 : k < 2
    · skip
      refine wp_seq (wp_region_lit ?_)
      refine lW (.bool true) he25 rfl (rn_lss rfl (he25.op rfl) (he25.op rfl) (decide_eq_true (by omega)) w25) ?_
      intro a26 he26
      clear he25 a25
      refine wpList_nil (then_ok ?_)
      refine wp_seq ?_
      refine wp_cond_true (he26.op rfl) ?_
      refine wp_skip ?_
      refine then_ok ?_
      refine wp_seq ?_
      refine wp_block ?_
      obtain ⟨pa, hpa, hU⟩ : ∃ pa : Option Addr, (#[.pointer none, .pointer (some ⟨p18, 0, none⟩)] : Array Value)[k]? = some (.pointer pa) ∧ UmR w25 pa := by
        rcases (show k = 0 ∨ k = 1 by omega) with rfl | rfl
        · exact ⟨none, rfl, .inl rfl⟩
        · exact ⟨some ⟨p18, 0, none⟩, rfl, .inr ⟨p18, rfl, hH25.at (i := 1) rfl⟩⟩
      refine wp_seq (wp_region_lit ?_)
      refine lW (.pointer (some ⟨p20, k, none⟩)) he26 rfl (rn_idxRp (i := k) rfl (he26.op rfl) (he26.op rfl) hk2 (by rw [addr_add]; simp) w25) ?_
      intro a27 he27
      clear he26 a26
      refine lW (.pointer pa) he27 rfl (rn_ldPr rfl (he27.op rfl) (hH25.at (i := 0) rfl) hpa) ?_
      intro a28 he28
      clear he27 a27
      refine lW (.pointer pa) he28 rfl (rn_asg rfl (he28.op rfl) w25) ?_
      intro a29 he29
      clear he28 a28
      refine wpList_nil (then_ok ?_)
      refine wp_seq (wp_region_lit ?_)
      refine lW (.pointer pa) he29 rfl (rn_mv rfl (he29.op rfl) w25) ?_
      intro a30 he30
      clear he29 a29
      refine lC he30 rfl rfl Tryd.func24 (by kernel_rfl) rfl rfl (wanted_plain rfl _) rfl (rClear_n pa w25 hU (hT.new hH25.new)) ?_
      intro w31 a32 hn he32
      have hH31 := hH25.call hn
      replace hU := hU.new hn
      clear he30 a30 hH25 hn
      refine wpList_nil (then_ok ?_)
      refine wp_seq (wp_region_lit ?_)
      refine lW (.pointer pa) he32 rfl (rn_mv rfl (he32.op rfl) w31) ?_
      intro a33 he33
      clear he32 a32
      refine lW (.agg #[.slice B l.length cb, .bool so]) he33 rfl (rn_ldp _ rfl (he33.op rfl) undL rfl infoL2 (hH31.at (i := 2) rfl) rfl) ?_
      intro a34 he34
      clear he33 a33
      refine lC he34 rfl rfl Tryd.func17 (by kernel_rfl) rfl rfl (wanted_plain rfl _) rfl (pushes_n pa B l.length cb so w31 hU (hT.new hH31.new)) ?_
      intro w35 a36 hn he36
      have hH35 := hH31.call hn
      replace hU := hU.new hn
      clear he34 a34 hH31 hn
      refine lW (.bool false) he36 rfl (rn_not (b := true) rfl (he36.op rfl) w35) ?_
      intro a37 he37
      clear he36 a36
      refine lW (.bool false) he37 rfl (rn_mv rfl (he37.op rfl) w35) ?_
      intro a38 he38
      clear he37 a37
      refine lV (.pointer pa) he38 rfl rfl (he38.want rfl rfl rfl rfl rfl) (rn_mv rfl (he38.op rfl) w35) ?_
      intro a39 he39
      clear he38 a38
      refine lV (.agg #[.slice none 0 0, .bool false]) he39 rfl rfl (he39.want rfl rfl rfl rfl rfl) (rn_bL rfl  w35) ?_
      intro a40 he40
      clear he39 a39
      refine lC he40 rfl rfl Tryd.func25 (by kernel_rfl) rfl rfl (he40.want rfl rfl rfl rfl rfl) rfl (pops_n pa w35 hU (hT.new hH35.new)) ?_
      intro w41 a42 hn he42
      have hH41 := hH35.call hn
      replace hU := hU.new hn
      clear he40 a40 hH35 hn
      refine lV (.bool false) he42 rfl rfl (he42.want rfl rfl rfl rfl rfl) (rn_not (b := true) rfl (he42.op rfl) w41) ?_
      intro a43 he43
      clear he42 a42
      refine lW (.bool false) he43 rfl (rn_pk0 rfl (he43.op rfl) (he43.op rfl) w41) ?_
      intro a44 he44
      clear he43 a43
      refine lW (.bool false) he44 rfl (rn_mv rfl (he44.op rfl) w41) ?_
      intro a45 he45
      clear he44 a44
      refine lV (.pointer pa) he45 rfl rfl (he45.want rfl rfl rfl rfl rfl) (rn_mv rfl (he45.op rfl) w41) ?_
      intro a46 he46
      clear he45 a45
      refine lV (.int .i64 n) he46 rfl rfl (he46.want rfl rfl rfl rfl rfl) (rn_mv rfl (he46.op rfl) w41) ?_
      intro a47 he47
      clear he46 a46
      refine lV (.agg #[.slice none 0 0, .bool false]) he47 rfl rfl (he47.want rfl rfl rfl rfl rfl) (rn_bL rfl  w41) ?_
      intro a48 he48
      clear he47 a47
      refine lC he48 rfl rfl Tryd.func15 (by kernel_rfl) rfl rfl (he48.want rfl rfl rfl rfl rfl) rfl (gets_n pa n w41 hU (hT.new hH41.new)) ?_
      intro w49 a50 hn he50
      have hH49 := hH41.call hn
      replace hU := hU.new hn
      clear he48 a48 hH41 hn
      refine lV (.bool false) he50 rfl rfl (he50.want rfl rfl rfl rfl rfl) (rn_not (b := true) rfl (he50.op rfl) w49) ?_
      intro a51 he51
      clear he50 a50
      refine lW (.bool false) he51 rfl (rn_pk0 rfl (he51.op rfl) (he51.op rfl) w49) ?_
      intro a52 he52
      clear he51 a51
      refine lW (.bool false) he52 rfl (rn_mv rfl (he52.op rfl) w49) ?_
      intro a53 he53
      clear he52 a52
      refine lV (.pointer pa) he53 rfl rfl (he53.want rfl rfl rfl rfl rfl) (rn_mv rfl (he53.op rfl) w49) ?_
      intro a54 he54
      clear he53 a53
      refine lV (.int .i64 n) he54 rfl rfl (he54.want rfl rfl rfl rfl rfl) (rn_mv rfl (he54.op rfl) w49) ?_
      intro a55 he55
      clear he54 a54
      refine lV (.agg #[.slice B l.length cb, .bool so]) he55 rfl rfl (he55.want rfl rfl rfl rfl rfl) (rn_ldp _ rfl (he55.op rfl) undL rfl infoL2 (hH49.at (i := 2) rfl) rfl) ?_
      intro a56 he56
      clear he55 a55
      refine lC he56 rfl rfl Tryd.func26 (by kernel_rfl) rfl rfl (he56.want rfl rfl rfl rfl rfl) rfl (rSet_n pa n B l.length cb so w49 hU (hT.new hH49.new)) ?_
      intro w57 a58 hn he58
      have hH57 := hH49.call hn
      replace hU := hU.new hn
      clear he56 a56 hH49 hn
      refine lV (.bool false) he58 rfl rfl (he58.want rfl rfl rfl rfl rfl) (rn_neE rfl (he58.op rfl) (he58.op rfl) (by simp) w57) ?_
      intro a59 he59
      clear he58 a58
      refine lW (.bool false) he59 rfl (rn_pk0 rfl (he59.op rfl) (he59.op rfl) w57) ?_
      intro a60 he60
      clear he59 a59
      refine lW (.bool false) he60 rfl (rn_mv rfl (he60.op rfl) w57) ?_
      intro a61 he61
      clear he60 a60
      refine lV (.pointer pa) he61 rfl rfl (he61.want rfl rfl rfl rfl rfl) (rn_mv rfl (he61.op rfl) w57) ?_
      intro a62 he62
      clear he61 a61
      refine lV (.int .i64 n) he62 rfl rfl (he62.want rfl rfl rfl rfl rfl) (rn_mv rfl (he62.op rfl) w57) ?_
      intro a63 he63
      clear he62 a62
      refine lV (.int .i64 m) he63 rfl rfl (he63.want rfl rfl rfl rfl rfl) (rn_mv rfl (he63.op rfl) w57) ?_
      intro a64 he64
      clear he63 a63
      refine lC he64 rfl rfl Tryd.func16 (by kernel_rfl) rfl rfl (he64.want rfl rfl rfl rfl rfl) rfl (ranges_n pa n m w57 hU (hT.new hH57.new)) ?_
      intro w65 a66 hn he66
      have hH65 := hH57.call hn
      replace hU := hU.new hn
      clear he64 a64 hH57 hn
      refine lV (.bool false) he66 rfl rfl (he66.want rfl rfl rfl rfl rfl) (rn_not (b := true) rfl (he66.op rfl) w65) ?_
      intro a67 he67
      clear he66 a66
      refine lW (.bool false) he67 rfl (rn_pk0 rfl (he67.op rfl) (he67.op rfl) w65) ?_
      intro a68 he68
      clear he67 a67
      refine lW (.bool false) he68 rfl (rn_mv rfl (he68.op rfl) w65) ?_
      intro a69 he69
      clear he68 a68
      refine lV (.pointer pa) he69 rfl rfl (he69.want rfl rfl rfl rfl rfl) (rn_mv rfl (he69.op rfl) w65) ?_
      intro a70 he70
      clear he69 a69
      refine lV (.int .i64 n) he70 rfl rfl (he70.want rfl rfl rfl rfl rfl) (rn_mv rfl (he70.op rfl) w65) ?_
      intro a71 he71
      clear he70 a70
      refine lC he71 rfl rfl Tryd.func27 (by kernel_rfl) rfl rfl (he71.want rfl rfl rfl rfl rfl) rfl (rLimit_n pa n w65 hU (hT.new hH65.new)) ?_
      intro w72 a73 hn he73
      have hH72 := hH65.call hn
      replace hU := hU.new hn
      clear he71 a71 hH65 hn
      refine lV (.bool false) he73 rfl rfl (he73.want rfl rfl rfl rfl rfl) (rn_neE rfl (he73.op rfl) (he73.op rfl) (by simp) w72) ?_
      intro a74 he74
      clear he73 a73
      refine lW (.bool false) he74 rfl (rn_pk0 rfl (he74.op rfl) (he74.op rfl) w72) ?_
      intro a75 he75
      clear he74 a74
      refine lW (.bool false) he75 rfl (rn_mv rfl (he75.op rfl) w72) ?_
      intro a76 he76
      clear he75 a75
      refine lV (.pointer pa) he76 rfl rfl (he76.want rfl rfl rfl rfl rfl) (rn_mv rfl (he76.op rfl) w72) ?_
      intro a77 he77
      clear he76 a76
      refine lC he77 rfl rfl Tryd.func19 (by kernel_rfl) rfl rfl (he77.want rfl rfl rfl rfl rfl) rfl (rFirst_t pa w72 hU (hT.new hH72.new)) ?_
      intro w78 a79 hn he79
      have hH78 := hH72.call hn
      replace hU := hU.new hn
      clear he77 a77 hH72 hn
      refine lV (.bool false) he79 rfl rfl (he79.want rfl rfl rfl rfl rfl) (rn_neI rfl (he79.op rfl) (he79.op rfl) (by simp) w78) ?_
      intro a80 he80
      clear he79 a79
      refine lW (.bool false) he80 rfl (rn_pk0 rfl (he80.op rfl) (he80.op rfl) w78) ?_
      intro a81 he81
      clear he80 a80
      refine lW (.bool false) he81 rfl (rn_mv rfl (he81.op rfl) w78) ?_
      intro a82 he82
      clear he81 a81
      refine lV (.pointer pa) he82 rfl rfl (he82.want rfl rfl rfl rfl rfl) (rn_mv rfl (he82.op rfl) w78) ?_
      intro a83 he83
      clear he82 a82
      refine lC he83 rfl rfl Tryd.func20 (by kernel_rfl) rfl rfl (he83.want rfl rfl rfl rfl rfl) rfl (rNext_t pa w78 hU (hT.new hH78.new)) ?_
      intro w84 a85 hn he85
      have hH84 := hH78.call hn
      replace hU := hU.new hn
      clear he83 a83 hH78 hn
      refine lV (.bool false) he85 rfl rfl (he85.want rfl rfl rfl rfl rfl) (rn_neI rfl (he85.op rfl) (he85.op rfl) (by simp) w84) ?_
      intro a86 he86
      clear he85 a85
      refine lW (.bool false) he86 rfl (rn_pk0 rfl (he86.op rfl) (he86.op rfl) w84) ?_
      intro a87 he87
      clear he86 a86
      refine lW (.bool false) he87 rfl (rn_mv rfl (he87.op rfl) w84) ?_
      intro a88 he88
      clear he87 a87
      refine lV (.pointer pa) he88 rfl rfl (he88.want rfl rfl rfl rfl rfl) (rn_mv rfl (he88.op rfl) w84) ?_
      intro a89 he89
      clear he88 a88
      refine lC he89 rfl rfl Tryd.func28 (by kernel_rfl) rfl rfl (he89.want rfl rfl rfl rfl rfl) rfl (rLen_t pa w84 hU (hT.new hH84.new)) ?_
      intro w90 a91 hn he91
      have hH90 := hH84.call hn
      replace hU := hU.new hn
      clear he89 a89 hH84 hn
      refine lV (.bool false) he91 rfl rfl (he91.want rfl rfl rfl rfl rfl) (rn_neI rfl (he91.op rfl) (he91.op rfl) (by simp) w90) ?_
      intro a92 he92
      clear he91 a91
      refine lW (.bool false) he92 rfl (rn_pk0 rfl (he92.op rfl) (he92.op rfl) w90) ?_
      intro a93 he93
      clear he92 a92
      refine lW (.bool false) he93 rfl (rn_mv rfl (he93.op rfl) w90) ?_
      intro a94 he94
      clear he93 a93
      refine lV (.pointer pa) he94 rfl rfl (he94.want rfl rfl rfl rfl rfl) (rn_mv rfl (he94.op rfl) w90) ?_
      intro a95 he95
      clear he94 a94
      refine lC he95 rfl rfl Tryd.func29 (by kernel_rfl) rfl rfl (he95.want rfl rfl rfl rfl rfl) rfl (rMost_t pa w90 hU (hT.new hH90.new)) ?_
      intro w96 a97 hn he97
      have hH96 := hH90.call hn
      replace hU := hU.new hn
      clear he95 a95 hH90 hn
      refine lV (.bool false) he97 rfl rfl (he97.want rfl rfl rfl rfl rfl) (rn_neI rfl (he97.op rfl) (he97.op rfl) (by simp) w96) ?_
      intro a98 he98
      clear he97 a97
      refine lW (.bool false) he98 rfl (rn_pk0 rfl (he98.op rfl) (he98.op rfl) w96) ?_
      intro a99 he99
      clear he98 a98
      refine lW (.bool false) he99 rfl (rn_mv rfl (he99.op rfl) w96) ?_
      intro a100 he100
      clear he99 a99
      refine lV (.pointer pa) he100 rfl rfl (he100.want rfl rfl rfl rfl rfl) (rn_mv rfl (he100.op rfl) w96) ?_
      intro a101 he101
      clear he100 a100
      refine lC he101 rfl rfl Tryd.func21 (by kernel_rfl) rfl rfl (he101.want rfl rfl rfl rfl rfl) rfl (rPages_t pa w96 hU (hT.new hH96.new)) ?_
      intro w102 a103 hn he103
      have hH102 := hH96.call hn
      replace hU := hU.new hn
      clear he101 a101 hH96 hn
      refine lV (.bool false) he103 rfl rfl (he103.want rfl rfl rfl rfl rfl) (rn_neI rfl (he103.op rfl) (he103.op rfl) (by simp) w102) ?_
      intro a104 he104
      clear he103 a103
      refine lW (.bool false) he104 rfl (rn_pk0 rfl (he104.op rfl) (he104.op rfl) w102) ?_
      intro a105 he105
      clear he104 a104
      refine lW (.bool false) he105 rfl (rn_mv rfl (he105.op rfl) w102) ?_
      intro a106 he106
      clear he105 a105
      refine lV (.pointer pa) he106 rfl rfl (he106.want rfl rfl rfl rfl rfl) (rn_mv rfl (he106.op rfl) w102) ?_
      intro a107 he107
      clear he106 a106
      refine lC he107 rfl rfl Tryd.func30 (by kernel_rfl) rfl rfl (he107.want rfl rfl rfl rfl rfl) rfl (rCopy_n pa w102 hU (hT.new hH102.new)) ?_
      intro w108 a109 hn he109
      have hH108 := hH102.call hn
      replace hU := hU.new hn
      clear he107 a107 hH102 hn
      refine lV (.bool false) he109 rfl rfl (he109.want rfl rfl rfl rfl rfl) (rn_nePr0 rfl (he109.op rfl) (fun _ => rfl) w108) ?_
      intro a110 he110
      clear he109 a109
      refine lW (.bool false) he110 rfl (rn_pk0 rfl (he110.op rfl) (he110.op rfl) w108) ?_
      intro a111 he111
      clear he110 a110
      refine wpList_nil (then_ok ?_)
      refine wp_cond_false (he111.op rfl) ?_
      refine wp_skip ?_
      refine block_ok ?_
      refine then_ok ?_
      refine wp_region_lit ?_
      refine lW (.int .i64 ((k + 1 : Nat) : Int)) he111 rfl (rn_add1 rfl (he111.op rfl) (he111.op rfl) (by rw [IntWalk.i64_in _ ⟨by omega, by omega⟩]; omega) w108) ?_
      intro a112 he112
      clear he111 a111
      refine lW (.int .i64 ((k + 1 : Nat) : Int)) he112 rfl (rn_mv rfl (he112.op rfl) w108) ?_
      intro a113 he113
      clear he112 a112
      refine wpList_nil (then_ok ?_)
      exact ⟨2 - (k + 1), by omega, k + 1, rfl, by omega, he113.mem ⟨rfl, rfl, rfl, rfl, rfl, rfl, trivial⟩, hH108⟩
    refine wp_seq (wp_region_lit ?_)
    refine lW (.bool false) he25 rfl (rn_lss rfl (he25.op rfl) (he25.op rfl) (decide_eq_false (by omega)) w25) ?_
    intro a114 he114
    clear he25 a25
    refine wpList_nil (then_ok ?_)
    refine wp_seq ?_
    refine wp_cond_false (he114.op rfl) ?_
    refine wp_exit ?_
    simp only [Exit.then, Exit.inBlock, if_true]
    refine wp_seq (wp_region_lit ?_)
    refine lC he114 rfl rfl Tryd.func8 (by kernel_rfl) rfl rfl (wanted_plain rfl _) rfl (known_any w25 (hT.new hH25.new)) ?_
    intro w115 a116 hn he116
    have hH115 := hH25.call hn
    clear he114 a114 hH25 hn
    refine lW (.bool true) he116 rfl (rn_asg rfl (he116.op rfl) w115) ?_
    intro a117 he117
    clear he116 a116
    refine wpList_nil (then_ok ?_)
    refine wp_ret ?_
    try simp only [Exit.then, Exit.inBlock]
    exact ret_env rfl he117 rfl ⟨rfl, hH115.new.new_below⟩

end Go.Proofs.YtlpjhaghphmbeaaDoor
