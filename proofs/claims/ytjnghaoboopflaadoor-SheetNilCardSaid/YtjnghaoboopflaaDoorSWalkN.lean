/-
  SheetNil.
-/
import Derived.Test.YtjnghaoboopflaaDoorSKnown
namespace Go.Proofs.YtjnghaoboopflaaDoor
open Go.RowKit

set_option linter.unusedSimpArgs false in
set_option maxRecDepth 100000 in
set_option maxHeartbeats 1600000 in
theorem sheetNil_walk (n : Int) (x : Value) (l : List Ce) (so : Bool) (w : World) (hx : SlC w x l) (hT : Tab w) :
    Calls Tryd.prog 5 #[.int .i64 n, .agg #[x, .bool so]] w fun e w' => e = .returned (.bool true) ∧ Below w.heap.size w w' := by
  obtain ⟨B, cb, e_⟩ := hx.shape
  subst e_
  refine calls_args (vl := [Value.int .i64 n, Value.agg #[Value.slice B l.length cb, Value.bool so]]) 85 Tryd.func5 rfl Tryd.ntmps5 (by kernel_rfl) (fun a he => ?_)
  have he0 : Env 85 [(0, Value.int .i64 n), (1, Value.agg #[Value.slice B l.length cb, Value.bool so])] a := he
  clear he
  have hH := Hp.start w
  refine wp_seq ?_
  refine wp_region_lit ?_
  refine lNewP (fun p => .pointer (some ⟨p, 0, none⟩)) he0 hH rfl rfl (wanted_plain rfl _) (rn_boxL rfl (he0.op rfl) w) ?_
  intro p1 w1 a2 hp hn hH1 he2
  clear he0 a hH hn hp
  refine lV (Value.bool false) he2 rfl rfl (wanted_plain rfl _) (rn_asg rfl (he2.op rfl) w1) ?_
  intro a3 he3
  clear he2 a2
  refine wpList_nil ?_
  refine then_ok ?_
  by_cases h20 : (20 : Int) < l.length
  · skip
    refine wp_seq ?_
    refine wp_seq ?_
    refine wp_region_lit ?_
    refine lV (Value.pointer (some ⟨p1, 0, none⟩)) he3 rfl rfl (wanted_plain rfl _) (rn_faL0 rfl (he3.op rfl) rfl w1) ?_
    intro a4 he4
    clear he3 a3
    refine lV (Value.slice B l.length cb) he4 rfl rfl (wanted_plain rfl _) (rn_ldS rfl (he4.op rfl) (hH1.at (i := 0) rfl) rfl) ?_
    intro a5 he5
    clear he4 a4
    refine lV (Value.int .i64 (l.length : Nat)) he5 rfl rfl (wanted_plain rfl _) (rn_lenC rfl (he5.op rfl) w1) ?_
    intro a6 he6
    clear he5 a5
    refine lV (Value.bool true) he6 rfl rfl (wanted_plain rfl _) (rn_gtr rfl (he6.op rfl) (he6.op rfl) (decide_eq_true h20) w1) ?_
    intro a7 he7
    clear he6 a6
    refine wpList_nil ?_
    refine then_ok ?_
    refine wp_cond_true (he7.op rfl) ?_
    refine wp_seq ?_
    refine wp_region_lit ?_
    refine lC he7 rfl rfl Tryd.func8 (by kernel_rfl) rfl rfl (wanted_plain rfl _) rfl (known_any w1 (hT.new hH1.new)) ?_
    intro w8 a9 hn he9
    have hH8 := hH1.call hn
    clear he7 a7 hH1 hn
    refine lV (Value.bool true) he9 rfl rfl (wanted_plain rfl _) (rn_asg rfl (he9.op rfl) w8) ?_
    intro a10 he10
    clear he9 a9
    refine wpList_nil ?_
    refine then_ok ?_
    refine wp_ret ?_
    try simp only [Exit.then, Exit.inBlock]
    exact ret_env rfl he10 rfl ⟨rfl, hH8.new.new_below⟩
  · skip
    refine wp_seq ?_
    refine wp_seq ?_
    refine wp_region_lit ?_
    refine lV (Value.pointer (some ⟨p1, 0, none⟩)) he3 rfl rfl (wanted_plain rfl _) (rn_faL0 rfl (he3.op rfl) rfl w1) ?_
    intro a11 he11
    clear he3 a3
    refine lV (Value.slice B l.length cb) he11 rfl rfl (wanted_plain rfl _) (rn_ldS rfl (he11.op rfl) (hH1.at (i := 0) rfl) rfl) ?_
    intro a12 he12
    clear he11 a11
    refine lV (Value.int .i64 (l.length : Nat)) he12 rfl rfl (wanted_plain rfl _) (rn_lenC rfl (he12.op rfl) w1) ?_
    intro a13 he13
    clear he12 a12
    refine lV (Value.bool false) he13 rfl rfl (wanted_plain rfl _) (rn_gtr rfl (he13.op rfl) (he13.op rfl) (decide_eq_false h20) w1) ?_
    intro a14 he14
    clear he13 a13
    refine wpList_nil ?_
    refine then_ok ?_
    refine wp_cond_false (he14.op rfl) ?_
    refine wp_skip ?_
    refine then_ok ?_
    refine wp_seq ?_
    refine wp_region_lit ?_
    refine lV (Value.pointer none) he14 rfl rfl (wanted_plain rfl _) (rn_asg rfl (he14.op rfl) w1) ?_
    intro a15 he15
    clear he14 a14
    refine wpList_nil ?_
    refine then_ok ?_
    refine wp_seq ?_
    refine wp_seq ?_
    refine wp_region_lit ?_
    refine lV (Value.pointer none) he15 rfl rfl (wanted_plain rfl _) (rn_mv rfl (he15.op rfl) w1) ?_
    intro a16 he16
    clear he15 a15
    refine lV (Value.agg #[Value.slice none 0 0, Value.int .i64 0, Value.int .i64 0]) he16 rfl rfl (wanted_plain rfl _) (rn_bS rfl  w1) ?_
    intro a17 he17
    clear he16 a16
    refine lNewP (fun p => .pointer (some ⟨p, 0, none⟩)) he17 hH1 rfl rfl (wanted_plain rfl _) (rn_boxS rfl (he17.op rfl) w1) ?_
    intro p18 w18 a19 hp hn hH18 he19
    clear he17 a17 hH1 hn hp
    refine lNewP (fun p => .slice (some ⟨p, 0, none⟩) 2 2) he19 hH18 rfl rfl (wanted_plain rfl _) (rn_bsP2 rfl (he19.op rfl) (he19.op rfl) w18) ?_
    intro p20 w20 a21 hp hn hH20 he21
    clear he19 a19 hH18 hn hp
    refine lV (Value.int .i64 2) he21 rfl rfl (wanted_plain rfl _) (rn_lenPs rfl (he21.op rfl) w20) ?_
    intro a22 he22
    clear he21 a21
    refine lV (Value.int .i64 0) he22 rfl rfl (wanted_plain rfl _) (rn_mv rfl (he22.op rfl) w20) ?_
    intro a23 he23
    clear he22 a22
    refine wpList_nil ?_
    refine then_ok ?_
    have he24 : Env 85 [(18, Value.int .i64 0), (17, Value.int .i64 2), (16, Value.slice (some ⟨p20, 0, none⟩) 2 2), (3, Value.pointer (some ⟨p1, 0, none⟩)), (0, Value.int .i64 n)] a23 := he23.mem ⟨rfl, rfl, rfl, rfl, rfl, trivial⟩
    clear he23
    as_aux_lemma =>
      refine wp_block ?_
      refine loop_nat (fun q a w' => ∃ (k : Nat), q = 2 - k ∧ k ≤ 2 ∧ Env 85 [(0, Value.int .i64 n), (3, Value.pointer (some ⟨p1, 0, none⟩)), (16, Value.slice (some ⟨p20, 0, none⟩) 2 2), (17, Value.int .i64 (2 : Nat)), (18, Value.int .i64 (k : Nat))] a ∧ Hp w [⟨p20, 25, #[Value.pointer none, Value.pointer (some ⟨p18, 0, none⟩)]⟩, ⟨p18, 51, #[Value.slice none 0 0, Value.int .i64 0, Value.int .i64 0]⟩, ⟨p1, 35, #[Value.slice B l.length cb, Value.bool so]⟩] w') 2 ⟨0, by omega, by omega, he24.mem ⟨rfl, rfl, rfl, rfl, rfl, trivial⟩, hH20⟩ ?_
      clear he24 hH20
      rintro q a25 w25 ⟨k, rfl, hk, he25, hH25⟩
      by_cases hk2 : k < 2
      · skip
        refine wp_seq ?_
        refine wp_region_lit ?_
        refine lV (Value.bool true) he25 rfl rfl (wanted_plain rfl _) (rn_lss rfl (he25.op rfl) (he25.op rfl) (decide_eq_true (by omega)) w25) ?_
        intro a26 he26
        clear he25 a25
        refine wpList_nil ?_
        refine then_ok ?_
        refine wp_seq ?_
        refine wp_cond_true (he26.op rfl) ?_
        refine wp_skip ?_
        refine then_ok ?_
        refine wp_seq ?_
        refine wp_block ?_
        obtain ⟨pa, hpa, hU⟩ : ∃ pa : Option Addr, (#[Value.pointer none, Value.pointer (some ⟨p18, 0, none⟩)] : Array Value)[k]? = some (.pointer pa) ∧ Um w25 pa := by
          rcases (show k = 0 ∨ k = 1 by omega) with rfl | rfl
          · exact ⟨none, rfl, .inl rfl⟩
          · exact ⟨some ⟨p18, 0, none⟩, rfl, .inr ⟨p18, none, 0, 0, 0, rfl, hH25.at (i := 1) rfl⟩⟩
        refine wp_seq ?_
        refine wp_region_lit ?_
        refine lV (Value.pointer (some ⟨p20, k, none⟩)) he26 rfl rfl (wanted_plain rfl _) (rn_idxPs (i := k) rfl (he26.op rfl) (he26.op rfl) hk2 (by rw [addr_add]; simp) w25) ?_
        intro a27 he27
        clear he26 a26
        refine lV (Value.pointer pa) he27 rfl rfl (wanted_plain rfl _) (rn_ldPs rfl (he27.op rfl) (hH25.at (i := 0) rfl) hpa) ?_
        intro a28 he28
        clear he27 a27
        refine lV (Value.pointer pa) he28 rfl rfl (wanted_plain rfl _) (rn_asg rfl (he28.op rfl) w25) ?_
        intro a29 he29
        clear he28 a28
        refine wpList_nil ?_
        refine then_ok ?_
        refine wp_seq ?_
        refine wp_region_lit ?_
        refine lV (Value.pointer pa) he29 rfl rfl (wanted_plain rfl _) (rn_mv rfl (he29.op rfl) w25) ?_
        intro a30 he30
        clear he29 a29
        refine lV (Value.agg #[Value.slice B l.length cb, Value.bool so]) he30 rfl rfl (wanted_plain rfl _) (rn_ldp [Value.slice B l.length cb, Value.bool so] rfl (he30.op rfl) undL rfl infoL2 (hH25.at (i := 2) rfl) rfl) ?_
        intro a31 he31
        clear he30 a30
        refine lC he31 rfl rfl Tryd.func13 (by kernel_rfl) rfl rfl (wanted_plain rfl _) rfl (push_n pa B l.length cb so w25 hU (hT.new hH25.new)) ?_
        intro w32 a33 hn he33
        have hH32 := hH25.call hn
        replace hU := hU.new hn
        clear he31 a31 hH25 hn
        refine lV (Value.bool false) he33 rfl rfl (wanted_plain rfl _) (rn_neE rfl (he33.op rfl) (he33.op rfl) (by simp) w32) ?_
        intro a34 he34
        clear he33 a33
        refine lV (Value.bool false) he34 rfl rfl (wanted_plain rfl _) (rn_mv rfl (he34.op rfl) w32) ?_
        intro a35 he35
        clear he34 a34
        refine lV (Value.pointer pa) he35 rfl rfl (he35.want rfl rfl rfl rfl rfl) (rn_mv rfl (he35.op rfl) w32) ?_
        intro a36 he36
        clear he35 a35
        refine lV (Value.int .i64 n) he36 rfl rfl (he36.want rfl rfl rfl rfl rfl) (rn_mv rfl (he36.op rfl) w32) ?_
        intro a37 he37
        clear he36 a36
        refine lV (Value.agg #[Value.slice B l.length cb, Value.bool so]) he37 rfl rfl (he37.want rfl rfl rfl rfl rfl) (rn_ldp [Value.slice B l.length cb, Value.bool so] rfl (he37.op rfl) undL rfl infoL2 (hH32.at (i := 2) rfl) rfl) ?_
        intro a38 he38
        clear he37 a37
        refine lC he38 rfl rfl Tryd.func21 (by kernel_rfl) rfl rfl (he38.want rfl rfl rfl rfl rfl) rfl (set_n pa n B l.length cb so w32 hU (hT.new hH32.new)) ?_
        intro w39 a40 hn he40
        have hH39 := hH32.call hn
        replace hU := hU.new hn
        clear he38 a38 hH32 hn
        refine lV (Value.bool false) he40 rfl rfl (he40.want rfl rfl rfl rfl rfl) (rn_neE rfl (he40.op rfl) (he40.op rfl) (by simp) w39) ?_
        intro a41 he41
        clear he40 a40
        refine lV (Value.bool false) he41 rfl rfl (wanted_plain rfl _) (rn_pk0 rfl (he41.op rfl) (he41.op rfl) w39) ?_
        intro a42 he42
        clear he41 a41
        refine lV (Value.bool false) he42 rfl rfl (wanted_plain rfl _) (rn_mv rfl (he42.op rfl) w39) ?_
        intro a43 he43
        clear he42 a42
        refine lV (Value.pointer pa) he43 rfl rfl (he43.want rfl rfl rfl rfl rfl) (rn_mv rfl (he43.op rfl) w39) ?_
        intro a44 he44
        clear he43 a43
        refine lV (Value.int .i64 n) he44 rfl rfl (he44.want rfl rfl rfl rfl rfl) (rn_mv rfl (he44.op rfl) w39) ?_
        intro a45 he45
        clear he44 a44
        refine lC he45 rfl rfl Tryd.func16 (by kernel_rfl) rfl rfl (he45.want rfl rfl rfl rfl rfl) rfl (drop_n pa n w39 hU (hT.new hH39.new)) ?_
        intro w46 a47 hn he47
        have hH46 := hH39.call hn
        replace hU := hU.new hn
        clear he45 a45 hH39 hn
        refine lV (Value.bool false) he47 rfl rfl (he47.want rfl rfl rfl rfl rfl) (rn_neE rfl (he47.op rfl) (he47.op rfl) (by simp) w46) ?_
        intro a48 he48
        clear he47 a47
        refine lV (Value.bool false) he48 rfl rfl (wanted_plain rfl _) (rn_pk0 rfl (he48.op rfl) (he48.op rfl) w46) ?_
        intro a49 he49
        clear he48 a48
        refine lV (Value.bool false) he49 rfl rfl (wanted_plain rfl _) (rn_mv rfl (he49.op rfl) w46) ?_
        intro a50 he50
        clear he49 a49
        refine lV (Value.pointer pa) he50 rfl rfl (he50.want rfl rfl rfl rfl rfl) (rn_mv rfl (he50.op rfl) w46) ?_
        intro a51 he51
        clear he50 a50
        refine lV (Value.agg #[Value.slice none 0 0, Value.bool false]) he51 rfl rfl (he51.want rfl rfl rfl rfl rfl) (rn_bL rfl  w46) ?_
        intro a52 he52
        clear he51 a51
        refine lC he52 rfl rfl Tryd.func17 (by kernel_rfl) rfl rfl (he52.want rfl rfl rfl rfl rfl) rfl (pops_n pa w46 hU (hT.new hH46.new)) ?_
        intro w53 a54 hn he54
        have hH53 := hH46.call hn
        replace hU := hU.new hn
        clear he52 a52 hH46 hn
        refine lV (Value.bool false) he54 rfl rfl (he54.want rfl rfl rfl rfl rfl) (rn_not (b := true) rfl (he54.op rfl) w53) ?_
        intro a55 he55
        clear he54 a54
        refine lV (Value.bool false) he55 rfl rfl (wanted_plain rfl _) (rn_pk0 rfl (he55.op rfl) (he55.op rfl) w53) ?_
        intro a56 he56
        clear he55 a55
        refine lV (Value.bool false) he56 rfl rfl (wanted_plain rfl _) (rn_mv rfl (he56.op rfl) w53) ?_
        intro a57 he57
        clear he56 a56
        refine lV (Value.pointer pa) he57 rfl rfl (he57.want rfl rfl rfl rfl rfl) (rn_mv rfl (he57.op rfl) w53) ?_
        intro a58 he58
        clear he57 a57
        refine lV (Value.int .i64 n) he58 rfl rfl (he58.want rfl rfl rfl rfl rfl) (rn_mv rfl (he58.op rfl) w53) ?_
        intro a59 he59
        clear he58 a58
        refine lV (Value.agg #[Value.slice none 0 0, Value.bool false]) he59 rfl rfl (he59.want rfl rfl rfl rfl rfl) (rn_bL rfl  w53) ?_
        intro a60 he60
        clear he59 a59
        refine lC he60 rfl rfl Tryd.func20 (by kernel_rfl) rfl rfl (he60.want rfl rfl rfl rfl rfl) rfl (gets_n pa n w53 hU (hT.new hH53.new)) ?_
        intro w61 a62 hn he62
        have hH61 := hH53.call hn
        replace hU := hU.new hn
        clear he60 a60 hH53 hn
        refine lV (Value.bool false) he62 rfl rfl (he62.want rfl rfl rfl rfl rfl) (rn_not (b := true) rfl (he62.op rfl) w61) ?_
        intro a63 he63
        clear he62 a62
        refine lV (Value.bool false) he63 rfl rfl (wanted_plain rfl _) (rn_pk0 rfl (he63.op rfl) (he63.op rfl) w61) ?_
        intro a64 he64
        clear he63 a63
        refine lV (Value.bool false) he64 rfl rfl (wanted_plain rfl _) (rn_mv rfl (he64.op rfl) w61) ?_
        intro a65 he65
        clear he64 a64
        refine lV (Value.pointer pa) he65 rfl rfl (he65.want rfl rfl rfl rfl rfl) (rn_mv rfl (he65.op rfl) w61) ?_
        intro a66 he66
        clear he65 a65
        refine lC he66 rfl rfl Tryd.func18 (by kernel_rfl) rfl rfl (he66.want rfl rfl rfl rfl rfl) rfl (len_n pa w61 hU (hT.new hH61.new)) ?_
        intro w67 a68 hn he68
        have hH67 := hH61.call hn
        replace hU := hU.new hn
        clear he66 a66 hH61 hn
        refine lV (Value.bool false) he68 rfl rfl (he68.want rfl rfl rfl rfl rfl) (rn_neI rfl (he68.op rfl) (he68.op rfl) (by simp) w67) ?_
        intro a69 he69
        clear he68 a68
        refine lV (Value.bool false) he69 rfl rfl (wanted_plain rfl _) (rn_pk0 rfl (he69.op rfl) (he69.op rfl) w67) ?_
        intro a70 he70
        clear he69 a69
        refine lV (Value.bool false) he70 rfl rfl (wanted_plain rfl _) (rn_mv rfl (he70.op rfl) w67) ?_
        intro a71 he71
        clear he70 a70
        refine lV (Value.pointer pa) he71 rfl rfl (he71.want rfl rfl rfl rfl rfl) (rn_mv rfl (he71.op rfl) w67) ?_
        intro a72 he72
        clear he71 a71
        refine lC he72 rfl rfl Tryd.func22 (by kernel_rfl) rfl rfl (he72.want rfl rfl rfl rfl rfl) rfl (cap_n pa w67 hU (hT.new hH67.new)) ?_
        intro w73 a74 hn he74
        have hH73 := hH67.call hn
        replace hU := hU.new hn
        clear he72 a72 hH67 hn
        refine lV (Value.bool false) he74 rfl rfl (he74.want rfl rfl rfl rfl rfl) (rn_neI rfl (he74.op rfl) (he74.op rfl) (by simp) w73) ?_
        intro a75 he75
        clear he74 a74
        refine lV (Value.bool false) he75 rfl rfl (wanted_plain rfl _) (rn_pk0 rfl (he75.op rfl) (he75.op rfl) w73) ?_
        intro a76 he76
        clear he75 a75
        refine lV (Value.bool false) he76 rfl rfl (wanted_plain rfl _) (rn_mv rfl (he76.op rfl) w73) ?_
        intro a77 he77
        clear he76 a76
        refine lV (Value.pointer pa) he77 rfl rfl (he77.want rfl rfl rfl rfl rfl) (rn_mv rfl (he77.op rfl) w73) ?_
        intro a78 he78
        clear he77 a77
        refine lC he78 rfl rfl Tryd.func15 (by kernel_rfl) rfl rfl (he78.want rfl rfl rfl rfl rfl) rfl (room_n pa w73 hU (hT.new hH73.new)) ?_
        intro w79 a80 hn he80
        have hH79 := hH73.call hn
        replace hU := hU.new hn
        clear he78 a78 hH73 hn
        refine lV (Value.bool false) he80 rfl rfl (he80.want rfl rfl rfl rfl rfl) (rn_neI rfl (he80.op rfl) (he80.op rfl) (by simp) w79) ?_
        intro a81 he81
        clear he80 a80
        refine lV (Value.bool false) he81 rfl rfl (wanted_plain rfl _) (rn_pk0 rfl (he81.op rfl) (he81.op rfl) w79) ?_
        intro a82 he82
        clear he81 a81
        refine lV (Value.bool false) he82 rfl rfl (wanted_plain rfl _) (rn_mv rfl (he82.op rfl) w79) ?_
        intro a83 he83
        clear he82 a82
        refine lV (Value.pointer pa) he83 rfl rfl (he83.want rfl rfl rfl rfl rfl) (rn_mv rfl (he83.op rfl) w79) ?_
        intro a84 he84
        clear he83 a83
        refine lC he84 rfl rfl Tryd.func19 (by kernel_rfl) rfl rfl (he84.want rfl rfl rfl rfl rfl) rfl (gone_n pa w79 hU (hT.new hH79.new)) ?_
        intro w85 a86 hn he86
        have hH85 := hH79.call hn
        replace hU := hU.new hn
        clear he84 a84 hH79 hn
        refine lV (Value.bool false) he86 rfl rfl (he86.want rfl rfl rfl rfl rfl) (rn_neI rfl (he86.op rfl) (he86.op rfl) (by simp) w85) ?_
        intro a87 he87
        clear he86 a86
        refine lV (Value.bool false) he87 rfl rfl (wanted_plain rfl _) (rn_pk0 rfl (he87.op rfl) (he87.op rfl) w85) ?_
        intro a88 he88
        clear he87 a87
        refine lV (Value.bool false) he88 rfl rfl (wanted_plain rfl _) (rn_mv rfl (he88.op rfl) w85) ?_
        intro a89 he89
        clear he88 a88
        refine lV (Value.pointer pa) he89 rfl rfl (he89.want rfl rfl rfl rfl rfl) (rn_mv rfl (he89.op rfl) w85) ?_
        intro a90 he90
        clear he89 a89
        refine lC he90 rfl rfl Tryd.func23 (by kernel_rfl) rfl rfl (he90.want rfl rfl rfl rfl rfl) rfl (lines_n pa w85 hU (hT.new hH85.new)) ?_
        intro w91 a92 hn he92
        have hH91 := hH85.call hn
        replace hU := hU.new hn
        clear he90 a90 hH85 hn
        refine lV (Value.int .i64 0) he92 rfl rfl (he92.want rfl rfl rfl rfl rfl) (rn_lenL rfl (he92.op rfl) w91) ?_
        intro a93 he93
        clear he92 a92
        refine lV (Value.bool false) he93 rfl rfl (he93.want rfl rfl rfl rfl rfl) (rn_neI rfl (he93.op rfl) (he93.op rfl) (by simp) w91) ?_
        intro a94 he94
        clear he93 a93
        refine lV (Value.bool false) he94 rfl rfl (wanted_plain rfl _) (rn_pk0 rfl (he94.op rfl) (he94.op rfl) w91) ?_
        intro a95 he95
        clear he94 a94
        refine lV (Value.bool false) he95 rfl rfl (wanted_plain rfl _) (rn_mv rfl (he95.op rfl) w91) ?_
        intro a96 he96
        clear he95 a95
        refine lV (Value.pointer pa) he96 rfl rfl (he96.want rfl rfl rfl rfl rfl) (rn_mv rfl (he96.op rfl) w91) ?_
        intro a97 he97
        clear he96 a96
        refine lC he97 rfl rfl Tryd.func24 (by kernel_rfl) rfl rfl (he97.want rfl rfl rfl rfl rfl) rfl (copy_n pa w91 hU (hT.new hH91.new)) ?_
        intro w98 a99 hn he99
        have hH98 := hH91.call hn
        replace hU := hU.new hn
        clear he97 a97 hH91 hn
        refine lV (Value.bool false) he99 rfl rfl (he99.want rfl rfl rfl rfl rfl) (rn_neP0 rfl (he99.op rfl) (fun _ => rfl) w98) ?_
        intro a100 he100
        clear he99 a99
        refine lV (Value.bool false) he100 rfl rfl (wanted_plain rfl _) (rn_pk0 rfl (he100.op rfl) (he100.op rfl) w98) ?_
        intro a101 he101
        clear he100 a100
        refine wpList_nil ?_
        refine then_ok ?_
        refine wp_cond_false (he101.op rfl) ?_
        refine wp_skip ?_
        refine block_ok ?_
        refine then_ok ?_
        refine wp_region_lit ?_
        refine lV (Value.int .i64 ((k + 1 : Nat) : Int)) he101 rfl rfl (wanted_plain rfl _) (rn_add1 rfl (he101.op rfl) (he101.op rfl) (by rw [IntWalk.i64_in _ ⟨by omega, by omega⟩]; omega) w98) ?_
        intro a102 he102
        clear he101 a101
        refine lV (Value.int .i64 ((k + 1 : Nat) : Int)) he102 rfl rfl (wanted_plain rfl _) (rn_mv rfl (he102.op rfl) w98) ?_
        intro a103 he103
        clear he102 a102
        refine wpList_nil ?_
        refine then_ok ?_
        exact ⟨2 - (k + 1), by omega, k + 1, rfl, by omega, he103.mem ⟨rfl, rfl, rfl, rfl, rfl, trivial⟩, hH98⟩
      · skip
        refine wp_seq ?_
        refine wp_region_lit ?_
        refine lV (Value.bool false) he25 rfl rfl (wanted_plain rfl _) (rn_lss rfl (he25.op rfl) (he25.op rfl) (decide_eq_false (by omega)) w25) ?_
        intro a104 he104
        clear he25 a25
        refine wpList_nil ?_
        refine then_ok ?_
        refine wp_seq ?_
        refine wp_cond_false (he104.op rfl) ?_
        refine wp_exit ?_
        simp only [Exit.then, Exit.inBlock, if_true]
        refine wp_seq ?_
        refine wp_region_lit ?_
        refine lC he104 rfl rfl Tryd.func8 (by kernel_rfl) rfl rfl (wanted_plain rfl _) rfl (known_any w25 (hT.new hH25.new)) ?_
        intro w105 a106 hn he106
        have hH105 := hH25.call hn
        clear he104 a104 hH25 hn
        refine lV (Value.bool true) he106 rfl rfl (wanted_plain rfl _) (rn_asg rfl (he106.op rfl) w105) ?_
        intro a107 he107
        clear he106 a106
        refine wpList_nil ?_
        refine then_ok ?_
        refine wp_ret ?_
        try simp only [Exit.then, Exit.inBlock]
        exact ret_env rfl he107 rfl ⟨rfl, hH105.new.new_below⟩

end Go.Proofs.YtjnghaoboopflaaDoor
