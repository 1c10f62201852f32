/-
  SheetHolds.
-/
import Derived.Test.YtjnghaoboopflaaDoorSKnown
import Derived.Test.YtjnghaoboopflaaDoorSOpen
namespace Go.Proofs.YtjnghaoboopflaaDoor
open Go.RowKit

theorem ok_rune (i : Nat) (h : i < 60) : okL [tc (1024 + (i : Int))] = true := by
  have h2 : ∀ j : Nat, j < 60 → okL [tc (1024 + (j : Int))] = true := by decide +kernel
  exact h2 i h
set_option linter.unusedSimpArgs false in
set_option maxRecDepth 100000 in
set_option maxHeartbeats 1600000 in
theorem sheetHolds_walk (pl : Int) (hp0 : 0 ≤ pl) (hp9 : pl ≤ 255) (A : Option Addr) (n c : Nat) (zs : List Int) (w : World) (hz : BytesC w A n zs) (hT : Tab w) :
    Calls Tryd.prog 6 #[.int .u8 pl, .slice A n c] w fun e w' => e = .returned (.bool true) ∧ Below w.heap.size w w' := by
  obtain ⟨hzl, hzc, hz2⟩ := hz
  refine calls_args (vl := [Value.int .u8 pl, Value.slice A n c]) 154 Tryd.func6 rfl Tryd.ntmps6 (by kernel_rfl) (fun a he => ?_)
  have he0 : Env 154 [(0, Value.int .u8 pl), (1, Value.slice A n c)] a := he
  clear he
  have hH := Hp.start w
  have hD := Dt.start hT
  refine wp_seq ?_
  refine wp_region_lit ?_
  refine lV (Value.bool false) he0 rfl rfl (wanted_plain rfl _) (rn_asg rfl (he0.op rfl) w) ?_
  intro a1 he1
  clear he0 a
  refine wpList_nil ?_
  refine then_ok ?_
  by_cases h1 : pl < 1
  · skip
    refine wp_seq ?_
    refine wp_seq ?_
    refine wp_region_lit ?_
    refine lV (Value.int .u8 pl) he1 rfl rfl (wanted_plain rfl _) (rn_mv rfl (he1.op rfl) w) ?_
    intro a2 he2
    clear he1 a1
    refine lV (Value.bool true) he2 rfl rfl (wanted_plain rfl _) (rn_ls8 rfl (he2.op rfl) (he2.op rfl) (decide_eq_true h1) w) ?_
    intro a3 he3
    clear he2 a2
    refine lV (Value.bool true) he3 rfl rfl (wanted_plain rfl _) (rn_mv rfl (he3.op rfl) w) ?_
    intro a4 he4
    clear he3 a3
    refine lSkip he4 rfl rfl (he4.wantNot rfl rfl rfl rfl rfl rfl) ?_
    intro a5 he5
    clear he4 a4
    refine lSkip he5 rfl rfl (he5.wantNot rfl rfl rfl rfl rfl rfl) ?_
    intro a6 he6
    clear he5 a5
    refine lV (Value.bool true) he6 rfl rfl (wanted_plain rfl _) (rn_pk rfl (he6.op rfl) (he6.op rfl) w) ?_
    intro a7 he7
    clear he6 a6
    refine lV (Value.bool true) he7 rfl rfl (wanted_plain rfl _) (rn_mv rfl (he7.op rfl) w) ?_
    intro a8 he8
    clear he7 a7
    refine lSkip he8 rfl rfl (he8.wantNot rfl rfl rfl rfl rfl rfl) ?_
    intro a9 he9
    clear he8 a8
    refine lSkip he9 rfl rfl (he9.wantNot rfl rfl rfl rfl rfl rfl) ?_
    intro a10 he10
    clear he9 a9
    refine lSkip he10 rfl rfl (he10.wantNot rfl rfl rfl rfl rfl rfl) ?_
    intro a11 he11
    clear he10 a10
    refine lV (Value.bool true) he11 rfl rfl (wanted_plain rfl _) (rn_pk rfl (he11.op rfl) (he11.op rfl) w) ?_
    intro a12 he12
    clear he11 a11
    refine wpList_nil ?_
    refine then_ok ?_
    refine wp_cond_true (he12.op rfl) ?_
    refine wp_seq ?_
    refine wp_region_lit ?_
    refine lC he12 rfl rfl Tryd.func8 (by kernel_rfl) rfl rfl (wanted_plain rfl _) rfl (known_any w hD.tab) ?_
    intro w13 a14 hn he14
    have hH13 := hH.call hn
    replace hD := (hD).new hn
    clear he12 a12 hH hn
    refine lV (Value.bool true) he14 rfl rfl (wanted_plain rfl _) (rn_asg rfl (he14.op rfl) w13) ?_
    intro a15 he15
    clear he14 a14
    refine wpList_nil ?_
    refine then_ok ?_
    refine wp_ret ?_
    try simp only [Exit.then, Exit.inBlock]
    exact ret_env rfl he15 rfl ⟨rfl, hD.fr.new_below⟩
  · skip
    by_cases h2 : 12 < pl
    · skip
      refine wp_seq ?_
      refine wp_seq ?_
      refine wp_region_lit ?_
      refine lV (Value.int .u8 pl) he1 rfl rfl (wanted_plain rfl _) (rn_mv rfl (he1.op rfl) w) ?_
      intro a16 he16
      clear he1 a1
      refine lV (Value.bool false) he16 rfl rfl (wanted_plain rfl _) (rn_ls8 rfl (he16.op rfl) (he16.op rfl) (decide_eq_false h1) w) ?_
      intro a17 he17
      clear he16 a16
      refine lV (Value.bool false) he17 rfl rfl (wanted_plain rfl _) (rn_mv rfl (he17.op rfl) w) ?_
      intro a18 he18
      clear he17 a17
      refine lV (Value.int .u8 pl) he18 rfl rfl (he18.want rfl rfl rfl rfl rfl) (rn_mv rfl (he18.op rfl) w) ?_
      intro a19 he19
      clear he18 a18
      refine lV (Value.bool true) he19 rfl rfl (he19.want rfl rfl rfl rfl rfl) (rn_gt8 rfl (he19.op rfl) (he19.op rfl) (decide_eq_true h2) w) ?_
      intro a20 he20
      clear he19 a19
      refine lV (Value.bool true) he20 rfl rfl (wanted_plain rfl _) (rn_pk0 rfl (he20.op rfl) (he20.op rfl) w) ?_
      intro a21 he21
      clear he20 a20
      refine lV (Value.bool true) he21 rfl rfl (wanted_plain rfl _) (rn_mv rfl (he21.op rfl) w) ?_
      intro a22 he22
      clear he21 a21
      refine lSkip he22 rfl rfl (he22.wantNot rfl rfl rfl rfl rfl rfl) ?_
      intro a23 he23
      clear he22 a22
      refine lSkip he23 rfl rfl (he23.wantNot rfl rfl rfl rfl rfl rfl) ?_
      intro a24 he24
      clear he23 a23
      refine lSkip he24 rfl rfl (he24.wantNot rfl rfl rfl rfl rfl rfl) ?_
      intro a25 he25
      clear he24 a24
      refine lV (Value.bool true) he25 rfl rfl (wanted_plain rfl _) (rn_pk rfl (he25.op rfl) (he25.op rfl) w) ?_
      intro a26 he26
      clear he25 a25
      refine wpList_nil ?_
      refine then_ok ?_
      refine wp_cond_true (he26.op rfl) ?_
      refine wp_seq ?_
      refine wp_region_lit ?_
      refine lC he26 rfl rfl Tryd.func8 (by kernel_rfl) rfl rfl (wanted_plain rfl _) rfl (known_any w hD.tab) ?_
      intro w27 a28 hn he28
      have hH27 := hH.call hn
      replace hD := (hD).new hn
      clear he26 a26 hH hn
      refine lV (Value.bool true) he28 rfl rfl (wanted_plain rfl _) (rn_asg rfl (he28.op rfl) w27) ?_
      intro a29 he29
      clear he28 a28
      refine wpList_nil ?_
      refine then_ok ?_
      refine wp_ret ?_
      try simp only [Exit.then, Exit.inBlock]
      exact ret_env rfl he29 rfl ⟨rfl, hD.fr.new_below⟩
    · skip
      by_cases h3 : (60 : Int) < n
      · skip
        refine wp_seq ?_
        refine wp_seq ?_
        refine wp_region_lit ?_
        refine lV (Value.int .u8 pl) he1 rfl rfl (wanted_plain rfl _) (rn_mv rfl (he1.op rfl) w) ?_
        intro a30 he30
        clear he1 a1
        refine lV (Value.bool false) he30 rfl rfl (wanted_plain rfl _) (rn_ls8 rfl (he30.op rfl) (he30.op rfl) (decide_eq_false h1) w) ?_
        intro a31 he31
        clear he30 a30
        refine lV (Value.bool false) he31 rfl rfl (wanted_plain rfl _) (rn_mv rfl (he31.op rfl) w) ?_
        intro a32 he32
        clear he31 a31
        refine lV (Value.int .u8 pl) he32 rfl rfl (he32.want rfl rfl rfl rfl rfl) (rn_mv rfl (he32.op rfl) w) ?_
        intro a33 he33
        clear he32 a32
        refine lV (Value.bool false) he33 rfl rfl (he33.want rfl rfl rfl rfl rfl) (rn_gt8 rfl (he33.op rfl) (he33.op rfl) (decide_eq_false h2) w) ?_
        intro a34 he34
        clear he33 a33
        refine lV (Value.bool false) he34 rfl rfl (wanted_plain rfl _) (rn_pk0 rfl (he34.op rfl) (he34.op rfl) w) ?_
        intro a35 he35
        clear he34 a34
        refine lV (Value.bool false) he35 rfl rfl (wanted_plain rfl _) (rn_mv rfl (he35.op rfl) w) ?_
        intro a36 he36
        clear he35 a35
        refine lV (Value.slice A n c) he36 rfl rfl (he36.want rfl rfl rfl rfl rfl) (rn_mv rfl (he36.op rfl) w) ?_
        intro a37 he37
        clear he36 a36
        refine lV (Value.int .i64 (n : Nat)) he37 rfl rfl (he37.want rfl rfl rfl rfl rfl) (rn_lenB8 rfl (he37.op rfl) w) ?_
        intro a38 he38
        clear he37 a37
        refine lV (Value.bool true) he38 rfl rfl (he38.want rfl rfl rfl rfl rfl) (rn_gtr rfl (he38.op rfl) (he38.op rfl) (decide_eq_true h3) w) ?_
        intro a39 he39
        clear he38 a38
        refine lV (Value.bool true) he39 rfl rfl (wanted_plain rfl _) (rn_pk0 rfl (he39.op rfl) (he39.op rfl) w) ?_
        intro a40 he40
        clear he39 a39
        refine wpList_nil ?_
        refine then_ok ?_
        refine wp_cond_true (he40.op rfl) ?_
        refine wp_seq ?_
        refine wp_region_lit ?_
        refine lC he40 rfl rfl Tryd.func8 (by kernel_rfl) rfl rfl (wanted_plain rfl _) rfl (known_any w hD.tab) ?_
        intro w41 a42 hn he42
        have hH41 := hH.call hn
        replace hD := (hD).new hn
        clear he40 a40 hH hn
        refine lV (Value.bool true) he42 rfl rfl (wanted_plain rfl _) (rn_asg rfl (he42.op rfl) w41) ?_
        intro a43 he43
        clear he42 a42
        refine wpList_nil ?_
        refine then_ok ?_
        refine wp_ret ?_
        try simp only [Exit.then, Exit.inBlock]
        exact ret_env rfl he43 rfl ⟨rfl, hD.fr.new_below⟩
      · skip
        refine wp_seq ?_
        refine wp_seq ?_
        refine wp_region_lit ?_
        refine lV (Value.int .u8 pl) he1 rfl rfl (wanted_plain rfl _) (rn_mv rfl (he1.op rfl) w) ?_
        intro a44 he44
        clear he1 a1
        refine lV (Value.bool false) he44 rfl rfl (wanted_plain rfl _) (rn_ls8 rfl (he44.op rfl) (he44.op rfl) (decide_eq_false h1) w) ?_
        intro a45 he45
        clear he44 a44
        refine lV (Value.bool false) he45 rfl rfl (wanted_plain rfl _) (rn_mv rfl (he45.op rfl) w) ?_
        intro a46 he46
        clear he45 a45
        refine lV (Value.int .u8 pl) he46 rfl rfl (he46.want rfl rfl rfl rfl rfl) (rn_mv rfl (he46.op rfl) w) ?_
        intro a47 he47
        clear he46 a46
        refine lV (Value.bool false) he47 rfl rfl (he47.want rfl rfl rfl rfl rfl) (rn_gt8 rfl (he47.op rfl) (he47.op rfl) (decide_eq_false h2) w) ?_
        intro a48 he48
        clear he47 a47
        refine lV (Value.bool false) he48 rfl rfl (wanted_plain rfl _) (rn_pk0 rfl (he48.op rfl) (he48.op rfl) w) ?_
        intro a49 he49
        clear he48 a48
        refine lV (Value.bool false) he49 rfl rfl (wanted_plain rfl _) (rn_mv rfl (he49.op rfl) w) ?_
        intro a50 he50
        clear he49 a49
        refine lV (Value.slice A n c) he50 rfl rfl (he50.want rfl rfl rfl rfl rfl) (rn_mv rfl (he50.op rfl) w) ?_
        intro a51 he51
        clear he50 a50
        refine lV (Value.int .i64 (n : Nat)) he51 rfl rfl (he51.want rfl rfl rfl rfl rfl) (rn_lenB8 rfl (he51.op rfl) w) ?_
        intro a52 he52
        clear he51 a51
        refine lV (Value.bool false) he52 rfl rfl (he52.want rfl rfl rfl rfl rfl) (rn_gtr rfl (he52.op rfl) (he52.op rfl) (decide_eq_false h3) w) ?_
        intro a53 he53
        clear he52 a52
        refine lV (Value.bool false) he53 rfl rfl (wanted_plain rfl _) (rn_pk0 rfl (he53.op rfl) (he53.op rfl) w) ?_
        intro a54 he54
        clear he53 a53
        refine wpList_nil ?_
        refine then_ok ?_
        refine wp_cond_false (he54.op rfl) ?_
        refine wp_skip ?_
        refine then_ok ?_
        obtain ⟨m, rfl⟩ : ∃ m : Nat, pl = m := ⟨pl.toNat, by omega⟩
        have hm1 : 1 ≤ m := by omega
        have hm9 : m ≤ 12 := by omega
        refine wp_seq ?_
        refine wp_region_lit ?_
        refine lV (Value.int .u8 (m : Int)) he54 rfl rfl (wanted_plain rfl _) (rn_mv rfl (he54.op rfl) w) ?_
        intro a55 he55
        clear he54 a54
        refine lV (Value.int .i64 (m : Int)) he55 rfl rfl (wanted_plain rfl _) (rn_cv8I rfl (he55.op rfl) (IntWalk.i64_in _ ⟨by omega, by omega⟩) w) ?_
        intro a56 he56
        clear he55 a55
        refine lCx he56 rfl rfl Tryd.func9 (by kernel_rfl) rfl rfl (wanted_plain rfl _) rfl (new_ok m hm1 (by omega) w hD.tab) ?_
        rintro _ w57 ⟨ps, rfl, ht⟩
        have hD2 := hD.made ht
        have hH57 := hH.call ht.new
        clear hD
        have hD := hD2
        clear hD2 ht
        refine ⟨_, rfl, ?_⟩
        intro a58 he58
        clear he56 a56 hH
        refine lV (Value.tuple #[Value.pointer (some ⟨ps, 0, none⟩), Value.int .i64 0]) he58 rfl rfl (wanted_plain rfl _) (rn_mv rfl (he58.op rfl) w57) ?_
        intro a59 he59
        clear he58 a58
        refine lV (Value.pointer (some ⟨ps, 0, none⟩)) he59 rfl rfl (wanted_plain rfl _) (rn_ext rfl (he59.op rfl) rfl w57) ?_
        intro a60 he60
        clear he59 a59
        refine lV (Value.int .i64 0) he60 rfl rfl (wanted_plain rfl _) (rn_ext rfl (he60.op rfl) rfl w57) ?_
        intro a61 he61
        clear he60 a60
        refine lV (Value.pointer (some ⟨ps, 0, none⟩)) he61 rfl rfl (wanted_plain rfl _) (rn_asg rfl (he61.op rfl) w57) ?_
        intro a62 he62
        clear he61 a61
        refine lV (Value.int .i64 0) he62 rfl rfl (wanted_plain rfl _) (rn_asg rfl (he62.op rfl) w57) ?_
        intro a63 he63
        clear he62 a62
        refine wpList_nil ?_
        refine then_ok ?_
        refine wp_seq ?_
        refine wp_seq ?_
        refine wp_region_lit ?_
        refine lV (Value.pointer (some ⟨ps, 0, none⟩)) he63 rfl rfl (wanted_plain rfl _) (rn_mv rfl (he63.op rfl) w57) ?_
        intro a64 he64
        clear he63 a63
        refine lV (Value.bool false) he64 rfl rfl (wanted_plain rfl _) (rn_eqP1 rfl (he64.op rfl) (fun _ => rfl) w57) ?_
        intro a65 he65
        clear he64 a64
        refine lV (Value.bool false) he65 rfl rfl (wanted_plain rfl _) (rn_mv rfl (he65.op rfl) w57) ?_
        intro a66 he66
        clear he65 a65
        refine lV (Value.int .i64 0) he66 rfl rfl (he66.want rfl rfl rfl rfl rfl) (rn_mv rfl (he66.op rfl) w57) ?_
        intro a67 he67
        clear he66 a66
        refine lV (Value.bool false) he67 rfl rfl (he67.want rfl rfl rfl rfl rfl) (rn_neE rfl (he67.op rfl) (he67.op rfl) (by simp) w57) ?_
        intro a68 he68
        clear he67 a67
        refine lV (Value.bool false) he68 rfl rfl (wanted_plain rfl _) (rn_pk0 rfl (he68.op rfl) (he68.op rfl) w57) ?_
        intro a69 he69
        clear he68 a68
        refine wpList_nil ?_
        refine then_ok ?_
        refine wp_cond_false (he69.op rfl) ?_
        refine wp_skip ?_
        refine then_ok ?_
        refine wp_seq ?_
        refine wp_region_lit ?_
        refine lV (Value.slice none 0 0) he69 rfl rfl (wanted_plain rfl _) (rn_asg rfl (he69.op rfl) w57) ?_
        intro a70 he70
        clear he69 a69
        refine wpList_nil ?_
        refine then_ok ?_
        have he71 : Env 154 [(7, Value.slice none 0 0), (5, Value.pointer (some ⟨ps, 0, none⟩)), (0, Value.int .u8 (m : Int)), (1, Value.slice A n c)] a70 := he70.mem ⟨rfl, rfl, rfl, rfl, trivial⟩
        clear he70
        as_aux_lemma =>
          replace hD := Dt.front (A := []) (B := [rdD (.slice none 0 0) []]) (D := [shD ps [] m 0]) hD (fun G h => SepL.one (d := rdD _ _) (LnsF.nil _ _))
          replace hD := hD.pick 1 rfl
          refine wp_seq ?_
          refine wp_seq ?_
          refine wp_region_lit ?_
          refine lV (Value.slice A n c) he71 rfl rfl (wanted_plain rfl _) (rn_mv rfl (he71.op rfl) w57) ?_
          intro a72 he72
          clear he71 a70
          refine lV (Value.int .i64 (n : Nat)) he72 rfl rfl (wanted_plain rfl _) (rn_lenB8 rfl (he72.op rfl) w57) ?_
          intro a73 he73
          clear he72 a72
          refine lV (Value.int .i64 0) he73 rfl rfl (wanted_plain rfl _) (rn_mv rfl (he73.op rfl) w57) ?_
          intro a74 he74
          clear he73 a73
          refine wpList_nil ?_
          refine then_ok ?_
          have he75 : Env 154 [(41, Value.int .i64 0), (40, Value.int .i64 (n : Nat)), (39, Value.slice A n c), (7, Value.slice none 0 0), (5, Value.pointer (some ⟨ps, 0, none⟩)), (0, Value.int .u8 (m : Int))] a74 := he74.mem ⟨rfl, rfl, rfl, rfl, rfl, rfl, trivial⟩
          clear he74
          refine wp_block ?_
          refine loop_nat (fun q a w' => ∃ (k gn : Nat) (L : List Ln) (R : Option Addr) (rc : Nat), q = n - k ∧ k ≤ n ∧ Env 154 [(0, Value.int .u8 (m : Int)), (5, Value.pointer (some ⟨ps, 0, none⟩)), (7, Value.slice R L.length rc), (39, Value.slice A n c), (40, Value.int .i64 (n : Nat)), (41, Value.int .i64 (k : Int))] a ∧ Hp w [] w' ∧ Dt w w (fun _ => False) 0 [] [shD ps L m gn, rdD (.slice R L.length rc) L] w') n ⟨0, 0, [], none, 0, by omega, by omega, he75.mem ⟨rfl, rfl, rfl, rfl, rfl, rfl, trivial⟩, hH57, hD⟩ ?_
          clear he75 hH57
          rintro q a76 w76 ⟨k, gn, L, R, rc, rfl, hk, he76, hH76, hD⟩
          by_cases hkn : k < n
          · skip
            refine wp_seq ?_
            refine wp_region_lit ?_
            refine lV (Value.bool true) he76 rfl rfl (wanted_plain rfl _) (rn_lss rfl (he76.op rfl) (he76.op rfl) (decide_eq_true (by omega)) w76) ?_
            intro a77 he77
            clear he76 a76
            refine wpList_nil ?_
            refine then_ok ?_
            refine wp_seq ?_
            refine wp_cond_true (he77.op rfl) ?_
            refine wp_skip ?_
            refine then_ok ?_
            obtain ⟨bz, oz, eA, hbz, hcz⟩ := hzc (by omega)
            subst eA
            obtain ⟨y, hy⟩ : ∃ y, zs[k]? = some y := ⟨_, List.getElem?_eq_getElem (by omega)⟩
            have hyb := hz2 y (List.mem_of_getElem? hy)
            have hcell := hcz k y hy
            refine wp_seq ?_
            refine wp_block ?_
            refine wp_seq ?_
            refine wp_region_lit ?_
            refine lV (Value.int .i64 (k : Int)) he77 rfl rfl (wanted_plain rfl _) (rn_mv rfl (he77.op rfl) w76) ?_
            intro a78 he78
            clear he77 a77
            refine lV (Value.pointer (some ⟨bz, oz + k, none⟩)) he78 rfl rfl (wanted_plain rfl _) (rn_idxB8 (i := k) rfl (he78.op rfl) (he78.op rfl) hkn (by rw [addr_add, Nat.mul_one]) w76) ?_
            intro a79 he79
            clear he78 a78
            refine lV (Value.int .u8 y) he79 rfl rfl (wanted_plain rfl _) (rn_ldB8 rfl (he79.op rfl) ((hD.fr.cell (p := ⟨bz, oz + k, none⟩) hbz (fun h => h)).trans hcell)) ?_
            intro a80 he80
            clear he79 a79
            refine lV (Value.int .i64 (k : Int)) he80 rfl rfl (wanted_plain rfl _) (rn_asg rfl (he80.op rfl) w76) ?_
            intro a81 he81
            clear he80 a80
            refine lV (Value.int .u8 y) he81 rfl rfl (wanted_plain rfl _) (rn_asg rfl (he81.op rfl) w76) ?_
            intro a82 he82
            clear he81 a81
            refine wpList_nil ?_
            refine then_ok ?_
            have hok := sh_ok (hD.get (i := 0) rfl).choose_spec
            have hpg := hok.2.2.1
            have hLb := hok.big
            obtain ⟨full, hfull⟩ : ∃ b, decide (m - gn - L.length = 0) = b := ⟨_, rfl⟩
            refine wp_seq ?_
            refine wp_region_lit ?_
            refine lV (Value.pointer (some ⟨ps, 0, none⟩)) he82 rfl rfl (wanted_plain rfl _) (rn_mv rfl (he82.op rfl) w76) ?_
            intro a83 he83
            clear he82 a82
            obtain ⟨Fs_, hs_⟩ := hD.get (i := 0) rfl
            refine lC he83 rfl rfl Tryd.func15 (by kernel_rfl) rfl rfl (wanted_plain rfl _) rfl (room_b ps m gn L Fs_ w76 hs_ hD.tab) ?_
            intro w84 a85 hn he85
            have hH84 := hH76.call hn
            replace hD := (hD).new hn
            clear he83 a83 hH76 hn
            clear hs_ Fs_
            refine lV (Value.bool full) he85 rfl rfl (wanted_plain rfl _) (rn_eqI rfl (he85.op rfl) (he85.op rfl) (by rw [← hfull]; rw [Bool.eq_iff_iff]; simp) w84) ?_
            intro a86 he86
            clear he85 a85
            refine lV (Value.bool full) he86 rfl rfl (wanted_plain rfl _) (rn_asg rfl (he86.op rfl) w84) ?_
            intro a87 he87
            clear he86 a86
            refine wpList_nil ?_
            refine then_ok ?_
            have he88 : Env 154 [(10, Value.bool full), (9, Value.int .u8 y), (8, Value.int .i64 (k : Int)), (0, Value.int .u8 (m : Int)), (5, Value.pointer (some ⟨ps, 0, none⟩)), (7, Value.slice R L.length rc), (39, Value.slice (some ⟨bz, oz, none⟩) n c), (40, Value.int .i64 (n : Nat)), (41, Value.int .i64 (k : Int))] a87 := he87.mem ⟨rfl, rfl, rfl, rfl, rfl, rfl, rfl, rfl, rfl, trivial⟩
            clear he87
            as_aux_lemma =>
              refine wp_seq ?_
              refine wp_seq ?_
              refine wp_region_lit ?_
              refine lV (Value.int .u8 y) he88 rfl rfl (wanted_plain rfl _) (rn_mv rfl (he88.op rfl) w84) ?_
              intro a89 he89
              clear he88 a87
              refine lV (Value.int .u8 (y % 4)) he89 rfl rfl (wanted_plain rfl _) (rn_rem8 rfl (he89.op rfl) (he89.op rfl) (by decide) (Int.tmod_eq_emod_of_nonneg hyb.1) w84) ?_
              intro a90 he90
              clear he89 a89
              refine wpList_nil ?_
              refine then_ok ?_
              have he91 : Env 154 [(50, Value.int .u8 (y % 4)), (10, Value.bool full), (9, Value.int .u8 y), (8, Value.int .i64 (k : Int)), (0, Value.int .u8 (m : Int)), (5, Value.pointer (some ⟨ps, 0, none⟩)), (7, Value.slice R L.length rc), (39, Value.slice (some ⟨bz, oz, none⟩) n c), (40, Value.int .i64 (n : Nat)), (41, Value.int .i64 (k : Int))] a90 := he90.mem ⟨rfl, rfl, rfl, rfl, rfl, rfl, rfl, rfl, rfl, rfl, trivial⟩
              clear he90
              refine wp_block ?_
              by_cases hb2 : y % 4 = 2
              · skip
                refine wp_seq ?_
                refine wp_region_lit ?_
                refine lV (Value.bool true) he91 rfl rfl (wanted_plain rfl _) (rn_eq8 rfl (he91.op rfl) (he91.op rfl) (by simp [hb2]) w84) ?_
                intro a92 he92
                clear he91 a90
                refine lV (Value.bool true) he92 rfl rfl (wanted_plain rfl _) (rn_asg rfl (he92.op rfl) w84) ?_
                intro a93 he93
                clear he92 a92
                refine wpList_nil ?_
                refine then_ok ?_
                refine wp_cond_true (he93.op rfl) ?_
                obtain ⟨dn, hdn⟩ : ∃ d : Nat, (y / 4) % 4 = d := ⟨((y / 4) % 4).toNat, by omega⟩
                have hq4 : IntKind.u8.wrap (y.tdiv 4) = y / 4 := by rw [Int.tdiv_eq_ediv_of_nonneg hyb.1]; exact IntWalk.u8_in _ ⟨by omega, by omega⟩
                have hq5 : (y / 4).tmod 4 = dn := by rw [Int.tmod_eq_emod_of_nonneg (by omega)]; exact hdn
                refine wp_seq ?_
                refine wp_region_lit ?_
                refine lV (Value.int .u8 y) he93 rfl rfl (wanted_plain rfl _) (rn_mv rfl (he93.op rfl) w84) ?_
                intro a94 he94
                clear he93 a93
                refine lV (Value.int .u8 (y / 4)) he94 rfl rfl (wanted_plain rfl _) (rn_quo8 rfl (he94.op rfl) (he94.op rfl) (by decide) hq4 w84) ?_
                intro a95 he95
                clear he94 a94
                refine lV (Value.int .i64 (y / 4)) he95 rfl rfl (wanted_plain rfl _) (rn_cv8I rfl (he95.op rfl) (IntWalk.i64_in _ ⟨by omega, by omega⟩) w84) ?_
                intro a96 he96
                clear he95 a95
                refine lV (Value.int .i64 (dn : Int)) he96 rfl rfl (wanted_plain rfl _) (rn_remI rfl (he96.op rfl) (he96.op rfl) (by decide) hq5 w84) ?_
                intro a97 he97
                clear he96 a96
                refine lV (Value.int .i64 (dn : Int)) he97 rfl rfl (wanted_plain rfl _) (rn_asg rfl (he97.op rfl) w84) ?_
                intro a98 he98
                clear he97 a97
                refine wpList_nil ?_
                refine then_ok ?_
                by_cases hdl : dn ≤ L.length
                · skip
                  have hds : dropS L gn dn = (L.drop dn, gn + dn, 0) := by unfold dropS; rw [if_pos (by omega)]; simp
                  refine wp_seq ?_
                  refine wp_seq ?_
                  refine wp_region_lit ?_
                  refine lV (Value.pointer (some ⟨ps, 0, none⟩)) he98 rfl rfl (wanted_plain rfl _) (rn_mv rfl (he98.op rfl) w84) ?_
                  intro a99 he99
                  clear he98 a98
                  refine lV (Value.int .i64 (dn : Int)) he99 rfl rfl (wanted_plain rfl _) (rn_mv rfl (he99.op rfl) w84) ?_
                  intro a100 he100
                  clear he99 a99
                  obtain ⟨F_, hsep, hF, hstep⟩ := Dt.step (A := [shD ps L m gn]) (D := [rdD (.slice R L.length rc) L]) hD
                  refine lCx he100 rfl rfl Tryd.func16 (by kernel_rfl) rfl rfl (wanted_plain rfl _) rfl ((hds ▸ drop_b F_ ps m gn L dn w84 hsep.the hF hD.tab)) ?_
                  rintro _ w101 ⟨rfl, ht⟩
                  obtain ⟨hD2, hHs⟩ := hstep _ _ ht
                  have hH101 := hHs _ rfl hH84
                  clear hHs hstep hsep hF
                  clear hD
                  have hD := hD2
                  clear hD2 ht
                  refine ⟨_, rfl, ?_⟩
                  intro a102 he102
                  clear he100 a100 hH84
                  refine lV (Value.bool true) he102 rfl rfl (wanted_plain rfl _) (rn_eqE rfl (he102.op rfl) (he102.op rfl) (by simp) w101) ?_
                  intro a103 he103
                  clear he102 a102
                  refine lV (Value.int .i64 (dn : Int)) he103 rfl rfl (wanted_plain rfl _) (rn_mv rfl (he103.op rfl) w101) ?_
                  intro a104 he104
                  clear he103 a103
                  refine lV (Value.slice R L.length rc) he104 rfl rfl (wanted_plain rfl _) (rn_mv rfl (he104.op rfl) w101) ?_
                  intro a105 he105
                  clear he104 a104
                  refine lV (Value.int .i64 (L.length : Nat)) he105 rfl rfl (wanted_plain rfl _) (rn_lenL rfl (he105.op rfl) w101) ?_
                  intro a106 he106
                  clear he105 a105
                  refine lV (Value.bool true) he106 rfl rfl (wanted_plain rfl _) (rn_leq rfl (he106.op rfl) (he106.op rfl) (decide_eq_true (by omega)) w101) ?_
                  intro a107 he107
                  clear he106 a106
                  refine lV (Value.bool false) he107 rfl rfl (wanted_plain rfl _) (rn_neB rfl (he107.op rfl) (he107.op rfl) (by simp) w101) ?_
                  intro a108 he108
                  clear he107 a107
                  refine wpList_nil ?_
                  refine then_ok ?_
                  refine wp_cond_false (he108.op rfl) ?_
                  refine wp_skip ?_
                  refine then_ok ?_
                  refine wp_seq ?_
                  refine wp_region_lit ?_
                  refine lV (Value.int .i64 (dn : Int)) he108 rfl rfl (wanted_plain rfl _) (rn_mv rfl (he108.op rfl) w101) ?_
                  intro a109 he109
                  clear he108 a108
                  refine lV (Value.slice R L.length rc) he109 rfl rfl (wanted_plain rfl _) (rn_mv rfl (he109.op rfl) w101) ?_
                  intro a110 he110
                  clear he109 a109
                  refine lV (Value.int .i64 (L.length : Nat)) he110 rfl rfl (wanted_plain rfl _) (rn_lenL rfl (he110.op rfl) w101) ?_
                  intro a111 he111
                  clear he110 a110
                  refine lV (Value.bool true) he111 rfl rfl (wanted_plain rfl _) (rn_leq rfl (he111.op rfl) (he111.op rfl) (decide_eq_true (by omega)) w101) ?_
                  intro a112 he112
                  clear he111 a111
                  refine wpList_nil ?_
                  refine then_ok ?_
                  refine wp_cond_true (he112.op rfl) ?_
                  obtain ⟨ba, xa, hlc, hrd, -⟩ := (hD.pick 1 rfl).rdS
                  obtain ⟨R3, e3, hr3⟩ := rdg_l hrd hdl hlc
                  have e4 : sliced R dn L.length rc 2 = .slice R3 (L.drop dn).length (rc - dn) := by rw [List.length_drop]; exact e3
                  refine wp_region_lit ?_
                  refine lV (Value.slice R L.length rc) he112 rfl rfl (wanted_plain rfl _) (rn_mv rfl (he112.op rfl) w101) ?_
                  intro a113 he113
                  clear he112 a112
                  refine lV (Value.int .i64 (dn : Int)) he113 rfl rfl (wanted_plain rfl _) (rn_mv rfl (he113.op rfl) w101) ?_
                  intro a114 he114
                  clear he113 a113
                  refine lV (Value.slice R3 (L.drop dn).length (rc - dn)) he114 rfl rfl (wanted_plain rfl _) (rg_cutl (R := rL) (k := dn) rfl (he114.op rfl) (he114.op rfl) hdl e4 w101) ?_
                  intro a115 he115
                  clear he114 a114
                  refine lV (Value.slice R3 (L.drop dn).length (rc - dn)) he115 rfl rfl (wanted_plain rfl _) (rn_asg rfl (he115.op rfl) w101) ?_
                  intro a116 he116
                  clear he115 a115
                  refine wpList_nil ?_
                  replace hD := hD.pick 1 rfl
                  replace hD := Dt.front (A := [rdD (.slice R L.length rc) L]) (B := [rdD (.slice R3 (L.drop dn).length (rc - dn)) (L.drop dn)]) (D := [shD ps (L.drop dn) m (gn + dn)]) hD (fun G h => rd_cutl e4 hdl h)
                  refine block_ok ?_
                  refine then_ok ?_
                  have he117 : Env 154 [(7, Value.slice R3 (L.drop dn).length (rc - dn)), (10, Value.bool full), (8, Value.int .i64 (k : Int)), (0, Value.int .u8 (m : Int)), (5, Value.pointer (some ⟨ps, 0, none⟩)), (39, Value.slice (some ⟨bz, oz, none⟩) n c), (40, Value.int .i64 (n : Nat)), (41, Value.int .i64 (k : Int))] a116 := he116.mem ⟨rfl, rfl, rfl, rfl, rfl, rfl, rfl, rfl, trivial⟩
                  clear he116
                  have hok2 := sh_ok (hD.get (i := 1) rfl).choose_spec
                  have hpg2 := hok2.2.2.1
                  have hLb2 := hok2.big
                  have hll2 := hok2.len
                  obtain ⟨f2, hf2⟩ : ∃ b, full = b := ⟨_, rfl⟩
                  cases f2 with
                  | false =>
                    rw [hf2] at he117
                    refine wp_seq ?_
                    refine wp_region_lit ?_
                    refine lV (Value.bool false) he117 rfl rfl (wanted_plain rfl _) (rn_mv rfl (he117.op rfl) w101) ?_
                    intro a118 he118
                    clear he117 a116
                    refine lV (Value.bool false) he118 rfl rfl (wanted_plain rfl _) (rn_mv rfl (he118.op rfl) w101) ?_
                    intro a119 he119
                    clear he118 a118
                    refine lSkip he119 rfl rfl (he119.wantNot rfl rfl rfl rfl rfl rfl) ?_
                    intro a120 he120
                    clear he119 a119
                    refine lSkip he120 rfl rfl (he120.wantNot rfl rfl rfl rfl rfl rfl) ?_
                    intro a121 he121
                    clear he120 a120
                    refine lSkip he121 rfl rfl (he121.wantNot rfl rfl rfl rfl rfl rfl) ?_
                    intro a122 he122
                    clear he121 a121
                    refine lV (Value.bool false) he122 rfl rfl (wanted_plain rfl _) (rn_pk0 rfl (he122.op rfl) (he122.op rfl) w101) ?_
                    intro a123 he123
                    clear he122 a122
                    refine lV (Value.bool false) he123 rfl rfl (wanted_plain rfl _) (rn_mv rfl (he123.op rfl) w101) ?_
                    intro a124 he124
                    clear he123 a123
                    refine lV (Value.pointer (some ⟨ps, 0, none⟩)) he124 rfl rfl (he124.want rfl rfl rfl rfl rfl) (rn_mv rfl (he124.op rfl) w101) ?_
                    intro a125 he125
                    clear he124 a124
                    obtain ⟨Fs_, hs_⟩ := hD.get (i := 1) rfl
                    refine lC he125 rfl rfl Tryd.func18 (by kernel_rfl) rfl rfl (he125.want rfl rfl rfl rfl rfl) rfl (lenS_b Fs_ ps m (gn + dn) (L.drop dn) w101 hs_ hD.tab) ?_
                    intro w126 a127 hn he127
                    have hH126 := hH101.call hn
                    replace hD := (hD).new hn
                    clear he125 a125 hH101 hn
                    clear hs_ Fs_
                    refine lV (Value.pointer (some ⟨ps, 0, none⟩)) he127 rfl rfl (he127.want rfl rfl rfl rfl rfl) (rn_mv rfl (he127.op rfl) w126) ?_
                    intro a128 he128
                    clear he127 a127
                    obtain ⟨Fs_, hs_⟩ := hD.get (i := 1) rfl
                    refine lC he128 rfl rfl Tryd.func15 (by kernel_rfl) rfl rfl (he128.want rfl rfl rfl rfl rfl) rfl (room_b ps m (gn + dn) (L.drop dn) Fs_ w126 hs_ hD.tab) ?_
                    intro w129 a130 hn he130
                    have hH129 := hH126.call hn
                    replace hD := (hD).new hn
                    clear he128 a128 hH126 hn
                    clear hs_ Fs_
                    refine lV (Value.int .i64 (((L.drop dn).length : Int) + ((m - (gn + dn) - (L.drop dn).length : Nat) : Int))) he130 rfl rfl (he130.want rfl rfl rfl rfl rfl) (rn_add1 rfl (he130.op rfl) (he130.op rfl) (by rw [IntWalk.i64_in _ ⟨by omega, by omega⟩]) w129) ?_
                    intro a131 he131
                    clear he130 a130
                    refine lV (Value.pointer (some ⟨ps, 0, none⟩)) he131 rfl rfl (he131.want rfl rfl rfl rfl rfl) (rn_mv rfl (he131.op rfl) w129) ?_
                    intro a132 he132
                    clear he131 a131
                    obtain ⟨Fs_, hs_⟩ := hD.get (i := 1) rfl
                    refine lC he132 rfl rfl Tryd.func19 (by kernel_rfl) rfl rfl (he132.want rfl rfl rfl rfl rfl) rfl (goneS_b Fs_ ps m (gn + dn) (L.drop dn) w129 hs_ hD.tab) ?_
                    intro w133 a134 hn he134
                    have hH133 := hH129.call hn
                    replace hD := (hD).new hn
                    clear he132 a132 hH129 hn
                    clear hs_ Fs_
                    refine lV (Value.int .i64 (m : Int)) he134 rfl rfl (he134.want rfl rfl rfl rfl rfl) (rn_add1 rfl (he134.op rfl) (he134.op rfl) (by rw [IntWalk.i64_in _ ⟨by omega, by omega⟩]; omega) w133) ?_
                    intro a135 he135
                    clear he134 a134
                    refine lV (Value.pointer (some ⟨ps, 0, none⟩)) he135 rfl rfl (he135.want rfl rfl rfl rfl rfl) (rn_mv rfl (he135.op rfl) w133) ?_
                    intro a136 he136
                    clear he135 a135
                    obtain ⟨Fs_, hs_⟩ := hD.get (i := 1) rfl
                    refine lC he136 rfl rfl Tryd.func22 (by kernel_rfl) rfl rfl (he136.want rfl rfl rfl rfl rfl) rfl (capS_b Fs_ ps m (gn + dn) (L.drop dn) w133 hs_ hD.tab) ?_
                    intro w137 a138 hn he138
                    have hH137 := hH133.call hn
                    replace hD := (hD).new hn
                    clear he136 a136 hH133 hn
                    clear hs_ Fs_
                    refine lV (Value.bool false) he138 rfl rfl (he138.want rfl rfl rfl rfl rfl) (rn_neI rfl (he138.op rfl) (he138.op rfl) (by simp) w137) ?_
                    intro a139 he139
                    clear he138 a138
                    refine lV (Value.bool false) he139 rfl rfl (wanted_plain rfl _) (rn_pk0 rfl (he139.op rfl) (he139.op rfl) w137) ?_
                    intro a140 he140
                    clear he139 a139
                    refine lV (Value.bool false) he140 rfl rfl (wanted_plain rfl _) (rn_mv rfl (he140.op rfl) w137) ?_
                    intro a141 he141
                    clear he140 a140
                    refine lV (Value.pointer (some ⟨ps, 0, none⟩)) he141 rfl rfl (he141.want rfl rfl rfl rfl rfl) (rn_mv rfl (he141.op rfl) w137) ?_
                    intro a142 he142
                    clear he141 a141
                    obtain ⟨Fs_, hs_⟩ := hD.get (i := 1) rfl
                    refine lC he142 rfl rfl Tryd.func22 (by kernel_rfl) rfl rfl (he142.want rfl rfl rfl rfl rfl) rfl (capS_b Fs_ ps m (gn + dn) (L.drop dn) w137 hs_ hD.tab) ?_
                    intro w143 a144 hn he144
                    have hH143 := hH137.call hn
                    replace hD := (hD).new hn
                    clear he142 a142 hH137 hn
                    clear hs_ Fs_
                    refine lV (Value.int .u8 (m : Int)) he144 rfl rfl (he144.want rfl rfl rfl rfl rfl) (rn_mv rfl (he144.op rfl) w143) ?_
                    intro a145 he145
                    clear he144 a144
                    refine lV (Value.int .i64 (m : Int)) he145 rfl rfl (he145.want rfl rfl rfl rfl rfl) (rn_cv8I rfl (he145.op rfl) (IntWalk.i64_in _ ⟨by omega, by omega⟩) w143) ?_
                    intro a146 he146
                    clear he145 a145
                    refine lV (Value.bool false) he146 rfl rfl (he146.want rfl rfl rfl rfl rfl) (rn_neI rfl (he146.op rfl) (he146.op rfl) (by simp) w143) ?_
                    intro a147 he147
                    clear he146 a146
                    refine lV (Value.bool false) he147 rfl rfl (wanted_plain rfl _) (rn_pk0 rfl (he147.op rfl) (he147.op rfl) w143) ?_
                    intro a148 he148
                    clear he147 a147
                    refine lV (Value.bool false) he148 rfl rfl (wanted_plain rfl _) (rn_mv rfl (he148.op rfl) w143) ?_
                    intro a149 he149
                    clear he148 a148
                    refine lV (Value.pointer (some ⟨ps, 0, none⟩)) he149 rfl rfl (he149.want rfl rfl rfl rfl rfl) (rn_mv rfl (he149.op rfl) w143) ?_
                    intro a150 he150
                    clear he149 a149
                    obtain ⟨Fs_, hs_⟩ := hD.get (i := 1) rfl
                    refine lCx he150 rfl rfl Tryd.func23 (by kernel_rfl) rfl rfl (he150.want rfl rfl rfl rfl rfl) rfl (lines_b _ ps m (gn + dn) (L.drop dn) w143 hs_ hD.tab) ?_
                    rintro _ w151 ⟨A9, c9, rfl, ht⟩
                    have hD2 := hD.made ht
                    have hH151 := hH143.call ht.new
                    clear hD
                    have hD := hD2
                    clear hD2 ht
                    refine ⟨_, rfl, ?_⟩
                    intro a152 he152
                    clear he150 a150 hH143
                    refine lV (Value.slice R3 (L.drop dn).length (rc - dn)) he152 rfl rfl (he152.want rfl rfl rfl rfl rfl) (rn_mv rfl (he152.op rfl) w151) ?_
                    intro a153 he153
                    clear he152 a152
                    refine lC he153 rfl rfl Tryd.func27 (by kernel_rfl) rfl rfl (he153.want rfl rfl rfl rfl rfl) rfl (all_b _ _ (L.drop dn) (L.drop dn) true (by simp) hLb2 hLb2 (by omega) (by omega) w151 (lines_lns (hD.get (i := 0) rfl).choose_spec).r (LnsF.r (hD.get (i := 1) rfl).choose_spec)) ?_
                    intro w154 a155 hn he155
                    have hH154 := hH151.call hn
                    replace hD := (hD).new hn
                    clear he153 a153 hH151 hn
                    refine lV (Value.bool false) he155 rfl rfl (he155.want rfl rfl rfl rfl rfl) (rn_not (b := true) rfl (he155.op rfl) w154) ?_
                    intro a156 he156
                    clear he155 a155
                    refine lV (Value.bool false) he156 rfl rfl (wanted_plain rfl _) (rn_pk0 rfl (he156.op rfl) (he156.op rfl) w154) ?_
                    intro a157 he157
                    clear he156 a156
                    refine wpList_nil ?_
                    refine then_ok ?_
                    refine wp_cond_false (he157.op rfl) ?_
                    refine wp_skip ?_
                    refine block_ok ?_
                    refine then_ok ?_
                    refine wp_region_lit ?_
                    refine lV (Value.int .i64 ((k + 1 : Nat) : Int)) he157 rfl rfl (wanted_plain rfl _) (rn_add1 rfl (he157.op rfl) (he157.op rfl) (by rw [IntWalk.i64_in _ ⟨by omega, by omega⟩]; omega) w154) ?_
                    intro a158 he158
                    clear he157 a157
                    refine lV (Value.int .i64 ((k + 1 : Nat) : Int)) he158 rfl rfl (wanted_plain rfl _) (rn_mv rfl (he158.op rfl) w154) ?_
                    intro a159 he159
                    clear he158 a158
                    refine wpList_nil ?_
                    refine then_ok ?_
                    replace hD := hD.pick 1 rfl
                    replace hD := hD.pick 2 rfl
                    exact ⟨n - (k + 1), by omega, k + 1, (gn + dn), (L.drop dn), R3, (rc - dn), rfl, by omega, he159.mem ⟨rfl, rfl, rfl, rfl, rfl, rfl, trivial⟩, hH154, Dt.first (A := [shD ps (L.drop dn) m (gn + dn), rdD (.slice R3 (L.drop dn).length (rc - dn)) (L.drop dn)]) hD⟩
                  | true =>
                    have hroom : m - (gn + dn) - (L.drop dn).length = 0 := (by have h_ := of_decide_eq_true (hfull.trans hf2); rw [List.length_drop]; omega)
                    rw [hf2] at he117
                    refine wp_seq ?_
                    refine wp_region_lit ?_
                    refine lV (Value.bool true) he117 rfl rfl (wanted_plain rfl _) (rn_mv rfl (he117.op rfl) w101) ?_
                    intro a160 he160
                    clear he117 a116
                    refine lV (Value.bool true) he160 rfl rfl (wanted_plain rfl _) (rn_mv rfl (he160.op rfl) w101) ?_
                    intro a161 he161
                    clear he160 a160
                    refine lV (Value.pointer (some ⟨ps, 0, none⟩)) he161 rfl rfl (he161.want rfl rfl rfl rfl rfl) (rn_mv rfl (he161.op rfl) w101) ?_
                    intro a162 he162
                    clear he161 a161
                    obtain ⟨Fs_, hs_⟩ := hD.get (i := 1) rfl
                    refine lC he162 rfl rfl Tryd.func15 (by kernel_rfl) rfl rfl (he162.want rfl rfl rfl rfl rfl) rfl (room_b ps m (gn + dn) (L.drop dn) Fs_ w101 hs_ hD.tab) ?_
                    intro w163 a164 hn he164
                    have hH163 := hH101.call hn
                    replace hD := (hD).new hn
                    clear he162 a162 hH101 hn
                    clear hs_ Fs_
                    refine lV (Value.bool false) he164 rfl rfl (he164.want rfl rfl rfl rfl rfl) (rn_neI rfl (he164.op rfl) (he164.op rfl) (by rw [hroom]; rfl) w163) ?_
                    intro a165 he165
                    clear he164 a164
                    refine lV (Value.bool false) he165 rfl rfl (wanted_plain rfl _) (rn_pk rfl (he165.op rfl) (he165.op rfl) w163) ?_
                    intro a166 he166
                    clear he165 a165
                    refine lV (Value.bool false) he166 rfl rfl (wanted_plain rfl _) (rn_mv rfl (he166.op rfl) w163) ?_
                    intro a167 he167
                    clear he166 a166
                    refine lV (Value.pointer (some ⟨ps, 0, none⟩)) he167 rfl rfl (he167.want rfl rfl rfl rfl rfl) (rn_mv rfl (he167.op rfl) w163) ?_
                    intro a168 he168
                    clear he167 a167
                    obtain ⟨Fs_, hs_⟩ := hD.get (i := 1) rfl
                    refine lC he168 rfl rfl Tryd.func18 (by kernel_rfl) rfl rfl (he168.want rfl rfl rfl rfl rfl) rfl (lenS_b Fs_ ps m (gn + dn) (L.drop dn) w163 hs_ hD.tab) ?_
                    intro w169 a170 hn he170
                    have hH169 := hH163.call hn
                    replace hD := (hD).new hn
                    clear he168 a168 hH163 hn
                    clear hs_ Fs_
                    refine lV (Value.pointer (some ⟨ps, 0, none⟩)) he170 rfl rfl (he170.want rfl rfl rfl rfl rfl) (rn_mv rfl (he170.op rfl) w169) ?_
                    intro a171 he171
                    clear he170 a170
                    obtain ⟨Fs_, hs_⟩ := hD.get (i := 1) rfl
                    refine lC he171 rfl rfl Tryd.func15 (by kernel_rfl) rfl rfl (he171.want rfl rfl rfl rfl rfl) rfl (room_b ps m (gn + dn) (L.drop dn) Fs_ w169 hs_ hD.tab) ?_
                    intro w172 a173 hn he173
                    have hH172 := hH169.call hn
                    replace hD := (hD).new hn
                    clear he171 a171 hH169 hn
                    clear hs_ Fs_
                    refine lV (Value.int .i64 (((L.drop dn).length : Int) + ((m - (gn + dn) - (L.drop dn).length : Nat) : Int))) he173 rfl rfl (he173.want rfl rfl rfl rfl rfl) (rn_add1 rfl (he173.op rfl) (he173.op rfl) (by rw [IntWalk.i64_in _ ⟨by omega, by omega⟩]) w172) ?_
                    intro a174 he174
                    clear he173 a173
                    refine lV (Value.pointer (some ⟨ps, 0, none⟩)) he174 rfl rfl (he174.want rfl rfl rfl rfl rfl) (rn_mv rfl (he174.op rfl) w172) ?_
                    intro a175 he175
                    clear he174 a174
                    obtain ⟨Fs_, hs_⟩ := hD.get (i := 1) rfl
                    refine lC he175 rfl rfl Tryd.func19 (by kernel_rfl) rfl rfl (he175.want rfl rfl rfl rfl rfl) rfl (goneS_b Fs_ ps m (gn + dn) (L.drop dn) w172 hs_ hD.tab) ?_
                    intro w176 a177 hn he177
                    have hH176 := hH172.call hn
                    replace hD := (hD).new hn
                    clear he175 a175 hH172 hn
                    clear hs_ Fs_
                    refine lV (Value.int .i64 (m : Int)) he177 rfl rfl (he177.want rfl rfl rfl rfl rfl) (rn_add1 rfl (he177.op rfl) (he177.op rfl) (by rw [IntWalk.i64_in _ ⟨by omega, by omega⟩]; omega) w176) ?_
                    intro a178 he178
                    clear he177 a177
                    refine lV (Value.pointer (some ⟨ps, 0, none⟩)) he178 rfl rfl (he178.want rfl rfl rfl rfl rfl) (rn_mv rfl (he178.op rfl) w176) ?_
                    intro a179 he179
                    clear he178 a178
                    obtain ⟨Fs_, hs_⟩ := hD.get (i := 1) rfl
                    refine lC he179 rfl rfl Tryd.func22 (by kernel_rfl) rfl rfl (he179.want rfl rfl rfl rfl rfl) rfl (capS_b Fs_ ps m (gn + dn) (L.drop dn) w176 hs_ hD.tab) ?_
                    intro w180 a181 hn he181
                    have hH180 := hH176.call hn
                    replace hD := (hD).new hn
                    clear he179 a179 hH176 hn
                    clear hs_ Fs_
                    refine lV (Value.bool false) he181 rfl rfl (he181.want rfl rfl rfl rfl rfl) (rn_neI rfl (he181.op rfl) (he181.op rfl) (by simp) w180) ?_
                    intro a182 he182
                    clear he181 a181
                    refine lV (Value.bool false) he182 rfl rfl (wanted_plain rfl _) (rn_pk0 rfl (he182.op rfl) (he182.op rfl) w180) ?_
                    intro a183 he183
                    clear he182 a182
                    refine lV (Value.bool false) he183 rfl rfl (wanted_plain rfl _) (rn_mv rfl (he183.op rfl) w180) ?_
                    intro a184 he184
                    clear he183 a183
                    refine lV (Value.pointer (some ⟨ps, 0, none⟩)) he184 rfl rfl (he184.want rfl rfl rfl rfl rfl) (rn_mv rfl (he184.op rfl) w180) ?_
                    intro a185 he185
                    clear he184 a184
                    obtain ⟨Fs_, hs_⟩ := hD.get (i := 1) rfl
                    refine lC he185 rfl rfl Tryd.func22 (by kernel_rfl) rfl rfl (he185.want rfl rfl rfl rfl rfl) rfl (capS_b Fs_ ps m (gn + dn) (L.drop dn) w180 hs_ hD.tab) ?_
                    intro w186 a187 hn he187
                    have hH186 := hH180.call hn
                    replace hD := (hD).new hn
                    clear he185 a185 hH180 hn
                    clear hs_ Fs_
                    refine lV (Value.int .u8 (m : Int)) he187 rfl rfl (he187.want rfl rfl rfl rfl rfl) (rn_mv rfl (he187.op rfl) w186) ?_
                    intro a188 he188
                    clear he187 a187
                    refine lV (Value.int .i64 (m : Int)) he188 rfl rfl (he188.want rfl rfl rfl rfl rfl) (rn_cv8I rfl (he188.op rfl) (IntWalk.i64_in _ ⟨by omega, by omega⟩) w186) ?_
                    intro a189 he189
                    clear he188 a188
                    refine lV (Value.bool false) he189 rfl rfl (he189.want rfl rfl rfl rfl rfl) (rn_neI rfl (he189.op rfl) (he189.op rfl) (by simp) w186) ?_
                    intro a190 he190
                    clear he189 a189
                    refine lV (Value.bool false) he190 rfl rfl (wanted_plain rfl _) (rn_pk0 rfl (he190.op rfl) (he190.op rfl) w186) ?_
                    intro a191 he191
                    clear he190 a190
                    refine lV (Value.bool false) he191 rfl rfl (wanted_plain rfl _) (rn_mv rfl (he191.op rfl) w186) ?_
                    intro a192 he192
                    clear he191 a191
                    refine lV (Value.pointer (some ⟨ps, 0, none⟩)) he192 rfl rfl (he192.want rfl rfl rfl rfl rfl) (rn_mv rfl (he192.op rfl) w186) ?_
                    intro a193 he193
                    clear he192 a192
                    obtain ⟨Fs_, hs_⟩ := hD.get (i := 1) rfl
                    refine lCx he193 rfl rfl Tryd.func23 (by kernel_rfl) rfl rfl (he193.want rfl rfl rfl rfl rfl) rfl (lines_b _ ps m (gn + dn) (L.drop dn) w186 hs_ hD.tab) ?_
                    rintro _ w194 ⟨A9, c9, rfl, ht⟩
                    have hD2 := hD.made ht
                    have hH194 := hH186.call ht.new
                    clear hD
                    have hD := hD2
                    clear hD2 ht
                    refine ⟨_, rfl, ?_⟩
                    intro a195 he195
                    clear he193 a193 hH186
                    refine lV (Value.slice R3 (L.drop dn).length (rc - dn)) he195 rfl rfl (he195.want rfl rfl rfl rfl rfl) (rn_mv rfl (he195.op rfl) w194) ?_
                    intro a196 he196
                    clear he195 a195
                    refine lC he196 rfl rfl Tryd.func27 (by kernel_rfl) rfl rfl (he196.want rfl rfl rfl rfl rfl) rfl (all_b _ _ (L.drop dn) (L.drop dn) true (by simp) hLb2 hLb2 (by omega) (by omega) w194 (lines_lns (hD.get (i := 0) rfl).choose_spec).r (LnsF.r (hD.get (i := 1) rfl).choose_spec)) ?_
                    intro w197 a198 hn he198
                    have hH197 := hH194.call hn
                    replace hD := (hD).new hn
                    clear he196 a196 hH194 hn
                    refine lV (Value.bool false) he198 rfl rfl (he198.want rfl rfl rfl rfl rfl) (rn_not (b := true) rfl (he198.op rfl) w197) ?_
                    intro a199 he199
                    clear he198 a198
                    refine lV (Value.bool false) he199 rfl rfl (wanted_plain rfl _) (rn_pk0 rfl (he199.op rfl) (he199.op rfl) w197) ?_
                    intro a200 he200
                    clear he199 a199
                    refine wpList_nil ?_
                    refine then_ok ?_
                    refine wp_cond_false (he200.op rfl) ?_
                    refine wp_skip ?_
                    refine block_ok ?_
                    refine then_ok ?_
                    refine wp_region_lit ?_
                    refine lV (Value.int .i64 ((k + 1 : Nat) : Int)) he200 rfl rfl (wanted_plain rfl _) (rn_add1 rfl (he200.op rfl) (he200.op rfl) (by rw [IntWalk.i64_in _ ⟨by omega, by omega⟩]; omega) w197) ?_
                    intro a201 he201
                    clear he200 a200
                    refine lV (Value.int .i64 ((k + 1 : Nat) : Int)) he201 rfl rfl (wanted_plain rfl _) (rn_mv rfl (he201.op rfl) w197) ?_
                    intro a202 he202
                    clear he201 a201
                    refine wpList_nil ?_
                    refine then_ok ?_
                    replace hD := hD.pick 1 rfl
                    replace hD := hD.pick 2 rfl
                    exact ⟨n - (k + 1), by omega, k + 1, (gn + dn), (L.drop dn), R3, (rc - dn), rfl, by omega, he202.mem ⟨rfl, rfl, rfl, rfl, rfl, rfl, trivial⟩, hH197, Dt.first (A := [shD ps (L.drop dn) m (gn + dn), rdD (.slice R3 (L.drop dn).length (rc - dn)) (L.drop dn)]) hD⟩
                · skip
                  have hds : dropS L gn dn = (L, gn, 3) := by unfold dropS; rw [if_neg (by omega)]
                  refine wp_seq ?_
                  refine wp_seq ?_
                  refine wp_region_lit ?_
                  refine lV (Value.pointer (some ⟨ps, 0, none⟩)) he98 rfl rfl (wanted_plain rfl _) (rn_mv rfl (he98.op rfl) w84) ?_
                  intro a203 he203
                  clear he98 a98
                  refine lV (Value.int .i64 (dn : Int)) he203 rfl rfl (wanted_plain rfl _) (rn_mv rfl (he203.op rfl) w84) ?_
                  intro a204 he204
                  clear he203 a203
                  obtain ⟨F_, hsep, hF, hstep⟩ := Dt.step (A := [shD ps L m gn]) (D := [rdD (.slice R L.length rc) L]) hD
                  refine lCx he204 rfl rfl Tryd.func16 (by kernel_rfl) rfl rfl (wanted_plain rfl _) rfl ((hds ▸ drop_b F_ ps m gn L dn w84 hsep.the hF hD.tab)) ?_
                  rintro _ w205 ⟨rfl, ht⟩
                  obtain ⟨hD2, hHs⟩ := hstep _ _ ht
                  have hH205 := hHs _ rfl hH84
                  clear hHs hstep hsep hF
                  clear hD
                  have hD := hD2
                  clear hD2 ht
                  refine ⟨_, rfl, ?_⟩
                  intro a206 he206
                  clear he204 a204 hH84
                  refine lV (Value.bool false) he206 rfl rfl (wanted_plain rfl _) (rn_eqE rfl (he206.op rfl) (he206.op rfl) (by simp) w205) ?_
                  intro a207 he207
                  clear he206 a206
                  refine lV (Value.int .i64 (dn : Int)) he207 rfl rfl (wanted_plain rfl _) (rn_mv rfl (he207.op rfl) w205) ?_
                  intro a208 he208
                  clear he207 a207
                  refine lV (Value.slice R L.length rc) he208 rfl rfl (wanted_plain rfl _) (rn_mv rfl (he208.op rfl) w205) ?_
                  intro a209 he209
                  clear he208 a208
                  refine lV (Value.int .i64 (L.length : Nat)) he209 rfl rfl (wanted_plain rfl _) (rn_lenL rfl (he209.op rfl) w205) ?_
                  intro a210 he210
                  clear he209 a209
                  refine lV (Value.bool false) he210 rfl rfl (wanted_plain rfl _) (rn_leq rfl (he210.op rfl) (he210.op rfl) (decide_eq_false (by omega)) w205) ?_
                  intro a211 he211
                  clear he210 a210
                  refine lV (Value.bool false) he211 rfl rfl (wanted_plain rfl _) (rn_neB rfl (he211.op rfl) (he211.op rfl) (by simp) w205) ?_
                  intro a212 he212
                  clear he211 a211
                  refine wpList_nil ?_
                  refine then_ok ?_
                  refine wp_cond_false (he212.op rfl) ?_
                  refine wp_skip ?_
                  refine then_ok ?_
                  refine wp_seq ?_
                  refine wp_region_lit ?_
                  refine lV (Value.int .i64 (dn : Int)) he212 rfl rfl (wanted_plain rfl _) (rn_mv rfl (he212.op rfl) w205) ?_
                  intro a213 he213
                  clear he212 a212
                  refine lV (Value.slice R L.length rc) he213 rfl rfl (wanted_plain rfl _) (rn_mv rfl (he213.op rfl) w205) ?_
                  intro a214 he214
                  clear he213 a213
                  refine lV (Value.int .i64 (L.length : Nat)) he214 rfl rfl (wanted_plain rfl _) (rn_lenL rfl (he214.op rfl) w205) ?_
                  intro a215 he215
                  clear he214 a214
                  refine lV (Value.bool false) he215 rfl rfl (wanted_plain rfl _) (rn_leq rfl (he215.op rfl) (he215.op rfl) (decide_eq_false (by omega)) w205) ?_
                  intro a216 he216
                  clear he215 a215
                  refine wpList_nil ?_
                  refine then_ok ?_
                  refine wp_cond_false (he216.op rfl) ?_
                  refine wp_skip ?_
                  refine block_ok ?_
                  refine then_ok ?_
                  have he217 : Env 154 [(10, Value.bool full), (8, Value.int .i64 (k : Int)), (0, Value.int .u8 (m : Int)), (5, Value.pointer (some ⟨ps, 0, none⟩)), (7, Value.slice R L.length rc), (39, Value.slice (some ⟨bz, oz, none⟩) n c), (40, Value.int .i64 (n : Nat)), (41, Value.int .i64 (k : Int))] a216 := he216.mem ⟨rfl, rfl, rfl, rfl, rfl, rfl, rfl, rfl, trivial⟩
                  clear he216
                  have hok2 := sh_ok (hD.get (i := 0) rfl).choose_spec
                  have hpg2 := hok2.2.2.1
                  have hLb2 := hok2.big
                  have hll2 := hok2.len
                  obtain ⟨f2, hf2⟩ : ∃ b, full = b := ⟨_, rfl⟩
                  cases f2 with
                  | false =>
                    rw [hf2] at he217
                    refine wp_seq ?_
                    refine wp_region_lit ?_
                    refine lV (Value.bool false) he217 rfl rfl (wanted_plain rfl _) (rn_mv rfl (he217.op rfl) w205) ?_
                    intro a218 he218
                    clear he217 a216
                    refine lV (Value.bool false) he218 rfl rfl (wanted_plain rfl _) (rn_mv rfl (he218.op rfl) w205) ?_
                    intro a219 he219
                    clear he218 a218
                    refine lSkip he219 rfl rfl (he219.wantNot rfl rfl rfl rfl rfl rfl) ?_
                    intro a220 he220
                    clear he219 a219
                    refine lSkip he220 rfl rfl (he220.wantNot rfl rfl rfl rfl rfl rfl) ?_
                    intro a221 he221
                    clear he220 a220
                    refine lSkip he221 rfl rfl (he221.wantNot rfl rfl rfl rfl rfl rfl) ?_
                    intro a222 he222
                    clear he221 a221
                    refine lV (Value.bool false) he222 rfl rfl (wanted_plain rfl _) (rn_pk0 rfl (he222.op rfl) (he222.op rfl) w205) ?_
                    intro a223 he223
                    clear he222 a222
                    refine lV (Value.bool false) he223 rfl rfl (wanted_plain rfl _) (rn_mv rfl (he223.op rfl) w205) ?_
                    intro a224 he224
                    clear he223 a223
                    refine lV (Value.pointer (some ⟨ps, 0, none⟩)) he224 rfl rfl (he224.want rfl rfl rfl rfl rfl) (rn_mv rfl (he224.op rfl) w205) ?_
                    intro a225 he225
                    clear he224 a224
                    obtain ⟨Fs_, hs_⟩ := hD.get (i := 0) rfl
                    refine lC he225 rfl rfl Tryd.func18 (by kernel_rfl) rfl rfl (he225.want rfl rfl rfl rfl rfl) rfl (lenS_b Fs_ ps m gn L w205 hs_ hD.tab) ?_
                    intro w226 a227 hn he227
                    have hH226 := hH205.call hn
                    replace hD := (hD).new hn
                    clear he225 a225 hH205 hn
                    clear hs_ Fs_
                    refine lV (Value.pointer (some ⟨ps, 0, none⟩)) he227 rfl rfl (he227.want rfl rfl rfl rfl rfl) (rn_mv rfl (he227.op rfl) w226) ?_
                    intro a228 he228
                    clear he227 a227
                    obtain ⟨Fs_, hs_⟩ := hD.get (i := 0) rfl
                    refine lC he228 rfl rfl Tryd.func15 (by kernel_rfl) rfl rfl (he228.want rfl rfl rfl rfl rfl) rfl (room_b ps m gn L Fs_ w226 hs_ hD.tab) ?_
                    intro w229 a230 hn he230
                    have hH229 := hH226.call hn
                    replace hD := (hD).new hn
                    clear he228 a228 hH226 hn
                    clear hs_ Fs_
                    refine lV (Value.int .i64 ((L.length : Int) + ((m - gn - L.length : Nat) : Int))) he230 rfl rfl (he230.want rfl rfl rfl rfl rfl) (rn_add1 rfl (he230.op rfl) (he230.op rfl) (by rw [IntWalk.i64_in _ ⟨by omega, by omega⟩]) w229) ?_
                    intro a231 he231
                    clear he230 a230
                    refine lV (Value.pointer (some ⟨ps, 0, none⟩)) he231 rfl rfl (he231.want rfl rfl rfl rfl rfl) (rn_mv rfl (he231.op rfl) w229) ?_
                    intro a232 he232
                    clear he231 a231
                    obtain ⟨Fs_, hs_⟩ := hD.get (i := 0) rfl
                    refine lC he232 rfl rfl Tryd.func19 (by kernel_rfl) rfl rfl (he232.want rfl rfl rfl rfl rfl) rfl (goneS_b Fs_ ps m gn L w229 hs_ hD.tab) ?_
                    intro w233 a234 hn he234
                    have hH233 := hH229.call hn
                    replace hD := (hD).new hn
                    clear he232 a232 hH229 hn
                    clear hs_ Fs_
                    refine lV (Value.int .i64 (m : Int)) he234 rfl rfl (he234.want rfl rfl rfl rfl rfl) (rn_add1 rfl (he234.op rfl) (he234.op rfl) (by rw [IntWalk.i64_in _ ⟨by omega, by omega⟩]; omega) w233) ?_
                    intro a235 he235
                    clear he234 a234
                    refine lV (Value.pointer (some ⟨ps, 0, none⟩)) he235 rfl rfl (he235.want rfl rfl rfl rfl rfl) (rn_mv rfl (he235.op rfl) w233) ?_
                    intro a236 he236
                    clear he235 a235
                    obtain ⟨Fs_, hs_⟩ := hD.get (i := 0) rfl
                    refine lC he236 rfl rfl Tryd.func22 (by kernel_rfl) rfl rfl (he236.want rfl rfl rfl rfl rfl) rfl (capS_b Fs_ ps m gn L w233 hs_ hD.tab) ?_
                    intro w237 a238 hn he238
                    have hH237 := hH233.call hn
                    replace hD := (hD).new hn
                    clear he236 a236 hH233 hn
                    clear hs_ Fs_
                    refine lV (Value.bool false) he238 rfl rfl (he238.want rfl rfl rfl rfl rfl) (rn_neI rfl (he238.op rfl) (he238.op rfl) (by simp) w237) ?_
                    intro a239 he239
                    clear he238 a238
                    refine lV (Value.bool false) he239 rfl rfl (wanted_plain rfl _) (rn_pk0 rfl (he239.op rfl) (he239.op rfl) w237) ?_
                    intro a240 he240
                    clear he239 a239
                    refine lV (Value.bool false) he240 rfl rfl (wanted_plain rfl _) (rn_mv rfl (he240.op rfl) w237) ?_
                    intro a241 he241
                    clear he240 a240
                    refine lV (Value.pointer (some ⟨ps, 0, none⟩)) he241 rfl rfl (he241.want rfl rfl rfl rfl rfl) (rn_mv rfl (he241.op rfl) w237) ?_
                    intro a242 he242
                    clear he241 a241
                    obtain ⟨Fs_, hs_⟩ := hD.get (i := 0) rfl
                    refine lC he242 rfl rfl Tryd.func22 (by kernel_rfl) rfl rfl (he242.want rfl rfl rfl rfl rfl) rfl (capS_b Fs_ ps m gn L w237 hs_ hD.tab) ?_
                    intro w243 a244 hn he244
                    have hH243 := hH237.call hn
                    replace hD := (hD).new hn
                    clear he242 a242 hH237 hn
                    clear hs_ Fs_
                    refine lV (Value.int .u8 (m : Int)) he244 rfl rfl (he244.want rfl rfl rfl rfl rfl) (rn_mv rfl (he244.op rfl) w243) ?_
                    intro a245 he245
                    clear he244 a244
                    refine lV (Value.int .i64 (m : Int)) he245 rfl rfl (he245.want rfl rfl rfl rfl rfl) (rn_cv8I rfl (he245.op rfl) (IntWalk.i64_in _ ⟨by omega, by omega⟩) w243) ?_
                    intro a246 he246
                    clear he245 a245
                    refine lV (Value.bool false) he246 rfl rfl (he246.want rfl rfl rfl rfl rfl) (rn_neI rfl (he246.op rfl) (he246.op rfl) (by simp) w243) ?_
                    intro a247 he247
                    clear he246 a246
                    refine lV (Value.bool false) he247 rfl rfl (wanted_plain rfl _) (rn_pk0 rfl (he247.op rfl) (he247.op rfl) w243) ?_
                    intro a248 he248
                    clear he247 a247
                    refine lV (Value.bool false) he248 rfl rfl (wanted_plain rfl _) (rn_mv rfl (he248.op rfl) w243) ?_
                    intro a249 he249
                    clear he248 a248
                    refine lV (Value.pointer (some ⟨ps, 0, none⟩)) he249 rfl rfl (he249.want rfl rfl rfl rfl rfl) (rn_mv rfl (he249.op rfl) w243) ?_
                    intro a250 he250
                    clear he249 a249
                    obtain ⟨Fs_, hs_⟩ := hD.get (i := 0) rfl
                    refine lCx he250 rfl rfl Tryd.func23 (by kernel_rfl) rfl rfl (he250.want rfl rfl rfl rfl rfl) rfl (lines_b _ ps m gn L w243 hs_ hD.tab) ?_
                    rintro _ w251 ⟨A9, c9, rfl, ht⟩
                    have hD2 := hD.made ht
                    have hH251 := hH243.call ht.new
                    clear hD
                    have hD := hD2
                    clear hD2 ht
                    refine ⟨_, rfl, ?_⟩
                    intro a252 he252
                    clear he250 a250 hH243
                    refine lV (Value.slice R L.length rc) he252 rfl rfl (he252.want rfl rfl rfl rfl rfl) (rn_mv rfl (he252.op rfl) w251) ?_
                    intro a253 he253
                    clear he252 a252
                    refine lC he253 rfl rfl Tryd.func27 (by kernel_rfl) rfl rfl (he253.want rfl rfl rfl rfl rfl) rfl (all_b _ _ L L true (by simp) hLb2 hLb2 (by omega) (by omega) w251 (lines_lns (hD.get (i := 0) rfl).choose_spec).r (LnsF.r (hD.get (i := 2) rfl).choose_spec)) ?_
                    intro w254 a255 hn he255
                    have hH254 := hH251.call hn
                    replace hD := (hD).new hn
                    clear he253 a253 hH251 hn
                    refine lV (Value.bool false) he255 rfl rfl (he255.want rfl rfl rfl rfl rfl) (rn_not (b := true) rfl (he255.op rfl) w254) ?_
                    intro a256 he256
                    clear he255 a255
                    refine lV (Value.bool false) he256 rfl rfl (wanted_plain rfl _) (rn_pk0 rfl (he256.op rfl) (he256.op rfl) w254) ?_
                    intro a257 he257
                    clear he256 a256
                    refine wpList_nil ?_
                    refine then_ok ?_
                    refine wp_cond_false (he257.op rfl) ?_
                    refine wp_skip ?_
                    refine block_ok ?_
                    refine then_ok ?_
                    refine wp_region_lit ?_
                    refine lV (Value.int .i64 ((k + 1 : Nat) : Int)) he257 rfl rfl (wanted_plain rfl _) (rn_add1 rfl (he257.op rfl) (he257.op rfl) (by rw [IntWalk.i64_in _ ⟨by omega, by omega⟩]; omega) w254) ?_
                    intro a258 he258
                    clear he257 a257
                    refine lV (Value.int .i64 ((k + 1 : Nat) : Int)) he258 rfl rfl (wanted_plain rfl _) (rn_mv rfl (he258.op rfl) w254) ?_
                    intro a259 he259
                    clear he258 a258
                    refine wpList_nil ?_
                    refine then_ok ?_
                    replace hD := hD.pick 2 rfl
                    replace hD := hD.pick 2 rfl
                    exact ⟨n - (k + 1), by omega, k + 1, gn, L, R, rc, rfl, by omega, he259.mem ⟨rfl, rfl, rfl, rfl, rfl, rfl, trivial⟩, hH254, Dt.first (A := [shD ps L m gn, rdD (.slice R L.length rc) L]) hD⟩
                  | true =>
                    have hroom : m - gn - L.length = 0 := (of_decide_eq_true (hfull.trans hf2))
                    rw [hf2] at he217
                    refine wp_seq ?_
                    refine wp_region_lit ?_
                    refine lV (Value.bool true) he217 rfl rfl (wanted_plain rfl _) (rn_mv rfl (he217.op rfl) w205) ?_
                    intro a260 he260
                    clear he217 a216
                    refine lV (Value.bool true) he260 rfl rfl (wanted_plain rfl _) (rn_mv rfl (he260.op rfl) w205) ?_
                    intro a261 he261
                    clear he260 a260
                    refine lV (Value.pointer (some ⟨ps, 0, none⟩)) he261 rfl rfl (he261.want rfl rfl rfl rfl rfl) (rn_mv rfl (he261.op rfl) w205) ?_
                    intro a262 he262
                    clear he261 a261
                    obtain ⟨Fs_, hs_⟩ := hD.get (i := 0) rfl
                    refine lC he262 rfl rfl Tryd.func15 (by kernel_rfl) rfl rfl (he262.want rfl rfl rfl rfl rfl) rfl (room_b ps m gn L Fs_ w205 hs_ hD.tab) ?_
                    intro w263 a264 hn he264
                    have hH263 := hH205.call hn
                    replace hD := (hD).new hn
                    clear he262 a262 hH205 hn
                    clear hs_ Fs_
                    refine lV (Value.bool false) he264 rfl rfl (he264.want rfl rfl rfl rfl rfl) (rn_neI rfl (he264.op rfl) (he264.op rfl) (by rw [hroom]; rfl) w263) ?_
                    intro a265 he265
                    clear he264 a264
                    refine lV (Value.bool false) he265 rfl rfl (wanted_plain rfl _) (rn_pk rfl (he265.op rfl) (he265.op rfl) w263) ?_
                    intro a266 he266
                    clear he265 a265
                    refine lV (Value.bool false) he266 rfl rfl (wanted_plain rfl _) (rn_mv rfl (he266.op rfl) w263) ?_
                    intro a267 he267
                    clear he266 a266
                    refine lV (Value.pointer (some ⟨ps, 0, none⟩)) he267 rfl rfl (he267.want rfl rfl rfl rfl rfl) (rn_mv rfl (he267.op rfl) w263) ?_
                    intro a268 he268
                    clear he267 a267
                    obtain ⟨Fs_, hs_⟩ := hD.get (i := 0) rfl
                    refine lC he268 rfl rfl Tryd.func18 (by kernel_rfl) rfl rfl (he268.want rfl rfl rfl rfl rfl) rfl (lenS_b Fs_ ps m gn L w263 hs_ hD.tab) ?_
                    intro w269 a270 hn he270
                    have hH269 := hH263.call hn
                    replace hD := (hD).new hn
                    clear he268 a268 hH263 hn
                    clear hs_ Fs_
                    refine lV (Value.pointer (some ⟨ps, 0, none⟩)) he270 rfl rfl (he270.want rfl rfl rfl rfl rfl) (rn_mv rfl (he270.op rfl) w269) ?_
                    intro a271 he271
                    clear he270 a270
                    obtain ⟨Fs_, hs_⟩ := hD.get (i := 0) rfl
                    refine lC he271 rfl rfl Tryd.func15 (by kernel_rfl) rfl rfl (he271.want rfl rfl rfl rfl rfl) rfl (room_b ps m gn L Fs_ w269 hs_ hD.tab) ?_
                    intro w272 a273 hn he273
                    have hH272 := hH269.call hn
                    replace hD := (hD).new hn
                    clear he271 a271 hH269 hn
                    clear hs_ Fs_
                    refine lV (Value.int .i64 ((L.length : Int) + ((m - gn - L.length : Nat) : Int))) he273 rfl rfl (he273.want rfl rfl rfl rfl rfl) (rn_add1 rfl (he273.op rfl) (he273.op rfl) (by rw [IntWalk.i64_in _ ⟨by omega, by omega⟩]) w272) ?_
                    intro a274 he274
                    clear he273 a273
                    refine lV (Value.pointer (some ⟨ps, 0, none⟩)) he274 rfl rfl (he274.want rfl rfl rfl rfl rfl) (rn_mv rfl (he274.op rfl) w272) ?_
                    intro a275 he275
                    clear he274 a274
                    obtain ⟨Fs_, hs_⟩ := hD.get (i := 0) rfl
                    refine lC he275 rfl rfl Tryd.func19 (by kernel_rfl) rfl rfl (he275.want rfl rfl rfl rfl rfl) rfl (goneS_b Fs_ ps m gn L w272 hs_ hD.tab) ?_
                    intro w276 a277 hn he277
                    have hH276 := hH272.call hn
                    replace hD := (hD).new hn
                    clear he275 a275 hH272 hn
                    clear hs_ Fs_
                    refine lV (Value.int .i64 (m : Int)) he277 rfl rfl (he277.want rfl rfl rfl rfl rfl) (rn_add1 rfl (he277.op rfl) (he277.op rfl) (by rw [IntWalk.i64_in _ ⟨by omega, by omega⟩]; omega) w276) ?_
                    intro a278 he278
                    clear he277 a277
                    refine lV (Value.pointer (some ⟨ps, 0, none⟩)) he278 rfl rfl (he278.want rfl rfl rfl rfl rfl) (rn_mv rfl (he278.op rfl) w276) ?_
                    intro a279 he279
                    clear he278 a278
                    obtain ⟨Fs_, hs_⟩ := hD.get (i := 0) rfl
                    refine lC he279 rfl rfl Tryd.func22 (by kernel_rfl) rfl rfl (he279.want rfl rfl rfl rfl rfl) rfl (capS_b Fs_ ps m gn L w276 hs_ hD.tab) ?_
                    intro w280 a281 hn he281
                    have hH280 := hH276.call hn
                    replace hD := (hD).new hn
                    clear he279 a279 hH276 hn
                    clear hs_ Fs_
                    refine lV (Value.bool false) he281 rfl rfl (he281.want rfl rfl rfl rfl rfl) (rn_neI rfl (he281.op rfl) (he281.op rfl) (by simp) w280) ?_
                    intro a282 he282
                    clear he281 a281
                    refine lV (Value.bool false) he282 rfl rfl (wanted_plain rfl _) (rn_pk0 rfl (he282.op rfl) (he282.op rfl) w280) ?_
                    intro a283 he283
                    clear he282 a282
                    refine lV (Value.bool false) he283 rfl rfl (wanted_plain rfl _) (rn_mv rfl (he283.op rfl) w280) ?_
                    intro a284 he284
                    clear he283 a283
                    refine lV (Value.pointer (some ⟨ps, 0, none⟩)) he284 rfl rfl (he284.want rfl rfl rfl rfl rfl) (rn_mv rfl (he284.op rfl) w280) ?_
                    intro a285 he285
                    clear he284 a284
                    obtain ⟨Fs_, hs_⟩ := hD.get (i := 0) rfl
                    refine lC he285 rfl rfl Tryd.func22 (by kernel_rfl) rfl rfl (he285.want rfl rfl rfl rfl rfl) rfl (capS_b Fs_ ps m gn L w280 hs_ hD.tab) ?_
                    intro w286 a287 hn he287
                    have hH286 := hH280.call hn
                    replace hD := (hD).new hn
                    clear he285 a285 hH280 hn
                    clear hs_ Fs_
                    refine lV (Value.int .u8 (m : Int)) he287 rfl rfl (he287.want rfl rfl rfl rfl rfl) (rn_mv rfl (he287.op rfl) w286) ?_
                    intro a288 he288
                    clear he287 a287
                    refine lV (Value.int .i64 (m : Int)) he288 rfl rfl (he288.want rfl rfl rfl rfl rfl) (rn_cv8I rfl (he288.op rfl) (IntWalk.i64_in _ ⟨by omega, by omega⟩) w286) ?_
                    intro a289 he289
                    clear he288 a288
                    refine lV (Value.bool false) he289 rfl rfl (he289.want rfl rfl rfl rfl rfl) (rn_neI rfl (he289.op rfl) (he289.op rfl) (by simp) w286) ?_
                    intro a290 he290
                    clear he289 a289
                    refine lV (Value.bool false) he290 rfl rfl (wanted_plain rfl _) (rn_pk0 rfl (he290.op rfl) (he290.op rfl) w286) ?_
                    intro a291 he291
                    clear he290 a290
                    refine lV (Value.bool false) he291 rfl rfl (wanted_plain rfl _) (rn_mv rfl (he291.op rfl) w286) ?_
                    intro a292 he292
                    clear he291 a291
                    refine lV (Value.pointer (some ⟨ps, 0, none⟩)) he292 rfl rfl (he292.want rfl rfl rfl rfl rfl) (rn_mv rfl (he292.op rfl) w286) ?_
                    intro a293 he293
                    clear he292 a292
                    obtain ⟨Fs_, hs_⟩ := hD.get (i := 0) rfl
                    refine lCx he293 rfl rfl Tryd.func23 (by kernel_rfl) rfl rfl (he293.want rfl rfl rfl rfl rfl) rfl (lines_b _ ps m gn L w286 hs_ hD.tab) ?_
                    rintro _ w294 ⟨A9, c9, rfl, ht⟩
                    have hD2 := hD.made ht
                    have hH294 := hH286.call ht.new
                    clear hD
                    have hD := hD2
                    clear hD2 ht
                    refine ⟨_, rfl, ?_⟩
                    intro a295 he295
                    clear he293 a293 hH286
                    refine lV (Value.slice R L.length rc) he295 rfl rfl (he295.want rfl rfl rfl rfl rfl) (rn_mv rfl (he295.op rfl) w294) ?_
                    intro a296 he296
                    clear he295 a295
                    refine lC he296 rfl rfl Tryd.func27 (by kernel_rfl) rfl rfl (he296.want rfl rfl rfl rfl rfl) rfl (all_b _ _ L L true (by simp) hLb2 hLb2 (by omega) (by omega) w294 (lines_lns (hD.get (i := 0) rfl).choose_spec).r (LnsF.r (hD.get (i := 2) rfl).choose_spec)) ?_
                    intro w297 a298 hn he298
                    have hH297 := hH294.call hn
                    replace hD := (hD).new hn
                    clear he296 a296 hH294 hn
                    refine lV (Value.bool false) he298 rfl rfl (he298.want rfl rfl rfl rfl rfl) (rn_not (b := true) rfl (he298.op rfl) w297) ?_
                    intro a299 he299
                    clear he298 a298
                    refine lV (Value.bool false) he299 rfl rfl (wanted_plain rfl _) (rn_pk0 rfl (he299.op rfl) (he299.op rfl) w297) ?_
                    intro a300 he300
                    clear he299 a299
                    refine wpList_nil ?_
                    refine then_ok ?_
                    refine wp_cond_false (he300.op rfl) ?_
                    refine wp_skip ?_
                    refine block_ok ?_
                    refine then_ok ?_
                    refine wp_region_lit ?_
                    refine lV (Value.int .i64 ((k + 1 : Nat) : Int)) he300 rfl rfl (wanted_plain rfl _) (rn_add1 rfl (he300.op rfl) (he300.op rfl) (by rw [IntWalk.i64_in _ ⟨by omega, by omega⟩]; omega) w297) ?_
                    intro a301 he301
                    clear he300 a300
                    refine lV (Value.int .i64 ((k + 1 : Nat) : Int)) he301 rfl rfl (wanted_plain rfl _) (rn_mv rfl (he301.op rfl) w297) ?_
                    intro a302 he302
                    clear he301 a301
                    refine wpList_nil ?_
                    refine then_ok ?_
                    replace hD := hD.pick 2 rfl
                    replace hD := hD.pick 2 rfl
                    exact ⟨n - (k + 1), by omega, k + 1, gn, L, R, rc, rfl, by omega, he302.mem ⟨rfl, rfl, rfl, rfl, rfl, rfl, trivial⟩, hH297, Dt.first (A := [shD ps L m gn, rdD (.slice R L.length rc) L]) hD⟩
              · skip
                refine wp_seq ?_
                refine wp_region_lit ?_
                refine lV (Value.bool false) he91 rfl rfl (wanted_plain rfl _) (rn_eq8 rfl (he91.op rfl) (he91.op rfl) (by simpa using hb2) w84) ?_
                intro a303 he303
                clear he91 a90
                refine lV (Value.bool false) he303 rfl rfl (wanted_plain rfl _) (rn_asg rfl (he303.op rfl) w84) ?_
                intro a304 he304
                clear he303 a303
                refine wpList_nil ?_
                refine then_ok ?_
                refine wp_cond_false (he304.op rfl) ?_
                by_cases hb3 : y % 4 = 3
                · skip
                  refine wp_seq ?_
                  refine wp_region_lit ?_
                  refine lV (Value.bool true) he304 rfl rfl (wanted_plain rfl _) (rn_eq8 rfl (he304.op rfl) (he304.op rfl) (by simp [hb3]) w84) ?_
                  intro a305 he305
                  clear he304 a304
                  refine lV (Value.bool true) he305 rfl rfl (wanted_plain rfl _) (rn_asg rfl (he305.op rfl) w84) ?_
                  intro a306 he306
                  clear he305 a305
                  refine wpList_nil ?_
                  refine then_ok ?_
                  refine wp_cond_true (he306.op rfl) ?_
                  by_cases hL0 : L.length = 0
                  · skip
                    have hps : popS L = (L, zLn, 9) := by simp [popS, hL0]
                    refine wp_seq ?_
                    refine wp_region_lit ?_
                    refine lV (Value.pointer (some ⟨ps, 0, none⟩)) he306 rfl rfl (wanted_plain rfl _) (rn_mv rfl (he306.op rfl) w84) ?_
                    intro a307 he307
                    clear he306 a306
                    obtain ⟨F_, hsep, hF, hstep⟩ := Dt.step (A := [shD ps L m gn]) (D := [rdD (.slice R L.length rc) L]) hD
                    refine lCx he307 rfl rfl Tryd.func25 (by kernel_rfl) rfl rfl (wanted_plain rfl _) rfl ((hps ▸ pop_b F_ ps m gn L w84 hsep.the hF hD.tab)) ?_
                    rintro _ w308 ⟨Ag, cg, rfl, ht⟩
                    obtain ⟨hD2, hHs⟩ := hstep _ _ ht
                    have hH308 := hHs _ rfl hH84
                    clear hHs hstep hsep hF
                    clear hD
                    have hD := hD2
                    clear hD2 ht
                    refine ⟨_, rfl, ?_⟩
                    intro a309 he309
                    clear he307 a307 hH84
                    refine lV (Value.tuple #[Value.agg #[Value.slice Ag zLn.1.length cg, Value.bool zLn.2], Value.int .i64 9]) he309 rfl rfl (wanted_plain rfl _) (rn_mv rfl (he309.op rfl) w308) ?_
                    intro a310 he310
                    clear he309 a309
                    refine lV (Value.agg #[Value.slice Ag zLn.1.length cg, Value.bool zLn.2]) he310 rfl rfl (wanted_plain rfl _) (rn_ext rfl (he310.op rfl) rfl w308) ?_
                    intro a311 he311
                    clear he310 a310
                    refine lV (Value.int .i64 9) he311 rfl rfl (wanted_plain rfl _) (rn_ext rfl (he311.op rfl) rfl w308) ?_
                    intro a312 he312
                    clear he311 a311
                    refine lNewP (fun p => .pointer (some ⟨p, 0, none⟩)) he312 hH308 rfl rfl (wanted_plain rfl _) (rn_allocL rfl w308) ?_
                    intro p313 w313 a314 hp hn hH313 he314
                    replace hD := hD.cons hn hp (hH313.at (i := 0) rfl).lt
                    clear he312 a312 hH308 hn hp
                    refine lSetF 0 #[Value.slice Ag zLn.1.length cg, Value.bool zLn.2] (cs := #[Value.slice Ag zLn.1.length cg, Value.bool zLn.2]) he314 hH313 rfl (wanted_plain rfl _) rfl rfl rfl rfl rfl (by kernel_rfl) (by kernel_rfl) (by kernel_rfl) rfl ?_
                    intro w315 a316 hH315 hf he316
                    replace hD := hD.setb (i := 0) rfl rfl hf
                    replace hH315 : Hp w [⟨p313, 35, #[Value.slice Ag zLn.1.length cg, Value.bool zLn.2]⟩] w315 := hH315
                    clear hf
                    clear he314 a314 hH313
                    refine lV (Value.int .i64 9) he316 rfl rfl (wanted_plain rfl _) (rn_asg rfl (he316.op rfl) w315) ?_
                    intro a317 he317
                    clear he316 a316
                    refine wpList_nil ?_
                    refine then_ok ?_
                    refine wp_seq ?_
                    refine wp_seq ?_
                    refine wp_region_lit ?_
                    refine lV (Value.int .i64 9) he317 rfl rfl (wanted_plain rfl _) (rn_mv rfl (he317.op rfl) w315) ?_
                    intro a318 he318
                    clear he317 a317
                    refine lV (Value.bool false) he318 rfl rfl (wanted_plain rfl _) (rn_eqE rfl (he318.op rfl) (he318.op rfl) (by simp) w315) ?_
                    intro a319 he319
                    clear he318 a318
                    refine lV (Value.slice R L.length rc) he319 rfl rfl (wanted_plain rfl _) (rn_mv rfl (he319.op rfl) w315) ?_
                    intro a320 he320
                    clear he319 a319
                    refine lV (Value.int .i64 (L.length : Nat)) he320 rfl rfl (wanted_plain rfl _) (rn_lenL rfl (he320.op rfl) w315) ?_
                    intro a321 he321
                    clear he320 a320
                    refine lV (Value.bool false) he321 rfl rfl (wanted_plain rfl _) (rn_gtr rfl (he321.op rfl) (he321.op rfl) (decide_eq_false (by omega)) w315) ?_
                    intro a322 he322
                    clear he321 a321
                    refine lV (Value.bool false) he322 rfl rfl (wanted_plain rfl _) (rn_neB rfl (he322.op rfl) (he322.op rfl) (by simp) w315) ?_
                    intro a323 he323
                    clear he322 a322
                    refine wpList_nil ?_
                    refine then_ok ?_
                    refine wp_cond_false (he323.op rfl) ?_
                    refine wp_skip ?_
                    refine then_ok ?_
                    refine wp_seq ?_
                    refine wp_region_lit ?_
                    refine lV (Value.int .i64 9) he323 rfl rfl (wanted_plain rfl _) (rn_mv rfl (he323.op rfl) w315) ?_
                    intro a324 he324
                    clear he323 a323
                    refine lV (Value.bool false) he324 rfl rfl (wanted_plain rfl _) (rn_eqE rfl (he324.op rfl) (he324.op rfl) (by simp) w315) ?_
                    intro a325 he325
                    clear he324 a324
                    refine wpList_nil ?_
                    refine then_ok ?_
                    refine wp_cond_false (he325.op rfl) ?_
                    refine wp_skip ?_
                    refine block_ok ?_
                    refine then_ok ?_
                    have he326 : Env 154 [(10, Value.bool full), (8, Value.int .i64 (k : Int)), (0, Value.int .u8 (m : Int)), (5, Value.pointer (some ⟨ps, 0, none⟩)), (7, Value.slice R L.length rc), (39, Value.slice (some ⟨bz, oz, none⟩) n c), (40, Value.int .i64 (n : Nat)), (41, Value.int .i64 (k : Int))] a325 := he325.mem ⟨rfl, rfl, rfl, rfl, rfl, rfl, rfl, rfl, trivial⟩
                    clear he325
                    have hok2 := sh_ok (hD.get (i := 0) rfl).choose_spec
                    have hpg2 := hok2.2.2.1
                    have hLb2 := hok2.big
                    have hll2 := hok2.len
                    obtain ⟨f2, hf2⟩ : ∃ b, full = b := ⟨_, rfl⟩
                    cases f2 with
                    | false =>
                      rw [hf2] at he326
                      refine wp_seq ?_
                      refine wp_region_lit ?_
                      refine lV (Value.bool false) he326 rfl rfl (wanted_plain rfl _) (rn_mv rfl (he326.op rfl) w315) ?_
                      intro a327 he327
                      clear he326 a325
                      refine lV (Value.bool false) he327 rfl rfl (wanted_plain rfl _) (rn_mv rfl (he327.op rfl) w315) ?_
                      intro a328 he328
                      clear he327 a327
                      refine lSkip he328 rfl rfl (he328.wantNot rfl rfl rfl rfl rfl rfl) ?_
                      intro a329 he329
                      clear he328 a328
                      refine lSkip he329 rfl rfl (he329.wantNot rfl rfl rfl rfl rfl rfl) ?_
                      intro a330 he330
                      clear he329 a329
                      refine lSkip he330 rfl rfl (he330.wantNot rfl rfl rfl rfl rfl rfl) ?_
                      intro a331 he331
                      clear he330 a330
                      refine lV (Value.bool false) he331 rfl rfl (wanted_plain rfl _) (rn_pk0 rfl (he331.op rfl) (he331.op rfl) w315) ?_
                      intro a332 he332
                      clear he331 a331
                      refine lV (Value.bool false) he332 rfl rfl (wanted_plain rfl _) (rn_mv rfl (he332.op rfl) w315) ?_
                      intro a333 he333
                      clear he332 a332
                      refine lV (Value.pointer (some ⟨ps, 0, none⟩)) he333 rfl rfl (he333.want rfl rfl rfl rfl rfl) (rn_mv rfl (he333.op rfl) w315) ?_
                      intro a334 he334
                      clear he333 a333
                      obtain ⟨Fs_, hs_⟩ := hD.get (i := 0) rfl
                      refine lC he334 rfl rfl Tryd.func18 (by kernel_rfl) rfl rfl (he334.want rfl rfl rfl rfl rfl) rfl (lenS_b Fs_ ps m gn L w315 hs_ hD.tab) ?_
                      intro w335 a336 hn he336
                      have hH335 := hH315.call hn
                      replace hD := (hD).new hn
                      clear he334 a334 hH315 hn
                      clear hs_ Fs_
                      refine lV (Value.pointer (some ⟨ps, 0, none⟩)) he336 rfl rfl (he336.want rfl rfl rfl rfl rfl) (rn_mv rfl (he336.op rfl) w335) ?_
                      intro a337 he337
                      clear he336 a336
                      obtain ⟨Fs_, hs_⟩ := hD.get (i := 0) rfl
                      refine lC he337 rfl rfl Tryd.func15 (by kernel_rfl) rfl rfl (he337.want rfl rfl rfl rfl rfl) rfl (room_b ps m gn L Fs_ w335 hs_ hD.tab) ?_
                      intro w338 a339 hn he339
                      have hH338 := hH335.call hn
                      replace hD := (hD).new hn
                      clear he337 a337 hH335 hn
                      clear hs_ Fs_
                      refine lV (Value.int .i64 ((L.length : Int) + ((m - gn - L.length : Nat) : Int))) he339 rfl rfl (he339.want rfl rfl rfl rfl rfl) (rn_add1 rfl (he339.op rfl) (he339.op rfl) (by rw [IntWalk.i64_in _ ⟨by omega, by omega⟩]) w338) ?_
                      intro a340 he340
                      clear he339 a339
                      refine lV (Value.pointer (some ⟨ps, 0, none⟩)) he340 rfl rfl (he340.want rfl rfl rfl rfl rfl) (rn_mv rfl (he340.op rfl) w338) ?_
                      intro a341 he341
                      clear he340 a340
                      obtain ⟨Fs_, hs_⟩ := hD.get (i := 0) rfl
                      refine lC he341 rfl rfl Tryd.func19 (by kernel_rfl) rfl rfl (he341.want rfl rfl rfl rfl rfl) rfl (goneS_b Fs_ ps m gn L w338 hs_ hD.tab) ?_
                      intro w342 a343 hn he343
                      have hH342 := hH338.call hn
                      replace hD := (hD).new hn
                      clear he341 a341 hH338 hn
                      clear hs_ Fs_
                      refine lV (Value.int .i64 (m : Int)) he343 rfl rfl (he343.want rfl rfl rfl rfl rfl) (rn_add1 rfl (he343.op rfl) (he343.op rfl) (by rw [IntWalk.i64_in _ ⟨by omega, by omega⟩]; omega) w342) ?_
                      intro a344 he344
                      clear he343 a343
                      refine lV (Value.pointer (some ⟨ps, 0, none⟩)) he344 rfl rfl (he344.want rfl rfl rfl rfl rfl) (rn_mv rfl (he344.op rfl) w342) ?_
                      intro a345 he345
                      clear he344 a344
                      obtain ⟨Fs_, hs_⟩ := hD.get (i := 0) rfl
                      refine lC he345 rfl rfl Tryd.func22 (by kernel_rfl) rfl rfl (he345.want rfl rfl rfl rfl rfl) rfl (capS_b Fs_ ps m gn L w342 hs_ hD.tab) ?_
                      intro w346 a347 hn he347
                      have hH346 := hH342.call hn
                      replace hD := (hD).new hn
                      clear he345 a345 hH342 hn
                      clear hs_ Fs_
                      refine lV (Value.bool false) he347 rfl rfl (he347.want rfl rfl rfl rfl rfl) (rn_neI rfl (he347.op rfl) (he347.op rfl) (by simp) w346) ?_
                      intro a348 he348
                      clear he347 a347
                      refine lV (Value.bool false) he348 rfl rfl (wanted_plain rfl _) (rn_pk0 rfl (he348.op rfl) (he348.op rfl) w346) ?_
                      intro a349 he349
                      clear he348 a348
                      refine lV (Value.bool false) he349 rfl rfl (wanted_plain rfl _) (rn_mv rfl (he349.op rfl) w346) ?_
                      intro a350 he350
                      clear he349 a349
                      refine lV (Value.pointer (some ⟨ps, 0, none⟩)) he350 rfl rfl (he350.want rfl rfl rfl rfl rfl) (rn_mv rfl (he350.op rfl) w346) ?_
                      intro a351 he351
                      clear he350 a350
                      obtain ⟨Fs_, hs_⟩ := hD.get (i := 0) rfl
                      refine lC he351 rfl rfl Tryd.func22 (by kernel_rfl) rfl rfl (he351.want rfl rfl rfl rfl rfl) rfl (capS_b Fs_ ps m gn L w346 hs_ hD.tab) ?_
                      intro w352 a353 hn he353
                      have hH352 := hH346.call hn
                      replace hD := (hD).new hn
                      clear he351 a351 hH346 hn
                      clear hs_ Fs_
                      refine lV (Value.int .u8 (m : Int)) he353 rfl rfl (he353.want rfl rfl rfl rfl rfl) (rn_mv rfl (he353.op rfl) w352) ?_
                      intro a354 he354
                      clear he353 a353
                      refine lV (Value.int .i64 (m : Int)) he354 rfl rfl (he354.want rfl rfl rfl rfl rfl) (rn_cv8I rfl (he354.op rfl) (IntWalk.i64_in _ ⟨by omega, by omega⟩) w352) ?_
                      intro a355 he355
                      clear he354 a354
                      refine lV (Value.bool false) he355 rfl rfl (he355.want rfl rfl rfl rfl rfl) (rn_neI rfl (he355.op rfl) (he355.op rfl) (by simp) w352) ?_
                      intro a356 he356
                      clear he355 a355
                      refine lV (Value.bool false) he356 rfl rfl (wanted_plain rfl _) (rn_pk0 rfl (he356.op rfl) (he356.op rfl) w352) ?_
                      intro a357 he357
                      clear he356 a356
                      refine lV (Value.bool false) he357 rfl rfl (wanted_plain rfl _) (rn_mv rfl (he357.op rfl) w352) ?_
                      intro a358 he358
                      clear he357 a357
                      refine lV (Value.pointer (some ⟨ps, 0, none⟩)) he358 rfl rfl (he358.want rfl rfl rfl rfl rfl) (rn_mv rfl (he358.op rfl) w352) ?_
                      intro a359 he359
                      clear he358 a358
                      obtain ⟨Fs_, hs_⟩ := hD.get (i := 0) rfl
                      refine lCx he359 rfl rfl Tryd.func23 (by kernel_rfl) rfl rfl (he359.want rfl rfl rfl rfl rfl) rfl (lines_b _ ps m gn L w352 hs_ hD.tab) ?_
                      rintro _ w360 ⟨A9, c9, rfl, ht⟩
                      have hD2 := hD.made ht
                      have hH360 := hH352.call ht.new
                      clear hD
                      have hD := hD2
                      clear hD2 ht
                      refine ⟨_, rfl, ?_⟩
                      intro a361 he361
                      clear he359 a359 hH352
                      refine lV (Value.slice R L.length rc) he361 rfl rfl (he361.want rfl rfl rfl rfl rfl) (rn_mv rfl (he361.op rfl) w360) ?_
                      intro a362 he362
                      clear he361 a361
                      refine lC he362 rfl rfl Tryd.func27 (by kernel_rfl) rfl rfl (he362.want rfl rfl rfl rfl rfl) rfl (all_b _ _ L L true (by simp) hLb2 hLb2 (by omega) (by omega) w360 (lines_lns (hD.get (i := 0) rfl).choose_spec).r (LnsF.r (hD.get (i := 3) rfl).choose_spec)) ?_
                      intro w363 a364 hn he364
                      have hH363 := hH360.call hn
                      replace hD := (hD).new hn
                      clear he362 a362 hH360 hn
                      refine lV (Value.bool false) he364 rfl rfl (he364.want rfl rfl rfl rfl rfl) (rn_not (b := true) rfl (he364.op rfl) w363) ?_
                      intro a365 he365
                      clear he364 a364
                      refine lV (Value.bool false) he365 rfl rfl (wanted_plain rfl _) (rn_pk0 rfl (he365.op rfl) (he365.op rfl) w363) ?_
                      intro a366 he366
                      clear he365 a365
                      refine wpList_nil ?_
                      refine then_ok ?_
                      refine wp_cond_false (he366.op rfl) ?_
                      refine wp_skip ?_
                      refine block_ok ?_
                      refine then_ok ?_
                      refine wp_region_lit ?_
                      refine lV (Value.int .i64 ((k + 1 : Nat) : Int)) he366 rfl rfl (wanted_plain rfl _) (rn_add1 rfl (he366.op rfl) (he366.op rfl) (by rw [IntWalk.i64_in _ ⟨by omega, by omega⟩]; omega) w363) ?_
                      intro a367 he367
                      clear he366 a366
                      refine lV (Value.int .i64 ((k + 1 : Nat) : Int)) he367 rfl rfl (wanted_plain rfl _) (rn_mv rfl (he367.op rfl) w363) ?_
                      intro a368 he368
                      clear he367 a367
                      refine wpList_nil ?_
                      refine then_ok ?_
                      replace hD := hD.pick 3 rfl
                      replace hD := hD.pick 2 rfl
                      have hH369 := hH363.tail rfl
                      clear hH363
                      replace hD := hD.tail
                      exact ⟨n - (k + 1), by omega, k + 1, gn, L, R, rc, rfl, by omega, he368.mem ⟨rfl, rfl, rfl, rfl, rfl, rfl, trivial⟩, hH369, Dt.first (A := [shD ps L m gn, rdD (.slice R L.length rc) L]) hD⟩
                    | true =>
                      have hroom : m - gn - L.length = 0 := (of_decide_eq_true (hfull.trans hf2))
                      rw [hf2] at he326
                      refine wp_seq ?_
                      refine wp_region_lit ?_
                      refine lV (Value.bool true) he326 rfl rfl (wanted_plain rfl _) (rn_mv rfl (he326.op rfl) w315) ?_
                      intro a370 he370
                      clear he326 a325
                      refine lV (Value.bool true) he370 rfl rfl (wanted_plain rfl _) (rn_mv rfl (he370.op rfl) w315) ?_
                      intro a371 he371
                      clear he370 a370
                      refine lV (Value.pointer (some ⟨ps, 0, none⟩)) he371 rfl rfl (he371.want rfl rfl rfl rfl rfl) (rn_mv rfl (he371.op rfl) w315) ?_
                      intro a372 he372
                      clear he371 a371
                      obtain ⟨Fs_, hs_⟩ := hD.get (i := 0) rfl
                      refine lC he372 rfl rfl Tryd.func15 (by kernel_rfl) rfl rfl (he372.want rfl rfl rfl rfl rfl) rfl (room_b ps m gn L Fs_ w315 hs_ hD.tab) ?_
                      intro w373 a374 hn he374
                      have hH373 := hH315.call hn
                      replace hD := (hD).new hn
                      clear he372 a372 hH315 hn
                      clear hs_ Fs_
                      refine lV (Value.bool false) he374 rfl rfl (he374.want rfl rfl rfl rfl rfl) (rn_neI rfl (he374.op rfl) (he374.op rfl) (by rw [hroom]; rfl) w373) ?_
                      intro a375 he375
                      clear he374 a374
                      refine lV (Value.bool false) he375 rfl rfl (wanted_plain rfl _) (rn_pk rfl (he375.op rfl) (he375.op rfl) w373) ?_
                      intro a376 he376
                      clear he375 a375
                      refine lV (Value.bool false) he376 rfl rfl (wanted_plain rfl _) (rn_mv rfl (he376.op rfl) w373) ?_
                      intro a377 he377
                      clear he376 a376
                      refine lV (Value.pointer (some ⟨ps, 0, none⟩)) he377 rfl rfl (he377.want rfl rfl rfl rfl rfl) (rn_mv rfl (he377.op rfl) w373) ?_
                      intro a378 he378
                      clear he377 a377
                      obtain ⟨Fs_, hs_⟩ := hD.get (i := 0) rfl
                      refine lC he378 rfl rfl Tryd.func18 (by kernel_rfl) rfl rfl (he378.want rfl rfl rfl rfl rfl) rfl (lenS_b Fs_ ps m gn L w373 hs_ hD.tab) ?_
                      intro w379 a380 hn he380
                      have hH379 := hH373.call hn
                      replace hD := (hD).new hn
                      clear he378 a378 hH373 hn
                      clear hs_ Fs_
                      refine lV (Value.pointer (some ⟨ps, 0, none⟩)) he380 rfl rfl (he380.want rfl rfl rfl rfl rfl) (rn_mv rfl (he380.op rfl) w379) ?_
                      intro a381 he381
                      clear he380 a380
                      obtain ⟨Fs_, hs_⟩ := hD.get (i := 0) rfl
                      refine lC he381 rfl rfl Tryd.func15 (by kernel_rfl) rfl rfl (he381.want rfl rfl rfl rfl rfl) rfl (room_b ps m gn L Fs_ w379 hs_ hD.tab) ?_
                      intro w382 a383 hn he383
                      have hH382 := hH379.call hn
                      replace hD := (hD).new hn
                      clear he381 a381 hH379 hn
                      clear hs_ Fs_
                      refine lV (Value.int .i64 ((L.length : Int) + ((m - gn - L.length : Nat) : Int))) he383 rfl rfl (he383.want rfl rfl rfl rfl rfl) (rn_add1 rfl (he383.op rfl) (he383.op rfl) (by rw [IntWalk.i64_in _ ⟨by omega, by omega⟩]) w382) ?_
                      intro a384 he384
                      clear he383 a383
                      refine lV (Value.pointer (some ⟨ps, 0, none⟩)) he384 rfl rfl (he384.want rfl rfl rfl rfl rfl) (rn_mv rfl (he384.op rfl) w382) ?_
                      intro a385 he385
                      clear he384 a384
                      obtain ⟨Fs_, hs_⟩ := hD.get (i := 0) rfl
                      refine lC he385 rfl rfl Tryd.func19 (by kernel_rfl) rfl rfl (he385.want rfl rfl rfl rfl rfl) rfl (goneS_b Fs_ ps m gn L w382 hs_ hD.tab) ?_
                      intro w386 a387 hn he387
                      have hH386 := hH382.call hn
                      replace hD := (hD).new hn
                      clear he385 a385 hH382 hn
                      clear hs_ Fs_
                      refine lV (Value.int .i64 (m : Int)) he387 rfl rfl (he387.want rfl rfl rfl rfl rfl) (rn_add1 rfl (he387.op rfl) (he387.op rfl) (by rw [IntWalk.i64_in _ ⟨by omega, by omega⟩]; omega) w386) ?_
                      intro a388 he388
                      clear he387 a387
                      refine lV (Value.pointer (some ⟨ps, 0, none⟩)) he388 rfl rfl (he388.want rfl rfl rfl rfl rfl) (rn_mv rfl (he388.op rfl) w386) ?_
                      intro a389 he389
                      clear he388 a388
                      obtain ⟨Fs_, hs_⟩ := hD.get (i := 0) rfl
                      refine lC he389 rfl rfl Tryd.func22 (by kernel_rfl) rfl rfl (he389.want rfl rfl rfl rfl rfl) rfl (capS_b Fs_ ps m gn L w386 hs_ hD.tab) ?_
                      intro w390 a391 hn he391
                      have hH390 := hH386.call hn
                      replace hD := (hD).new hn
                      clear he389 a389 hH386 hn
                      clear hs_ Fs_
                      refine lV (Value.bool false) he391 rfl rfl (he391.want rfl rfl rfl rfl rfl) (rn_neI rfl (he391.op rfl) (he391.op rfl) (by simp) w390) ?_
                      intro a392 he392
                      clear he391 a391
                      refine lV (Value.bool false) he392 rfl rfl (wanted_plain rfl _) (rn_pk0 rfl (he392.op rfl) (he392.op rfl) w390) ?_
                      intro a393 he393
                      clear he392 a392
                      refine lV (Value.bool false) he393 rfl rfl (wanted_plain rfl _) (rn_mv rfl (he393.op rfl) w390) ?_
                      intro a394 he394
                      clear he393 a393
                      refine lV (Value.pointer (some ⟨ps, 0, none⟩)) he394 rfl rfl (he394.want rfl rfl rfl rfl rfl) (rn_mv rfl (he394.op rfl) w390) ?_
                      intro a395 he395
                      clear he394 a394
                      obtain ⟨Fs_, hs_⟩ := hD.get (i := 0) rfl
                      refine lC he395 rfl rfl Tryd.func22 (by kernel_rfl) rfl rfl (he395.want rfl rfl rfl rfl rfl) rfl (capS_b Fs_ ps m gn L w390 hs_ hD.tab) ?_
                      intro w396 a397 hn he397
                      have hH396 := hH390.call hn
                      replace hD := (hD).new hn
                      clear he395 a395 hH390 hn
                      clear hs_ Fs_
                      refine lV (Value.int .u8 (m : Int)) he397 rfl rfl (he397.want rfl rfl rfl rfl rfl) (rn_mv rfl (he397.op rfl) w396) ?_
                      intro a398 he398
                      clear he397 a397
                      refine lV (Value.int .i64 (m : Int)) he398 rfl rfl (he398.want rfl rfl rfl rfl rfl) (rn_cv8I rfl (he398.op rfl) (IntWalk.i64_in _ ⟨by omega, by omega⟩) w396) ?_
                      intro a399 he399
                      clear he398 a398
                      refine lV (Value.bool false) he399 rfl rfl (he399.want rfl rfl rfl rfl rfl) (rn_neI rfl (he399.op rfl) (he399.op rfl) (by simp) w396) ?_
                      intro a400 he400
                      clear he399 a399
                      refine lV (Value.bool false) he400 rfl rfl (wanted_plain rfl _) (rn_pk0 rfl (he400.op rfl) (he400.op rfl) w396) ?_
                      intro a401 he401
                      clear he400 a400
                      refine lV (Value.bool false) he401 rfl rfl (wanted_plain rfl _) (rn_mv rfl (he401.op rfl) w396) ?_
                      intro a402 he402
                      clear he401 a401
                      refine lV (Value.pointer (some ⟨ps, 0, none⟩)) he402 rfl rfl (he402.want rfl rfl rfl rfl rfl) (rn_mv rfl (he402.op rfl) w396) ?_
                      intro a403 he403
                      clear he402 a402
                      obtain ⟨Fs_, hs_⟩ := hD.get (i := 0) rfl
                      refine lCx he403 rfl rfl Tryd.func23 (by kernel_rfl) rfl rfl (he403.want rfl rfl rfl rfl rfl) rfl (lines_b _ ps m gn L w396 hs_ hD.tab) ?_
                      rintro _ w404 ⟨A9, c9, rfl, ht⟩
                      have hD2 := hD.made ht
                      have hH404 := hH396.call ht.new
                      clear hD
                      have hD := hD2
                      clear hD2 ht
                      refine ⟨_, rfl, ?_⟩
                      intro a405 he405
                      clear he403 a403 hH396
                      refine lV (Value.slice R L.length rc) he405 rfl rfl (he405.want rfl rfl rfl rfl rfl) (rn_mv rfl (he405.op rfl) w404) ?_
                      intro a406 he406
                      clear he405 a405
                      refine lC he406 rfl rfl Tryd.func27 (by kernel_rfl) rfl rfl (he406.want rfl rfl rfl rfl rfl) rfl (all_b _ _ L L true (by simp) hLb2 hLb2 (by omega) (by omega) w404 (lines_lns (hD.get (i := 0) rfl).choose_spec).r (LnsF.r (hD.get (i := 3) rfl).choose_spec)) ?_
                      intro w407 a408 hn he408
                      have hH407 := hH404.call hn
                      replace hD := (hD).new hn
                      clear he406 a406 hH404 hn
                      refine lV (Value.bool false) he408 rfl rfl (he408.want rfl rfl rfl rfl rfl) (rn_not (b := true) rfl (he408.op rfl) w407) ?_
                      intro a409 he409
                      clear he408 a408
                      refine lV (Value.bool false) he409 rfl rfl (wanted_plain rfl _) (rn_pk0 rfl (he409.op rfl) (he409.op rfl) w407) ?_
                      intro a410 he410
                      clear he409 a409
                      refine wpList_nil ?_
                      refine then_ok ?_
                      refine wp_cond_false (he410.op rfl) ?_
                      refine wp_skip ?_
                      refine block_ok ?_
                      refine then_ok ?_
                      refine wp_region_lit ?_
                      refine lV (Value.int .i64 ((k + 1 : Nat) : Int)) he410 rfl rfl (wanted_plain rfl _) (rn_add1 rfl (he410.op rfl) (he410.op rfl) (by rw [IntWalk.i64_in _ ⟨by omega, by omega⟩]; omega) w407) ?_
                      intro a411 he411
                      clear he410 a410
                      refine lV (Value.int .i64 ((k + 1 : Nat) : Int)) he411 rfl rfl (wanted_plain rfl _) (rn_mv rfl (he411.op rfl) w407) ?_
                      intro a412 he412
                      clear he411 a411
                      refine wpList_nil ?_
                      refine then_ok ?_
                      replace hD := hD.pick 3 rfl
                      replace hD := hD.pick 2 rfl
                      have hH413 := hH407.tail rfl
                      clear hH407
                      replace hD := hD.tail
                      exact ⟨n - (k + 1), by omega, k + 1, gn, L, R, rc, rfl, by omega, he412.mem ⟨rfl, rfl, rfl, rfl, rfl, rfl, trivial⟩, hH413, Dt.first (A := [shD ps L m gn, rdD (.slice R L.length rc) L]) hD⟩
                  · skip
                    obtain ⟨j, hj⟩ : ∃ j, L.length = j + 1 := ⟨L.length - 1, by omega⟩
                    obtain ⟨lm, hlm⟩ : ∃ q, L[j]? = some q := ⟨_, List.getElem?_eq_getElem (by omega)⟩
                    have hlmb := hLb lm (List.mem_of_getElem? hlm)
                    have hps : popS L = (L.take j, lm, 0) := by unfold popS; rw [if_neg hL0, hj, Nat.add_sub_cancel, List.getD_eq_getElem?_getD, hlm]; rfl
                    refine wp_seq ?_
                    refine wp_region_lit ?_
                    refine lV (Value.pointer (some ⟨ps, 0, none⟩)) he306 rfl rfl (wanted_plain rfl _) (rn_mv rfl (he306.op rfl) w84) ?_
                    intro a414 he414
                    clear he306 a306
                    obtain ⟨F_, hsep, hF, hstep⟩ := Dt.step (A := [shD ps L m gn]) (D := [rdD (.slice R L.length rc) L]) hD
                    refine lCx he414 rfl rfl Tryd.func25 (by kernel_rfl) rfl rfl (wanted_plain rfl _) rfl ((hps ▸ pop_b F_ ps m gn L w84 hsep.the hF hD.tab)) ?_
                    rintro _ w415 ⟨Ag, cg, rfl, ht⟩
                    obtain ⟨hD2, hHs⟩ := hstep _ _ ht
                    have hH415 := hHs _ rfl hH84
                    clear hHs hstep hsep hF
                    clear hD
                    have hD := hD2
                    clear hD2 ht
                    refine ⟨_, rfl, ?_⟩
                    intro a416 he416
                    clear he414 a414 hH84
                    refine lV (Value.tuple #[Value.agg #[Value.slice Ag lm.1.length cg, Value.bool lm.2], Value.int .i64 0]) he416 rfl rfl (wanted_plain rfl _) (rn_mv rfl (he416.op rfl) w415) ?_
                    intro a417 he417
                    clear he416 a416
                    refine lV (Value.agg #[Value.slice Ag lm.1.length cg, Value.bool lm.2]) he417 rfl rfl (wanted_plain rfl _) (rn_ext rfl (he417.op rfl) rfl w415) ?_
                    intro a418 he418
                    clear he417 a417
                    refine lV (Value.int .i64 0) he418 rfl rfl (wanted_plain rfl _) (rn_ext rfl (he418.op rfl) rfl w415) ?_
                    intro a419 he419
                    clear he418 a418
                    refine lNewP (fun p => .pointer (some ⟨p, 0, none⟩)) he419 hH415 rfl rfl (wanted_plain rfl _) (rn_allocL rfl w415) ?_
                    intro p420 w420 a421 hp hn hH420 he421
                    replace hD := hD.cons hn hp (hH420.at (i := 0) rfl).lt
                    clear he419 a419 hH415 hn hp
                    refine lSetF 0 #[Value.slice Ag lm.1.length cg, Value.bool lm.2] (cs := #[Value.slice Ag lm.1.length cg, Value.bool lm.2]) he421 hH420 rfl (wanted_plain rfl _) rfl rfl rfl rfl rfl (by kernel_rfl) (by kernel_rfl) (by kernel_rfl) rfl ?_
                    intro w422 a423 hH422 hf he423
                    replace hD := hD.setb (i := 0) rfl rfl hf
                    replace hH422 : Hp w [⟨p420, 35, #[Value.slice Ag lm.1.length cg, Value.bool lm.2]⟩] w422 := hH422
                    clear hf
                    clear he421 a421 hH420
                    refine lV (Value.int .i64 0) he423 rfl rfl (wanted_plain rfl _) (rn_asg rfl (he423.op rfl) w422) ?_
                    intro a424 he424
                    clear he423 a423
                    refine wpList_nil ?_
                    refine then_ok ?_
                    refine wp_seq ?_
                    refine wp_seq ?_
                    refine wp_region_lit ?_
                    refine lV (Value.int .i64 0) he424 rfl rfl (wanted_plain rfl _) (rn_mv rfl (he424.op rfl) w422) ?_
                    intro a425 he425
                    clear he424 a424
                    refine lV (Value.bool true) he425 rfl rfl (wanted_plain rfl _) (rn_eqE rfl (he425.op rfl) (he425.op rfl) (by simp) w422) ?_
                    intro a426 he426
                    clear he425 a425
                    refine lV (Value.slice R L.length rc) he426 rfl rfl (wanted_plain rfl _) (rn_mv rfl (he426.op rfl) w422) ?_
                    intro a427 he427
                    clear he426 a426
                    refine lV (Value.int .i64 (L.length : Nat)) he427 rfl rfl (wanted_plain rfl _) (rn_lenL rfl (he427.op rfl) w422) ?_
                    intro a428 he428
                    clear he427 a427
                    refine lV (Value.bool true) he428 rfl rfl (wanted_plain rfl _) (rn_gtr rfl (he428.op rfl) (he428.op rfl) (decide_eq_true (by omega)) w422) ?_
                    intro a429 he429
                    clear he428 a428
                    refine lV (Value.bool false) he429 rfl rfl (wanted_plain rfl _) (rn_neB rfl (he429.op rfl) (he429.op rfl) (by simp) w422) ?_
                    intro a430 he430
                    clear he429 a429
                    refine wpList_nil ?_
                    refine then_ok ?_
                    refine wp_cond_false (he430.op rfl) ?_
                    refine wp_skip ?_
                    refine then_ok ?_
                    refine wp_seq ?_
                    refine wp_region_lit ?_
                    refine lV (Value.int .i64 0) he430 rfl rfl (wanted_plain rfl _) (rn_mv rfl (he430.op rfl) w422) ?_
                    intro a431 he431
                    clear he430 a430
                    refine lV (Value.bool true) he431 rfl rfl (wanted_plain rfl _) (rn_eqE rfl (he431.op rfl) (he431.op rfl) (by simp) w422) ?_
                    intro a432 he432
                    clear he431 a431
                    refine wpList_nil ?_
                    refine then_ok ?_
                    refine wp_cond_true (he432.op rfl) ?_
                    obtain ⟨ba, xa, hlc, hrd, hD5⟩ := (hD.pick 2 rfl).rdA
                    have hxal := hrd.1
                    obtain ⟨xl, hxl⟩ : ∃ q, xa[j]? = some q := ⟨_, List.getElem?_eq_getElem (by omega)⟩
                    obtain ⟨hxs, hxf⟩ := (hD5.get (i := 0) rfl).choose_spec.2.2 j _ _ hxl hlm
                    have hxg := hxf.sl
                    obtain ⟨Ax, cx, hxe⟩ := hxg.shape
                    clear hxf hD5
                    obtain ⟨aa, an, ac, az⟩ := xl
                    simp only [Value.slice.injEq] at hxe hxs
                    obtain ⟨rfl, rfl, rfl⟩ := hxe
                    subst hxs
                    obtain ⟨oa, eA2⟩ := hrd.base (by omega)
                    subst eA2
                    refine wp_seq ?_
                    refine wp_seq ?_
                    have hn : New w422 (World.drew w422) := (Fr.refl _ _).drew
                    replace hD := (hD).new hn
                    replace hrd := hrd.new hn
                    replace hxg := hxg.new hn
                    clear hn
                    have hH433 := hH422.drew
                    clear hH422
                    refine wp_region_held_drew (S := fun W => Hp w [⟨p420, 35, #[Value.slice Ag lm.1.length cg, Value.bool lm.2]⟩] W ∧ RdG rL W ba (some ⟨ba, oa, none⟩) L.length xa) (by kernel_rfl) ⟨hH433, hrd⟩ (fun _ => ?_)
                    generalize World.drew w422 = w433 at *
                    refine hV (fuel := 8) (i := 0) (Value.agg #[Value.slice Ag lm.1.length cg, Value.bool lm.2]) he432 rfl rfl rfl (by kernel_rfl) (by kernel_rfl) (by kernel_rfl) (fun _ _ _ h => h) (wanted_plain rfl _) (fun w' hw' => rn_ldp [Value.slice Ag lm.1.length cg, Value.bool lm.2] rfl (he432.op rfl) undL rfl infoL2 (hw'.1.at (i := 0) rfl) rfl) ⟨hH433, hrd⟩ ?_
                    intro a434 he434
                    clear he432 a432
                    refine hV (fuel := 7) (i := 1) (Value.slice (some ⟨ba, oa, none⟩) L.length rc) he434 rfl rfl rfl (by kernel_rfl) (by kernel_rfl) (by kernel_rfl) (fun _ _ _ h => h) (wanted_plain rfl _) (fun w' _ => rn_mv rfl (he434.op rfl) w') ⟨hH433, hrd⟩ ?_
                    intro a435 he435
                    clear he434 a434
                    refine hV (fuel := 6) (i := 2) (Value.slice (some ⟨ba, oa, none⟩) L.length rc) he435 rfl rfl rfl (by kernel_rfl) (by kernel_rfl) (by kernel_rfl) (fun _ _ _ h => h) (wanted_plain rfl _) (fun w' _ => rn_mv rfl (he435.op rfl) w') ⟨hH433, hrd⟩ ?_
                    intro a436 he436
                    clear he435 a435
                    refine hV (fuel := 5) (i := 3) (Value.int .i64 (L.length : Nat)) he436 rfl rfl rfl (by kernel_rfl) (by kernel_rfl) (by kernel_rfl) (fun _ _ _ h => h) (wanted_plain rfl _) (fun w' _ => rn_lenL rfl (he436.op rfl) w') ⟨hH433, hrd⟩ ?_
                    intro a437 he437
                    clear he436 a436
                    refine hV (fuel := 4) (i := 4) (Value.int .i64 (j : Int)) he437 rfl rfl rfl (by kernel_rfl) (by kernel_rfl) (by kernel_rfl) (fun _ _ _ h => h) (wanted_plain rfl _) (fun w' _ => rn_subI rfl (he437.op rfl) (he437.op rfl) (by rw [IntWalk.i64_in _ ⟨by omega, by omega⟩]; omega) w') ⟨hH433, hrd⟩ ?_
                    intro a438 he438
                    clear he437 a437
                    refine hV (fuel := 3) (i := 5) (Value.pointer (some ⟨ba, oa + j * 2, none⟩)) he438 rfl rfl rfl (by kernel_rfl) (by kernel_rfl) (by kernel_rfl) (fun _ _ _ h => h) (wanted_plain rfl _) (fun w' _ => rn_idxL (i := j) rfl (he438.op rfl) (he438.op rfl) (by omega) (by rw [addr_add]) w') ⟨hH433, hrd⟩ ?_
                    intro a439 he439
                    clear he438 a438
                    refine hV (fuel := 2) (i := 6) (Value.agg #[Value.slice aa lm.1.length ac, Value.bool lm.2]) he439 rfl rfl rfl (by kernel_rfl) (by kernel_rfl) (by kernel_rfl) (fun _ _ _ h => h) (wanted_plain rfl _) (fun w' hw' => rn_ldLn (i := j) rfl (he439.op rfl) hw'.2 rfl hxl) ⟨hH433, hrd⟩ ?_
                    intro a440 he440
                    clear he439 a439
                    refine hC (fuel := 1) (i := 7) he440 (by kernel_rfl) rfl rfl rfl Tryd.func26 (by kernel_rfl) rfl rfl (wanted_plain rfl _) rfl (same_s _ lm.1 lm.2 _ lm.1 lm.2 true (by simp) hlmb hlmb w433 (cells_sl (hD.get (i := 1) rfl).choose_spec) hxg) ?_
                    rintro _ w441 ⟨rfl, hn⟩
                    have hH441 := hH433.call hn
                    replace hD := (hD).new hn
                    replace hrd := hrd.new hn
                    replace hxg := hxg.new hn
                    refine ⟨_, rfl, ⟨hH441, hrd⟩, ?_⟩
                    intro a442 he442
                    clear he440 a440 hH433 hn
                    refine hV (fuel := 0) (i := 8) (Value.bool false) he442 rfl rfl rfl (by kernel_rfl) (by kernel_rfl) (by kernel_rfl) (fun _ _ _ h => h) (wanted_plain rfl _) (fun w' _ => rn_not (b := true) rfl (he442.op rfl) w') ⟨hH441, hrd⟩ ?_
                    intro a443 he443
                    clear he442 a442
                    refine wpAnyH_done (by kernel_rfl) ?_ _
                    refine then_ok ?_
                    refine wp_cond_false (he443.op rfl) ?_
                    refine wp_skip ?_
                    refine then_ok ?_
                    obtain ⟨R3, e3, hr3⟩ := rdg_h (c := rc) hrd (k := j) (by omega)
                    have e5 : (L.take j).length = j := by rw [List.length_take]; omega
                    have e4 : sliced (some ⟨ba, oa, none⟩) 0 j rc 2 = .slice R3 (L.take j).length rc := by rw [e5]; exact e3
                    refine wp_seq ?_
                    refine wp_region_lit ?_
                    refine lV (Value.slice (some ⟨ba, oa, none⟩) L.length rc) he443 rfl rfl (wanted_plain rfl _) (rn_mv rfl (he443.op rfl) w441) ?_
                    intro a444 he444
                    clear he443 a443
                    refine lV (Value.slice (some ⟨ba, oa, none⟩) L.length rc) he444 rfl rfl (wanted_plain rfl _) (rn_mv rfl (he444.op rfl) w441) ?_
                    intro a445 he445
                    clear he444 a444
                    refine lV (Value.int .i64 (L.length : Nat)) he445 rfl rfl (wanted_plain rfl _) (rn_lenL rfl (he445.op rfl) w441) ?_
                    intro a446 he446
                    clear he445 a445
                    refine lV (Value.int .i64 (j : Int)) he446 rfl rfl (wanted_plain rfl _) (rn_subI rfl (he446.op rfl) (he446.op rfl) (by rw [IntWalk.i64_in _ ⟨by omega, by omega⟩]; omega) w441) ?_
                    intro a447 he447
                    clear he446 a446
                    refine lV (Value.slice R3 (L.take j).length rc) he447 rfl rfl (wanted_plain rfl _) (rg_cuth (R := rL) (k := j) rfl (he447.op rfl) (he447.op rfl) (by omega) e4 w441) ?_
                    intro a448 he448
                    clear he447 a447
                    refine lV (Value.slice R3 (L.take j).length rc) he448 rfl rfl (wanted_plain rfl _) (rn_asg rfl (he448.op rfl) w441) ?_
                    intro a449 he449
                    clear he448 a448
                    refine wpList_nil ?_
                    refine then_ok ?_
                    replace hD := hD.pick 2 rfl
                    replace hD := Dt.front (A := [rdD (.slice (some ⟨ba, oa, none⟩) L.length rc) L]) (B := [rdD (.slice R3 (L.take j).length rc) (L.take j)]) (D := [shD ps (L.take j) m gn, cellsD (.slice Ag lm.1.length cg) lm.1]) hD (fun G h => rd_cuth e4 (by omega) h)
                    refine wp_region_lit ?_
                    refine lV (Value.bool false) he449 rfl rfl (wanted_plain rfl _) (rn_asg rfl (he449.op rfl) w441) ?_
                    intro a450 he450
                    clear he449 a449
                    refine wpList_nil ?_
                    refine block_ok ?_
                    refine then_ok ?_
                    have he451 : Env 154 [(10, Value.bool false), (7, Value.slice R3 (L.take j).length rc), (8, Value.int .i64 (k : Int)), (0, Value.int .u8 (m : Int)), (5, Value.pointer (some ⟨ps, 0, none⟩)), (39, Value.slice (some ⟨bz, oz, none⟩) n c), (40, Value.int .i64 (n : Nat)), (41, Value.int .i64 (k : Int))] a450 := he450.mem ⟨rfl, rfl, rfl, rfl, rfl, rfl, rfl, rfl, trivial⟩
                    clear he450
                    have hok2 := sh_ok (hD.get (i := 1) rfl).choose_spec
                    have hpg2 := hok2.2.2.1
                    have hLb2 := hok2.big
                    have hll2 := hok2.len
                    refine wp_seq ?_
                    refine wp_region_lit ?_
                    refine lV (Value.bool false) he451 rfl rfl (wanted_plain rfl _) (rn_mv rfl (he451.op rfl) w441) ?_
                    intro a452 he452
                    clear he451 a450
                    refine lV (Value.bool false) he452 rfl rfl (wanted_plain rfl _) (rn_mv rfl (he452.op rfl) w441) ?_
                    intro a453 he453
                    clear he452 a452
                    refine lSkip he453 rfl rfl (he453.wantNot rfl rfl rfl rfl rfl rfl) ?_
                    intro a454 he454
                    clear he453 a453
                    refine lSkip he454 rfl rfl (he454.wantNot rfl rfl rfl rfl rfl rfl) ?_
                    intro a455 he455
                    clear he454 a454
                    refine lSkip he455 rfl rfl (he455.wantNot rfl rfl rfl rfl rfl rfl) ?_
                    intro a456 he456
                    clear he455 a455
                    refine lV (Value.bool false) he456 rfl rfl (wanted_plain rfl _) (rn_pk0 rfl (he456.op rfl) (he456.op rfl) w441) ?_
                    intro a457 he457
                    clear he456 a456
                    refine lV (Value.bool false) he457 rfl rfl (wanted_plain rfl _) (rn_mv rfl (he457.op rfl) w441) ?_
                    intro a458 he458
                    clear he457 a457
                    refine lV (Value.pointer (some ⟨ps, 0, none⟩)) he458 rfl rfl (he458.want rfl rfl rfl rfl rfl) (rn_mv rfl (he458.op rfl) w441) ?_
                    intro a459 he459
                    clear he458 a458
                    obtain ⟨Fs_, hs_⟩ := hD.get (i := 1) rfl
                    refine lC he459 rfl rfl Tryd.func18 (by kernel_rfl) rfl rfl (he459.want rfl rfl rfl rfl rfl) rfl (lenS_b Fs_ ps m gn (L.take j) w441 hs_ hD.tab) ?_
                    intro w460 a461 hn he461
                    have hH460 := hH441.call hn
                    replace hD := (hD).new hn
                    clear he459 a459 hH441 hn
                    clear hs_ Fs_
                    refine lV (Value.pointer (some ⟨ps, 0, none⟩)) he461 rfl rfl (he461.want rfl rfl rfl rfl rfl) (rn_mv rfl (he461.op rfl) w460) ?_
                    intro a462 he462
                    clear he461 a461
                    obtain ⟨Fs_, hs_⟩ := hD.get (i := 1) rfl
                    refine lC he462 rfl rfl Tryd.func15 (by kernel_rfl) rfl rfl (he462.want rfl rfl rfl rfl rfl) rfl (room_b ps m gn (L.take j) Fs_ w460 hs_ hD.tab) ?_
                    intro w463 a464 hn he464
                    have hH463 := hH460.call hn
                    replace hD := (hD).new hn
                    clear he462 a462 hH460 hn
                    clear hs_ Fs_
                    refine lV (Value.int .i64 (((L.take j).length : Int) + ((m - gn - (L.take j).length : Nat) : Int))) he464 rfl rfl (he464.want rfl rfl rfl rfl rfl) (rn_add1 rfl (he464.op rfl) (he464.op rfl) (by rw [IntWalk.i64_in _ ⟨by omega, by omega⟩]) w463) ?_
                    intro a465 he465
                    clear he464 a464
                    refine lV (Value.pointer (some ⟨ps, 0, none⟩)) he465 rfl rfl (he465.want rfl rfl rfl rfl rfl) (rn_mv rfl (he465.op rfl) w463) ?_
                    intro a466 he466
                    clear he465 a465
                    obtain ⟨Fs_, hs_⟩ := hD.get (i := 1) rfl
                    refine lC he466 rfl rfl Tryd.func19 (by kernel_rfl) rfl rfl (he466.want rfl rfl rfl rfl rfl) rfl (goneS_b Fs_ ps m gn (L.take j) w463 hs_ hD.tab) ?_
                    intro w467 a468 hn he468
                    have hH467 := hH463.call hn
                    replace hD := (hD).new hn
                    clear he466 a466 hH463 hn
                    clear hs_ Fs_
                    refine lV (Value.int .i64 (m : Int)) he468 rfl rfl (he468.want rfl rfl rfl rfl rfl) (rn_add1 rfl (he468.op rfl) (he468.op rfl) (by rw [IntWalk.i64_in _ ⟨by omega, by omega⟩]; omega) w467) ?_
                    intro a469 he469
                    clear he468 a468
                    refine lV (Value.pointer (some ⟨ps, 0, none⟩)) he469 rfl rfl (he469.want rfl rfl rfl rfl rfl) (rn_mv rfl (he469.op rfl) w467) ?_
                    intro a470 he470
                    clear he469 a469
                    obtain ⟨Fs_, hs_⟩ := hD.get (i := 1) rfl
                    refine lC he470 rfl rfl Tryd.func22 (by kernel_rfl) rfl rfl (he470.want rfl rfl rfl rfl rfl) rfl (capS_b Fs_ ps m gn (L.take j) w467 hs_ hD.tab) ?_
                    intro w471 a472 hn he472
                    have hH471 := hH467.call hn
                    replace hD := (hD).new hn
                    clear he470 a470 hH467 hn
                    clear hs_ Fs_
                    refine lV (Value.bool false) he472 rfl rfl (he472.want rfl rfl rfl rfl rfl) (rn_neI rfl (he472.op rfl) (he472.op rfl) (by simp) w471) ?_
                    intro a473 he473
                    clear he472 a472
                    refine lV (Value.bool false) he473 rfl rfl (wanted_plain rfl _) (rn_pk0 rfl (he473.op rfl) (he473.op rfl) w471) ?_
                    intro a474 he474
                    clear he473 a473
                    refine lV (Value.bool false) he474 rfl rfl (wanted_plain rfl _) (rn_mv rfl (he474.op rfl) w471) ?_
                    intro a475 he475
                    clear he474 a474
                    refine lV (Value.pointer (some ⟨ps, 0, none⟩)) he475 rfl rfl (he475.want rfl rfl rfl rfl rfl) (rn_mv rfl (he475.op rfl) w471) ?_
                    intro a476 he476
                    clear he475 a475
                    obtain ⟨Fs_, hs_⟩ := hD.get (i := 1) rfl
                    refine lC he476 rfl rfl Tryd.func22 (by kernel_rfl) rfl rfl (he476.want rfl rfl rfl rfl rfl) rfl (capS_b Fs_ ps m gn (L.take j) w471 hs_ hD.tab) ?_
                    intro w477 a478 hn he478
                    have hH477 := hH471.call hn
                    replace hD := (hD).new hn
                    clear he476 a476 hH471 hn
                    clear hs_ Fs_
                    refine lV (Value.int .u8 (m : Int)) he478 rfl rfl (he478.want rfl rfl rfl rfl rfl) (rn_mv rfl (he478.op rfl) w477) ?_
                    intro a479 he479
                    clear he478 a478
                    refine lV (Value.int .i64 (m : Int)) he479 rfl rfl (he479.want rfl rfl rfl rfl rfl) (rn_cv8I rfl (he479.op rfl) (IntWalk.i64_in _ ⟨by omega, by omega⟩) w477) ?_
                    intro a480 he480
                    clear he479 a479
                    refine lV (Value.bool false) he480 rfl rfl (he480.want rfl rfl rfl rfl rfl) (rn_neI rfl (he480.op rfl) (he480.op rfl) (by simp) w477) ?_
                    intro a481 he481
                    clear he480 a480
                    refine lV (Value.bool false) he481 rfl rfl (wanted_plain rfl _) (rn_pk0 rfl (he481.op rfl) (he481.op rfl) w477) ?_
                    intro a482 he482
                    clear he481 a481
                    refine lV (Value.bool false) he482 rfl rfl (wanted_plain rfl _) (rn_mv rfl (he482.op rfl) w477) ?_
                    intro a483 he483
                    clear he482 a482
                    refine lV (Value.pointer (some ⟨ps, 0, none⟩)) he483 rfl rfl (he483.want rfl rfl rfl rfl rfl) (rn_mv rfl (he483.op rfl) w477) ?_
                    intro a484 he484
                    clear he483 a483
                    obtain ⟨Fs_, hs_⟩ := hD.get (i := 1) rfl
                    refine lCx he484 rfl rfl Tryd.func23 (by kernel_rfl) rfl rfl (he484.want rfl rfl rfl rfl rfl) rfl (lines_b _ ps m gn (L.take j) w477 hs_ hD.tab) ?_
                    rintro _ w485 ⟨A9, c9, rfl, ht⟩
                    have hD2 := hD.made ht
                    have hH485 := hH477.call ht.new
                    clear hD
                    have hD := hD2
                    clear hD2 ht
                    refine ⟨_, rfl, ?_⟩
                    intro a486 he486
                    clear he484 a484 hH477
                    refine lV (Value.slice R3 (L.take j).length rc) he486 rfl rfl (he486.want rfl rfl rfl rfl rfl) (rn_mv rfl (he486.op rfl) w485) ?_
                    intro a487 he487
                    clear he486 a486
                    refine lC he487 rfl rfl Tryd.func27 (by kernel_rfl) rfl rfl (he487.want rfl rfl rfl rfl rfl) rfl (all_b _ _ (L.take j) (L.take j) true (by simp) hLb2 hLb2 (by omega) (by omega) w485 (lines_lns (hD.get (i := 0) rfl).choose_spec).r (LnsF.r (hD.get (i := 1) rfl).choose_spec)) ?_
                    intro w488 a489 hn he489
                    have hH488 := hH485.call hn
                    replace hD := (hD).new hn
                    clear he487 a487 hH485 hn
                    refine lV (Value.bool false) he489 rfl rfl (he489.want rfl rfl rfl rfl rfl) (rn_not (b := true) rfl (he489.op rfl) w488) ?_
                    intro a490 he490
                    clear he489 a489
                    refine lV (Value.bool false) he490 rfl rfl (wanted_plain rfl _) (rn_pk0 rfl (he490.op rfl) (he490.op rfl) w488) ?_
                    intro a491 he491
                    clear he490 a490
                    refine wpList_nil ?_
                    refine then_ok ?_
                    refine wp_cond_false (he491.op rfl) ?_
                    refine wp_skip ?_
                    refine block_ok ?_
                    refine then_ok ?_
                    refine wp_region_lit ?_
                    refine lV (Value.int .i64 ((k + 1 : Nat) : Int)) he491 rfl rfl (wanted_plain rfl _) (rn_add1 rfl (he491.op rfl) (he491.op rfl) (by rw [IntWalk.i64_in _ ⟨by omega, by omega⟩]; omega) w488) ?_
                    intro a492 he492
                    clear he491 a491
                    refine lV (Value.int .i64 ((k + 1 : Nat) : Int)) he492 rfl rfl (wanted_plain rfl _) (rn_mv rfl (he492.op rfl) w488) ?_
                    intro a493 he493
                    clear he492 a492
                    refine wpList_nil ?_
                    refine then_ok ?_
                    replace hD := hD.pick 1 rfl
                    replace hD := hD.pick 2 rfl
                    have hH494 := hH488.tail rfl
                    clear hH488
                    replace hD := hD.tail
                    exact ⟨n - (k + 1), by omega, k + 1, gn, (L.take j), R3, rc, rfl, by omega, he493.mem ⟨rfl, rfl, rfl, rfl, rfl, rfl, trivial⟩, hH494, Dt.first (A := [shD ps (L.take j) m gn, rdD (.slice R3 (L.take j).length rc) (L.take j)]) hD⟩
                · skip
                  refine wp_seq ?_
                  refine wp_region_lit ?_
                  refine lV (Value.bool false) he304 rfl rfl (wanted_plain rfl _) (rn_eq8 rfl (he304.op rfl) (he304.op rfl) (by simpa using hb3) w84) ?_
                  intro a495 he495
                  clear he304 a304
                  refine lV (Value.bool false) he495 rfl rfl (wanted_plain rfl _) (rn_asg rfl (he495.op rfl) w84) ?_
                  intro a496 he496
                  clear he495 a495
                  refine wpList_nil ?_
                  refine then_ok ?_
                  refine wp_cond_false (he496.op rfl) ?_
                  refine wp_seq ?_
                  refine wp_region_lit ?_
                  refine lV (Value.int .i64 (k : Int)) he496 rfl rfl (wanted_plain rfl _) (rn_mv rfl (he496.op rfl) w84) ?_
                  intro a497 he497
                  clear he496 a496
                  refine lV (Value.int .i64 (1024 + (k : Int))) he497 rfl rfl (wanted_plain rfl _) (rn_add1 rfl (he497.op rfl) (he497.op rfl) (by rw [IntWalk.i64_in _ ⟨by omega, by omega⟩]) w84) ?_
                  intro a498 he498
                  clear he497 a497
                  refine lV (Value.int .i32 (1024 + (k : Int))) he498 rfl rfl (wanted_plain rfl _) (rn_cvI32 rfl (he498.op rfl) (IntWalk.i32_in _ ⟨by omega, by omega⟩) w84) ?_
                  intro a499 he499
                  clear he498 a498
                  refine lCx he499 rfl rfl Tryd.func14 (by kernel_rfl) rfl rfl (wanted_plain rfl _) rfl (text_b (1024 + (k : Int)) w84) ?_
                  rintro _ w500 ⟨At, ct, rfl, ht⟩
                  have hD2 := hD.made ht
                  have hH500 := hH84.call ht.new
                  clear hD
                  have hD := hD2
                  clear hD2 ht
                  refine ⟨_, rfl, ?_⟩
                  intro a501 he501
                  clear he499 a499 hH84
                  refine lNewP (fun p => .pointer (some ⟨p, 0, none⟩)) he501 hH500 rfl rfl (wanted_plain rfl _) (rn_allocL rfl w500) ?_
                  intro p502 w502 a503 hp hn hH502 he503
                  replace hD := hD.cons hn hp (hH502.at (i := 0) rfl).lt
                  clear he501 a501 hH500 hn hp
                  refine lSetF 0 #[Value.slice At 1 ct, Value.bool false] (cs := #[Value.slice At 1 ct, Value.bool false]) he503 hH502 rfl (wanted_plain rfl _) rfl rfl rfl rfl rfl (by kernel_rfl) (by kernel_rfl) (by kernel_rfl) rfl ?_
                  intro w504 a505 hH504 hf he505
                  replace hD := hD.setb (i := 0) rfl rfl hf
                  replace hH504 : Hp w [⟨p502, 35, #[Value.slice At 1 ct, Value.bool false]⟩] w504 := hH504
                  clear hf
                  clear he503 a503 hH502
                  refine wpList_nil ?_
                  refine then_ok ?_
                  have hokx : okL [tc (1024 + (k : Int))] = true := ok_rune k (by omega)
                  cases full with
                  | true =>
                    have hps : pushS L m gn ([tc (1024 + (k : Int))], false) = (L, 7) := push_no hokx (by have h_ := of_decide_eq_true hfull; omega)
                    have hown := cells_sl (hD.get (i := 0) rfl).choose_spec
                    refine wp_seq ?_
                    refine wp_seq ?_
                    refine wp_region_lit ?_
                    refine lV (Value.pointer (some ⟨ps, 0, none⟩)) he505 rfl rfl (wanted_plain rfl _) (rn_mv rfl (he505.op rfl) w504) ?_
                    intro a506 he506
                    clear he505 a505
                    refine lV (Value.agg #[Value.slice At 1 ct, Value.bool false]) he506 rfl rfl (wanted_plain rfl _) (rn_ldp [Value.slice At 1 ct, Value.bool false] rfl (he506.op rfl) undL rfl infoL2 (hH504.at (i := 0) rfl) rfl) ?_
                    intro a507 he507
                    clear he506 a506
                    replace hD := hD.pick 1 rfl
                    obtain ⟨F_, hsep, hF, hstep⟩ := Dt.step (A := [shD ps L m gn]) (D := [cellsD (.slice At 1 ct) [tc (1024 + (k : Int))], rdD (.slice R L.length rc) L]) hD
                    refine lCx he507 rfl rfl Tryd.func13 (by kernel_rfl) rfl rfl (wanted_plain rfl _) rfl ((hps ▸ push_b F_ ps m gn L _ [tc (1024 + (k : Int))] false w504 hsep.the hF hD.tab hown)) ?_
                    rintro _ w508 ⟨rfl, ht⟩
                    obtain ⟨hD2, hHs⟩ := hstep _ _ ht
                    have hH508 := hHs _ rfl hH504
                    clear hHs hstep hsep hF
                    clear hD
                    have hD := hD2
                    clear hD2 ht
                    refine ⟨_, rfl, ?_⟩
                    intro a509 he509
                    clear he507 a507 hH504
                    clear hown
                    refine lV (Value.bool false) he509 rfl rfl (wanted_plain rfl _) (rn_eqE rfl (he509.op rfl) (he509.op rfl) (by simp) w508) ?_
                    intro a510 he510
                    clear he509 a509
                    refine lV (Value.bool true) he510 rfl rfl (wanted_plain rfl _) (rn_mv rfl (he510.op rfl) w508) ?_
                    intro a511 he511
                    clear he510 a510
                    refine lV (Value.bool false) he511 rfl rfl (wanted_plain rfl _) (rn_eqB rfl (he511.op rfl) (he511.op rfl) (by simp) w508) ?_
                    intro a512 he512
                    clear he511 a511
                    refine wpList_nil ?_
                    refine then_ok ?_
                    refine wp_cond_false (he512.op rfl) ?_
                    refine wp_skip ?_
                    refine then_ok ?_
                    refine wp_seq ?_
                    refine wp_region_lit ?_
                    refine lV (Value.bool true) he512 rfl rfl (wanted_plain rfl _) (rn_mv rfl (he512.op rfl) w508) ?_
                    intro a513 he513
                    clear he512 a512
                    refine lV (Value.bool false) he513 rfl rfl (wanted_plain rfl _) (rn_not (b := true) rfl (he513.op rfl) w508) ?_
                    intro a514 he514
                    clear he513 a513
                    refine wpList_nil ?_
                    refine then_ok ?_
                    refine wp_cond_false (he514.op rfl) ?_
                    refine wp_skip ?_
                    refine block_ok ?_
                    refine then_ok ?_
                    have he515 : Env 154 [(10, Value.bool true), (8, Value.int .i64 (k : Int)), (0, Value.int .u8 (m : Int)), (5, Value.pointer (some ⟨ps, 0, none⟩)), (7, Value.slice R L.length rc), (39, Value.slice (some ⟨bz, oz, none⟩) n c), (40, Value.int .i64 (n : Nat)), (41, Value.int .i64 (k : Int))] a514 := he514.mem ⟨rfl, rfl, rfl, rfl, rfl, rfl, rfl, rfl, trivial⟩
                    clear he514
                    have hok2 := sh_ok (hD.get (i := 0) rfl).choose_spec
                    have hpg2 := hok2.2.2.1
                    have hLb2 := hok2.big
                    have hll2 := hok2.len
                    have hroom : m - gn - L.length = 0 := (of_decide_eq_true hfull)
                    refine wp_seq ?_
                    refine wp_region_lit ?_
                    refine lV (Value.bool true) he515 rfl rfl (wanted_plain rfl _) (rn_mv rfl (he515.op rfl) w508) ?_
                    intro a516 he516
                    clear he515 a514
                    refine lV (Value.bool true) he516 rfl rfl (wanted_plain rfl _) (rn_mv rfl (he516.op rfl) w508) ?_
                    intro a517 he517
                    clear he516 a516
                    refine lV (Value.pointer (some ⟨ps, 0, none⟩)) he517 rfl rfl (he517.want rfl rfl rfl rfl rfl) (rn_mv rfl (he517.op rfl) w508) ?_
                    intro a518 he518
                    clear he517 a517
                    obtain ⟨Fs_, hs_⟩ := hD.get (i := 0) rfl
                    refine lC he518 rfl rfl Tryd.func15 (by kernel_rfl) rfl rfl (he518.want rfl rfl rfl rfl rfl) rfl (room_b ps m gn L Fs_ w508 hs_ hD.tab) ?_
                    intro w519 a520 hn he520
                    have hH519 := hH508.call hn
                    replace hD := (hD).new hn
                    clear he518 a518 hH508 hn
                    clear hs_ Fs_
                    refine lV (Value.bool false) he520 rfl rfl (he520.want rfl rfl rfl rfl rfl) (rn_neI rfl (he520.op rfl) (he520.op rfl) (by rw [hroom]; rfl) w519) ?_
                    intro a521 he521
                    clear he520 a520
                    refine lV (Value.bool false) he521 rfl rfl (wanted_plain rfl _) (rn_pk rfl (he521.op rfl) (he521.op rfl) w519) ?_
                    intro a522 he522
                    clear he521 a521
                    refine lV (Value.bool false) he522 rfl rfl (wanted_plain rfl _) (rn_mv rfl (he522.op rfl) w519) ?_
                    intro a523 he523
                    clear he522 a522
                    refine lV (Value.pointer (some ⟨ps, 0, none⟩)) he523 rfl rfl (he523.want rfl rfl rfl rfl rfl) (rn_mv rfl (he523.op rfl) w519) ?_
                    intro a524 he524
                    clear he523 a523
                    obtain ⟨Fs_, hs_⟩ := hD.get (i := 0) rfl
                    refine lC he524 rfl rfl Tryd.func18 (by kernel_rfl) rfl rfl (he524.want rfl rfl rfl rfl rfl) rfl (lenS_b Fs_ ps m gn L w519 hs_ hD.tab) ?_
                    intro w525 a526 hn he526
                    have hH525 := hH519.call hn
                    replace hD := (hD).new hn
                    clear he524 a524 hH519 hn
                    clear hs_ Fs_
                    refine lV (Value.pointer (some ⟨ps, 0, none⟩)) he526 rfl rfl (he526.want rfl rfl rfl rfl rfl) (rn_mv rfl (he526.op rfl) w525) ?_
                    intro a527 he527
                    clear he526 a526
                    obtain ⟨Fs_, hs_⟩ := hD.get (i := 0) rfl
                    refine lC he527 rfl rfl Tryd.func15 (by kernel_rfl) rfl rfl (he527.want rfl rfl rfl rfl rfl) rfl (room_b ps m gn L Fs_ w525 hs_ hD.tab) ?_
                    intro w528 a529 hn he529
                    have hH528 := hH525.call hn
                    replace hD := (hD).new hn
                    clear he527 a527 hH525 hn
                    clear hs_ Fs_
                    refine lV (Value.int .i64 ((L.length : Int) + ((m - gn - L.length : Nat) : Int))) he529 rfl rfl (he529.want rfl rfl rfl rfl rfl) (rn_add1 rfl (he529.op rfl) (he529.op rfl) (by rw [IntWalk.i64_in _ ⟨by omega, by omega⟩]) w528) ?_
                    intro a530 he530
                    clear he529 a529
                    refine lV (Value.pointer (some ⟨ps, 0, none⟩)) he530 rfl rfl (he530.want rfl rfl rfl rfl rfl) (rn_mv rfl (he530.op rfl) w528) ?_
                    intro a531 he531
                    clear he530 a530
                    obtain ⟨Fs_, hs_⟩ := hD.get (i := 0) rfl
                    refine lC he531 rfl rfl Tryd.func19 (by kernel_rfl) rfl rfl (he531.want rfl rfl rfl rfl rfl) rfl (goneS_b Fs_ ps m gn L w528 hs_ hD.tab) ?_
                    intro w532 a533 hn he533
                    have hH532 := hH528.call hn
                    replace hD := (hD).new hn
                    clear he531 a531 hH528 hn
                    clear hs_ Fs_
                    refine lV (Value.int .i64 (m : Int)) he533 rfl rfl (he533.want rfl rfl rfl rfl rfl) (rn_add1 rfl (he533.op rfl) (he533.op rfl) (by rw [IntWalk.i64_in _ ⟨by omega, by omega⟩]; omega) w532) ?_
                    intro a534 he534
                    clear he533 a533
                    refine lV (Value.pointer (some ⟨ps, 0, none⟩)) he534 rfl rfl (he534.want rfl rfl rfl rfl rfl) (rn_mv rfl (he534.op rfl) w532) ?_
                    intro a535 he535
                    clear he534 a534
                    obtain ⟨Fs_, hs_⟩ := hD.get (i := 0) rfl
                    refine lC he535 rfl rfl Tryd.func22 (by kernel_rfl) rfl rfl (he535.want rfl rfl rfl rfl rfl) rfl (capS_b Fs_ ps m gn L w532 hs_ hD.tab) ?_
                    intro w536 a537 hn he537
                    have hH536 := hH532.call hn
                    replace hD := (hD).new hn
                    clear he535 a535 hH532 hn
                    clear hs_ Fs_
                    refine lV (Value.bool false) he537 rfl rfl (he537.want rfl rfl rfl rfl rfl) (rn_neI rfl (he537.op rfl) (he537.op rfl) (by simp) w536) ?_
                    intro a538 he538
                    clear he537 a537
                    refine lV (Value.bool false) he538 rfl rfl (wanted_plain rfl _) (rn_pk0 rfl (he538.op rfl) (he538.op rfl) w536) ?_
                    intro a539 he539
                    clear he538 a538
                    refine lV (Value.bool false) he539 rfl rfl (wanted_plain rfl _) (rn_mv rfl (he539.op rfl) w536) ?_
                    intro a540 he540
                    clear he539 a539
                    refine lV (Value.pointer (some ⟨ps, 0, none⟩)) he540 rfl rfl (he540.want rfl rfl rfl rfl rfl) (rn_mv rfl (he540.op rfl) w536) ?_
                    intro a541 he541
                    clear he540 a540
                    obtain ⟨Fs_, hs_⟩ := hD.get (i := 0) rfl
                    refine lC he541 rfl rfl Tryd.func22 (by kernel_rfl) rfl rfl (he541.want rfl rfl rfl rfl rfl) rfl (capS_b Fs_ ps m gn L w536 hs_ hD.tab) ?_
                    intro w542 a543 hn he543
                    have hH542 := hH536.call hn
                    replace hD := (hD).new hn
                    clear he541 a541 hH536 hn
                    clear hs_ Fs_
                    refine lV (Value.int .u8 (m : Int)) he543 rfl rfl (he543.want rfl rfl rfl rfl rfl) (rn_mv rfl (he543.op rfl) w542) ?_
                    intro a544 he544
                    clear he543 a543
                    refine lV (Value.int .i64 (m : Int)) he544 rfl rfl (he544.want rfl rfl rfl rfl rfl) (rn_cv8I rfl (he544.op rfl) (IntWalk.i64_in _ ⟨by omega, by omega⟩) w542) ?_
                    intro a545 he545
                    clear he544 a544
                    refine lV (Value.bool false) he545 rfl rfl (he545.want rfl rfl rfl rfl rfl) (rn_neI rfl (he545.op rfl) (he545.op rfl) (by simp) w542) ?_
                    intro a546 he546
                    clear he545 a545
                    refine lV (Value.bool false) he546 rfl rfl (wanted_plain rfl _) (rn_pk0 rfl (he546.op rfl) (he546.op rfl) w542) ?_
                    intro a547 he547
                    clear he546 a546
                    refine lV (Value.bool false) he547 rfl rfl (wanted_plain rfl _) (rn_mv rfl (he547.op rfl) w542) ?_
                    intro a548 he548
                    clear he547 a547
                    refine lV (Value.pointer (some ⟨ps, 0, none⟩)) he548 rfl rfl (he548.want rfl rfl rfl rfl rfl) (rn_mv rfl (he548.op rfl) w542) ?_
                    intro a549 he549
                    clear he548 a548
                    obtain ⟨Fs_, hs_⟩ := hD.get (i := 0) rfl
                    refine lCx he549 rfl rfl Tryd.func23 (by kernel_rfl) rfl rfl (he549.want rfl rfl rfl rfl rfl) rfl (lines_b _ ps m gn L w542 hs_ hD.tab) ?_
                    rintro _ w550 ⟨A9, c9, rfl, ht⟩
                    have hD2 := hD.made ht
                    have hH550 := hH542.call ht.new
                    clear hD
                    have hD := hD2
                    clear hD2 ht
                    refine ⟨_, rfl, ?_⟩
                    intro a551 he551
                    clear he549 a549 hH542
                    refine lV (Value.slice R L.length rc) he551 rfl rfl (he551.want rfl rfl rfl rfl rfl) (rn_mv rfl (he551.op rfl) w550) ?_
                    intro a552 he552
                    clear he551 a551
                    refine lC he552 rfl rfl Tryd.func27 (by kernel_rfl) rfl rfl (he552.want rfl rfl rfl rfl rfl) rfl (all_b _ _ L L true (by simp) hLb2 hLb2 (by omega) (by omega) w550 (lines_lns (hD.get (i := 0) rfl).choose_spec).r (LnsF.r (hD.get (i := 3) rfl).choose_spec)) ?_
                    intro w553 a554 hn he554
                    have hH553 := hH550.call hn
                    replace hD := (hD).new hn
                    clear he552 a552 hH550 hn
                    refine lV (Value.bool false) he554 rfl rfl (he554.want rfl rfl rfl rfl rfl) (rn_not (b := true) rfl (he554.op rfl) w553) ?_
                    intro a555 he555
                    clear he554 a554
                    refine lV (Value.bool false) he555 rfl rfl (wanted_plain rfl _) (rn_pk0 rfl (he555.op rfl) (he555.op rfl) w553) ?_
                    intro a556 he556
                    clear he555 a555
                    refine wpList_nil ?_
                    refine then_ok ?_
                    refine wp_cond_false (he556.op rfl) ?_
                    refine wp_skip ?_
                    refine block_ok ?_
                    refine then_ok ?_
                    refine wp_region_lit ?_
                    refine lV (Value.int .i64 ((k + 1 : Nat) : Int)) he556 rfl rfl (wanted_plain rfl _) (rn_add1 rfl (he556.op rfl) (he556.op rfl) (by rw [IntWalk.i64_in _ ⟨by omega, by omega⟩]; omega) w553) ?_
                    intro a557 he557
                    clear he556 a556
                    refine lV (Value.int .i64 ((k + 1 : Nat) : Int)) he557 rfl rfl (wanted_plain rfl _) (rn_mv rfl (he557.op rfl) w553) ?_
                    intro a558 he558
                    clear he557 a557
                    refine wpList_nil ?_
                    refine then_ok ?_
                    replace hD := hD.pick 3 rfl
                    replace hD := hD.pick 2 rfl
                    have hH559 := hH553.tail rfl
                    clear hH553
                    replace hD := hD.tail
                    exact ⟨n - (k + 1), by omega, k + 1, gn, L, R, rc, rfl, by omega, he558.mem ⟨rfl, rfl, rfl, rfl, rfl, rfl, trivial⟩, hH559, Dt.first (A := [shD ps L m gn, rdD (.slice R L.length rc) L]) hD⟩
                  | false =>
                    have hps : pushS L m gn ([tc (1024 + (k : Int))], false) = (L ++ [([tc (1024 + (k : Int))], false)], 0) := push_full hokx (by have h_ := of_decide_eq_false hfull; omega)
                    have hown := cells_sl (hD.get (i := 0) rfl).choose_spec
                    refine wp_seq ?_
                    refine wp_seq ?_
                    refine wp_region_lit ?_
                    refine lV (Value.pointer (some ⟨ps, 0, none⟩)) he505 rfl rfl (wanted_plain rfl _) (rn_mv rfl (he505.op rfl) w504) ?_
                    intro a560 he560
                    clear he505 a505
                    refine lV (Value.agg #[Value.slice At 1 ct, Value.bool false]) he560 rfl rfl (wanted_plain rfl _) (rn_ldp [Value.slice At 1 ct, Value.bool false] rfl (he560.op rfl) undL rfl infoL2 (hH504.at (i := 0) rfl) rfl) ?_
                    intro a561 he561
                    clear he560 a560
                    replace hD := hD.pick 1 rfl
                    obtain ⟨F_, hsep, hF, hstep⟩ := Dt.step (A := [shD ps L m gn]) (D := [cellsD (.slice At 1 ct) [tc (1024 + (k : Int))], rdD (.slice R L.length rc) L]) hD
                    refine lCx he561 rfl rfl Tryd.func13 (by kernel_rfl) rfl rfl (wanted_plain rfl _) rfl ((hps ▸ push_b F_ ps m gn L _ [tc (1024 + (k : Int))] false w504 hsep.the hF hD.tab hown)) ?_
                    rintro _ w562 ⟨rfl, ht⟩
                    obtain ⟨hD2, hHs⟩ := hstep _ _ ht
                    have hH562 := hHs _ rfl hH504
                    clear hHs hstep hsep hF
                    clear hD
                    have hD := hD2
                    clear hD2 ht
                    refine ⟨_, rfl, ?_⟩
                    intro a563 he563
                    clear he561 a561 hH504
                    clear hown
                    refine lV (Value.bool true) he563 rfl rfl (wanted_plain rfl _) (rn_eqE rfl (he563.op rfl) (he563.op rfl) (by simp) w562) ?_
                    intro a564 he564
                    clear he563 a563
                    refine lV (Value.bool false) he564 rfl rfl (wanted_plain rfl _) (rn_mv rfl (he564.op rfl) w562) ?_
                    intro a565 he565
                    clear he564 a564
                    refine lV (Value.bool false) he565 rfl rfl (wanted_plain rfl _) (rn_eqB rfl (he565.op rfl) (he565.op rfl) (by simp) w562) ?_
                    intro a566 he566
                    clear he565 a565
                    refine wpList_nil ?_
                    refine then_ok ?_
                    refine wp_cond_false (he566.op rfl) ?_
                    refine wp_skip ?_
                    refine then_ok ?_
                    refine wp_seq ?_
                    refine wp_region_lit ?_
                    refine lV (Value.bool false) he566 rfl rfl (wanted_plain rfl _) (rn_mv rfl (he566.op rfl) w562) ?_
                    intro a567 he567
                    clear he566 a566
                    refine lV (Value.bool true) he567 rfl rfl (wanted_plain rfl _) (rn_not (b := false) rfl (he567.op rfl) w562) ?_
                    intro a568 he568
                    clear he567 a567
                    refine wpList_nil ?_
                    refine then_ok ?_
                    refine wp_cond_true (he568.op rfl) ?_
                    replace hD := hD.pick 2 rfl
                    obtain ⟨ba, xa, hlc, hrd, hD5⟩ := hD.rdS
                    clear hD
                    have hD := hD5
                    clear hD5
                    have hxal := hrd.1
                    refine wp_region_held_drew (S := Hp w [⟨p502, 35, #[Value.slice At 1 ct, Value.bool false]⟩]) (by kernel_rfl) (hH562.drew) (fun _ => ?_)
                    have hn : New w562 (World.drew w562) := (Fr.refl _ _).drew
                    replace hD := (hD).new hn
                    replace hrd := hrd.new hn
                    clear hn
                    have hH569 := hH562.drew
                    clear hH562
                    generalize World.drew w562 = w569 at *
                    refine hV (fuel := 5) (i := 0) (Value.slice R L.length rc) he568 rfl rfl rfl (by kernel_rfl) (by kernel_rfl) (by kernel_rfl) (fun _ _ _ h => h) (wanted_plain rfl _) (fun w' _ => rn_mv rfl (he568.op rfl) w') hH569 ?_
                    intro a570 he570
                    clear he568 a568
                    refine hV (fuel := 4) (i := 2) (Value.agg #[Value.slice At 1 ct, Value.bool false]) he570 rfl rfl rfl (by kernel_rfl) (by kernel_rfl) (by kernel_rfl) (fun _ _ _ h => h) (wanted_plain rfl _) (fun w' hw' => rn_ldp [Value.slice At 1 ct, Value.bool false] rfl (he570.op rfl) undL rfl infoL2 (hw'.at (i := 0) rfl) rfl) hH569 ?_
                    intro a571 he571
                    clear he570 a570
                    have hlq : L.length ≤ 1024 := hok.len
                    refine hPair (fuel := 2) (i := 1) (j := 3) (fun aI wI => ∃ (A_ : Option Addr) (c_ q_ : Nat), Env 154 [(66, Value.slice (some ⟨q_, 0, none⟩) 1 1), (64, Value.slice A_ xa.length c_), (65, Value.agg #[Value.slice At 1 ct, Value.bool false]), (63, Value.slice R L.length rc), (62, Value.bool true), (61, Value.bool false), (60, Value.bool false), (59, Value.bool false), (58, Value.bool true), (57, Value.int .i64 0), (56, Value.agg #[Value.slice At 1 ct, Value.bool false]), (55, Value.pointer (some ⟨ps, 0, none⟩)), (14, Value.pointer (some ⟨p502, 0, none⟩)), (54, Value.agg #[Value.slice At 1 ct, Value.bool false]), (53, Value.int .i32 (1024 + (k : Int))), (52, Value.int .i64 (1024 + (k : Int))), (51, Value.int .i64 (k : Int)), (90, Value.bool false), (91, Value.bool false), (68, Value.bool false), (69, Value.bool false), (50, Value.int .u8 (y % 4)), (10, Value.bool false), (9, Value.int .u8 y), (8, Value.int .i64 (k : Int)), (0, Value.int .u8 (m : Int)), (5, Value.pointer (some ⟨ps, 0, none⟩)), (7, Value.slice R L.length rc), (39, Value.slice (some ⟨bz, oz, none⟩) n c), (40, Value.int .i64 (n : Nat)), (41, Value.int .i64 (k : Int))] aI ∧ Hp w [⟨q_, 35, #[Value.slice At 1 ct, Value.bool false]⟩, ⟨p502, 35, #[Value.slice At 1 ct, Value.bool false]⟩] wI ∧ Dt w w (fun _ => False) 0 [q_, p502] [rowD (.slice A_ xa.length c_) xa, rdX xa L, shD ps (L ++ [([tc (1024 + (k : Int))], false)]) m gn, cellsD (.slice At 1 ct) [tc (1024 + (k : Int))]] wI) (by decide) (by kernel_rfl) (by kernel_rfl) (by kernel_rfl) ?_ ?_ ?_
                    · skip
                      refine kEx (i := 1) he571 rfl rfl rfl (wanted_plain rfl _) (rg_app0 hrd (by omega) rfl (fun _ => rfl) (he571.op rfl)) ?_
                      rintro _ w573 ⟨A1, c1, rfl, ht⟩
                      have hD2 := hD.made ht
                      have hH573 := hH569.call ht.new
                      replace hrd := hrd.new ht.new
                      clear hD
                      have hD := hD2
                      clear hD2 ht
                      intro a574 he574
                      clear he571 a571 hH569
                      refine ⟨hH573, ?_⟩
                      refine kNewP (i := 3) (fun p => .slice (some ⟨p, 0, none⟩) 1 1) he574 hH573 rfl rfl rfl (wanted_plain rfl _) (rn_bsL1 rfl (he574.op rfl) w573) ?_
                      intro p575 w575 a576 hp hn hH575 he576
                      replace hD := hD.cons hn hp (hH575.at (i := 0) rfl).lt
                      replace hrd := hrd.new hn
                      refine ⟨(hH575.drop1 0 rfl), ?_⟩
                      clear he574 a574 hH573 hn hp
                      exact ⟨A1, c1, p575, he576.mem ⟨rfl, rfl, rfl, rfl, rfl, rfl, rfl, rfl, rfl, rfl, rfl, rfl, rfl, rfl, rfl, rfl, rfl, rfl, rfl, rfl, rfl, rfl, rfl, rfl, rfl, rfl, rfl, rfl, rfl, rfl, rfl, trivial⟩, hH575, hD⟩
                    · skip
                      refine kNewP (i := 3) (fun p => .slice (some ⟨p, 0, none⟩) 1 1) he571 hH569 rfl rfl rfl (wanted_plain rfl _) (rn_bsL1 rfl (he571.op rfl) w569) ?_
                      intro p577 w577 a578 hp hn hH577 he578
                      replace hD := hD.cons hn hp (hH577.at (i := 0) rfl).lt
                      replace hrd := hrd.new hn
                      refine ⟨(hH577.drop1 0 rfl), ?_⟩
                      clear he571 a571 hH569 hn hp
                      refine kEx (i := 1) he578 rfl rfl rfl (wanted_plain rfl _) (rg_app0 hrd (by omega) rfl (fun _ => rfl) (he578.op rfl)) ?_
                      rintro _ w579 ⟨A1, c1, rfl, ht⟩
                      have hD2 := hD.made ht
                      have hH579 := hH577.call ht.new
                      replace hrd := hrd.new ht.new
                      clear hD
                      have hD := hD2
                      clear hD2 ht
                      intro a580 he580
                      clear he578 a578 hH577
                      refine ⟨(hH579.drop1 0 rfl), ?_⟩
                      exact ⟨A1, c1, p577, he580.mem ⟨rfl, rfl, rfl, rfl, rfl, rfl, rfl, rfl, rfl, rfl, rfl, rfl, rfl, rfl, rfl, rfl, rfl, rfl, rfl, rfl, rfl, rfl, rfl, rfl, rfl, rfl, rfl, rfl, rfl, rfl, rfl, trivial⟩, hH579, hD⟩
                    · skip
                      clear he571 hH569 hD
                      rintro a572 w572 ⟨A1, c1, q572, he572, hH572, hD⟩
                      obtain ⟨F_, hsep, hF, hstep⟩ := Dt.step (A := [rowD (.slice A1 xa.length c1) xa]) (D := [rdX xa L, shD ps (L ++ [([tc (1024 + (k : Int))], false)]) m gn, cellsD (.slice At 1 ct) [tc (1024 + (k : Int))]]) hD
                      refine hEx (fuel := 1) (i := 4) he572 (by kernel_rfl) rfl rfl rfl (wanted_plain rfl _) (app_r (u := ⟨At, 1, ct, false⟩) (M := (L ++ [([tc (1024 + (k : Int))], false)]).length) hsep.the (rdg_blk (R := rL) (l := [⟨At, 1, ct, false⟩]) (hH572.at (i := 0) rfl) rfl rfl) (by simp; omega) (by simp; omega) rfl (he572.op rfl) (he572.op rfl)) ?_
                      rintro _ w581 ⟨A2, c2, rfl, ht⟩
                      obtain ⟨hD2, hHs⟩ := hstep _ _ ht
                      have hH581 := hHs _ rfl hH572
                      clear hHs hstep hsep hF
                      clear hD
                      have hD := hD2
                      clear hD2 ht
                      refine ⟨(hH581.drop1 0 rfl), ?_⟩
                      intro a582 he582
                      clear he572 a572 hH572
                      refine hV (fuel := 0) (i := 5) (Value.slice A2 (L ++ [([tc (1024 + (k : Int))], false)]).length c2) he582 rfl rfl rfl (by kernel_rfl) (by kernel_rfl) (by kernel_rfl) (fun _ _ _ h => h) (wanted_plain rfl _) (fun w' _ => rn_asg rfl (he582.op rfl) w') (hH581.drop1 0 rfl) ?_
                      intro a583 he583
                      clear he582 a582
                      refine wpAnyH_done (by kernel_rfl) ?_ _
                      replace hD := hD.pick 1 rfl
                      replace hD := hD.pick 3 rfl
                      replace hD := hD.pick 2 rfl
                      replace hD := Dt.front (A := [rowD (.slice A2 (L ++ [([tc (1024 + (k : Int))], false)]).length c2) (xa ++ [⟨At, 1, ct, false⟩]), cellsD (.slice At 1 ct) [tc (1024 + (k : Int))], rdX xa L]) (B := [rdD (.slice A2 (L ++ [([tc (1024 + (k : Int))], false)]).length c2) (L ++ [([tc (1024 + (k : Int))], false)])]) (D := [shD ps (L ++ [([tc (1024 + (k : Int))], false)]) m gn]) hD (fun G h => rd_snoc rfl h)
                      refine block_ok ?_
                      refine then_ok ?_
                      have he584 : Env 154 [(7, Value.slice A2 (L ++ [([tc (1024 + (k : Int))], false)]).length c2), (10, Value.bool false), (8, Value.int .i64 (k : Int)), (0, Value.int .u8 (m : Int)), (5, Value.pointer (some ⟨ps, 0, none⟩)), (39, Value.slice (some ⟨bz, oz, none⟩) n c), (40, Value.int .i64 (n : Nat)), (41, Value.int .i64 (k : Int))] a583 := he583.mem ⟨rfl, rfl, rfl, rfl, rfl, rfl, rfl, rfl, trivial⟩
                      clear he583
                      have hok2 := sh_ok (hD.get (i := 1) rfl).choose_spec
                      have hpg2 := hok2.2.2.1
                      have hLb2 := hok2.big
                      have hll2 := hok2.len
                      refine wp_seq ?_
                      refine wp_region_lit ?_
                      refine lV (Value.bool false) he584 rfl rfl (wanted_plain rfl _) (rn_mv rfl (he584.op rfl) w581) ?_
                      intro a585 he585
                      clear he584 a583
                      refine lV (Value.bool false) he585 rfl rfl (wanted_plain rfl _) (rn_mv rfl (he585.op rfl) w581) ?_
                      intro a586 he586
                      clear he585 a585
                      refine lSkip he586 rfl rfl (he586.wantNot rfl rfl rfl rfl rfl rfl) ?_
                      intro a587 he587
                      clear he586 a586
                      refine lSkip he587 rfl rfl (he587.wantNot rfl rfl rfl rfl rfl rfl) ?_
                      intro a588 he588
                      clear he587 a587
                      refine lSkip he588 rfl rfl (he588.wantNot rfl rfl rfl rfl rfl rfl) ?_
                      intro a589 he589
                      clear he588 a588
                      refine lV (Value.bool false) he589 rfl rfl (wanted_plain rfl _) (rn_pk0 rfl (he589.op rfl) (he589.op rfl) w581) ?_
                      intro a590 he590
                      clear he589 a589
                      refine lV (Value.bool false) he590 rfl rfl (wanted_plain rfl _) (rn_mv rfl (he590.op rfl) w581) ?_
                      intro a591 he591
                      clear he590 a590
                      refine lV (Value.pointer (some ⟨ps, 0, none⟩)) he591 rfl rfl (he591.want rfl rfl rfl rfl rfl) (rn_mv rfl (he591.op rfl) w581) ?_
                      intro a592 he592
                      clear he591 a591
                      obtain ⟨Fs_, hs_⟩ := hD.get (i := 1) rfl
                      refine lC he592 rfl rfl Tryd.func18 (by kernel_rfl) rfl rfl (he592.want rfl rfl rfl rfl rfl) rfl (lenS_b Fs_ ps m gn (L ++ [([tc (1024 + (k : Int))], false)]) w581 hs_ hD.tab) ?_
                      intro w593 a594 hn he594
                      have hH593 := hH581.call hn
                      replace hD := (hD).new hn
                      clear he592 a592 hH581 hn
                      clear hs_ Fs_
                      refine lV (Value.pointer (some ⟨ps, 0, none⟩)) he594 rfl rfl (he594.want rfl rfl rfl rfl rfl) (rn_mv rfl (he594.op rfl) w593) ?_
                      intro a595 he595
                      clear he594 a594
                      obtain ⟨Fs_, hs_⟩ := hD.get (i := 1) rfl
                      refine lC he595 rfl rfl Tryd.func15 (by kernel_rfl) rfl rfl (he595.want rfl rfl rfl rfl rfl) rfl (room_b ps m gn (L ++ [([tc (1024 + (k : Int))], false)]) Fs_ w593 hs_ hD.tab) ?_
                      intro w596 a597 hn he597
                      have hH596 := hH593.call hn
                      replace hD := (hD).new hn
                      clear he595 a595 hH593 hn
                      clear hs_ Fs_
                      refine lV (Value.int .i64 (((L ++ [([tc (1024 + (k : Int))], false)]).length : Int) + ((m - gn - (L ++ [([tc (1024 + (k : Int))], false)]).length : Nat) : Int))) he597 rfl rfl (he597.want rfl rfl rfl rfl rfl) (rn_add1 rfl (he597.op rfl) (he597.op rfl) (by rw [IntWalk.i64_in _ ⟨by omega, by omega⟩]) w596) ?_
                      intro a598 he598
                      clear he597 a597
                      refine lV (Value.pointer (some ⟨ps, 0, none⟩)) he598 rfl rfl (he598.want rfl rfl rfl rfl rfl) (rn_mv rfl (he598.op rfl) w596) ?_
                      intro a599 he599
                      clear he598 a598
                      obtain ⟨Fs_, hs_⟩ := hD.get (i := 1) rfl
                      refine lC he599 rfl rfl Tryd.func19 (by kernel_rfl) rfl rfl (he599.want rfl rfl rfl rfl rfl) rfl (goneS_b Fs_ ps m gn (L ++ [([tc (1024 + (k : Int))], false)]) w596 hs_ hD.tab) ?_
                      intro w600 a601 hn he601
                      have hH600 := hH596.call hn
                      replace hD := (hD).new hn
                      clear he599 a599 hH596 hn
                      clear hs_ Fs_
                      refine lV (Value.int .i64 (m : Int)) he601 rfl rfl (he601.want rfl rfl rfl rfl rfl) (rn_add1 rfl (he601.op rfl) (he601.op rfl) (by rw [IntWalk.i64_in _ ⟨by omega, by omega⟩]; omega) w600) ?_
                      intro a602 he602
                      clear he601 a601
                      refine lV (Value.pointer (some ⟨ps, 0, none⟩)) he602 rfl rfl (he602.want rfl rfl rfl rfl rfl) (rn_mv rfl (he602.op rfl) w600) ?_
                      intro a603 he603
                      clear he602 a602
                      obtain ⟨Fs_, hs_⟩ := hD.get (i := 1) rfl
                      refine lC he603 rfl rfl Tryd.func22 (by kernel_rfl) rfl rfl (he603.want rfl rfl rfl rfl rfl) rfl (capS_b Fs_ ps m gn (L ++ [([tc (1024 + (k : Int))], false)]) w600 hs_ hD.tab) ?_
                      intro w604 a605 hn he605
                      have hH604 := hH600.call hn
                      replace hD := (hD).new hn
                      clear he603 a603 hH600 hn
                      clear hs_ Fs_
                      refine lV (Value.bool false) he605 rfl rfl (he605.want rfl rfl rfl rfl rfl) (rn_neI rfl (he605.op rfl) (he605.op rfl) (by simp) w604) ?_
                      intro a606 he606
                      clear he605 a605
                      refine lV (Value.bool false) he606 rfl rfl (wanted_plain rfl _) (rn_pk0 rfl (he606.op rfl) (he606.op rfl) w604) ?_
                      intro a607 he607
                      clear he606 a606
                      refine lV (Value.bool false) he607 rfl rfl (wanted_plain rfl _) (rn_mv rfl (he607.op rfl) w604) ?_
                      intro a608 he608
                      clear he607 a607
                      refine lV (Value.pointer (some ⟨ps, 0, none⟩)) he608 rfl rfl (he608.want rfl rfl rfl rfl rfl) (rn_mv rfl (he608.op rfl) w604) ?_
                      intro a609 he609
                      clear he608 a608
                      obtain ⟨Fs_, hs_⟩ := hD.get (i := 1) rfl
                      refine lC he609 rfl rfl Tryd.func22 (by kernel_rfl) rfl rfl (he609.want rfl rfl rfl rfl rfl) rfl (capS_b Fs_ ps m gn (L ++ [([tc (1024 + (k : Int))], false)]) w604 hs_ hD.tab) ?_
                      intro w610 a611 hn he611
                      have hH610 := hH604.call hn
                      replace hD := (hD).new hn
                      clear he609 a609 hH604 hn
                      clear hs_ Fs_
                      refine lV (Value.int .u8 (m : Int)) he611 rfl rfl (he611.want rfl rfl rfl rfl rfl) (rn_mv rfl (he611.op rfl) w610) ?_
                      intro a612 he612
                      clear he611 a611
                      refine lV (Value.int .i64 (m : Int)) he612 rfl rfl (he612.want rfl rfl rfl rfl rfl) (rn_cv8I rfl (he612.op rfl) (IntWalk.i64_in _ ⟨by omega, by omega⟩) w610) ?_
                      intro a613 he613
                      clear he612 a612
                      refine lV (Value.bool false) he613 rfl rfl (he613.want rfl rfl rfl rfl rfl) (rn_neI rfl (he613.op rfl) (he613.op rfl) (by simp) w610) ?_
                      intro a614 he614
                      clear he613 a613
                      refine lV (Value.bool false) he614 rfl rfl (wanted_plain rfl _) (rn_pk0 rfl (he614.op rfl) (he614.op rfl) w610) ?_
                      intro a615 he615
                      clear he614 a614
                      refine lV (Value.bool false) he615 rfl rfl (wanted_plain rfl _) (rn_mv rfl (he615.op rfl) w610) ?_
                      intro a616 he616
                      clear he615 a615
                      refine lV (Value.pointer (some ⟨ps, 0, none⟩)) he616 rfl rfl (he616.want rfl rfl rfl rfl rfl) (rn_mv rfl (he616.op rfl) w610) ?_
                      intro a617 he617
                      clear he616 a616
                      obtain ⟨Fs_, hs_⟩ := hD.get (i := 1) rfl
                      refine lCx he617 rfl rfl Tryd.func23 (by kernel_rfl) rfl rfl (he617.want rfl rfl rfl rfl rfl) rfl (lines_b _ ps m gn (L ++ [([tc (1024 + (k : Int))], false)]) w610 hs_ hD.tab) ?_
                      rintro _ w618 ⟨A9, c9, rfl, ht⟩
                      have hD2 := hD.made ht
                      have hH618 := hH610.call ht.new
                      clear hD
                      have hD := hD2
                      clear hD2 ht
                      refine ⟨_, rfl, ?_⟩
                      intro a619 he619
                      clear he617 a617 hH610
                      refine lV (Value.slice A2 (L ++ [([tc (1024 + (k : Int))], false)]).length c2) he619 rfl rfl (he619.want rfl rfl rfl rfl rfl) (rn_mv rfl (he619.op rfl) w618) ?_
                      intro a620 he620
                      clear he619 a619
                      refine lC he620 rfl rfl Tryd.func27 (by kernel_rfl) rfl rfl (he620.want rfl rfl rfl rfl rfl) rfl (all_b _ _ (L ++ [([tc (1024 + (k : Int))], false)]) (L ++ [([tc (1024 + (k : Int))], false)]) true (by simp) hLb2 hLb2 (by omega) (by omega) w618 (lines_lns (hD.get (i := 0) rfl).choose_spec).r (LnsF.r (hD.get (i := 1) rfl).choose_spec)) ?_
                      intro w621 a622 hn he622
                      have hH621 := hH618.call hn
                      replace hD := (hD).new hn
                      clear he620 a620 hH618 hn
                      refine lV (Value.bool false) he622 rfl rfl (he622.want rfl rfl rfl rfl rfl) (rn_not (b := true) rfl (he622.op rfl) w621) ?_
                      intro a623 he623
                      clear he622 a622
                      refine lV (Value.bool false) he623 rfl rfl (wanted_plain rfl _) (rn_pk0 rfl (he623.op rfl) (he623.op rfl) w621) ?_
                      intro a624 he624
                      clear he623 a623
                      refine wpList_nil ?_
                      refine then_ok ?_
                      refine wp_cond_false (he624.op rfl) ?_
                      refine wp_skip ?_
                      refine block_ok ?_
                      refine then_ok ?_
                      refine wp_region_lit ?_
                      refine lV (Value.int .i64 ((k + 1 : Nat) : Int)) he624 rfl rfl (wanted_plain rfl _) (rn_add1 rfl (he624.op rfl) (he624.op rfl) (by rw [IntWalk.i64_in _ ⟨by omega, by omega⟩]; omega) w621) ?_
                      intro a625 he625
                      clear he624 a624
                      refine lV (Value.int .i64 ((k + 1 : Nat) : Int)) he625 rfl rfl (wanted_plain rfl _) (rn_mv rfl (he625.op rfl) w621) ?_
                      intro a626 he626
                      clear he625 a625
                      refine wpList_nil ?_
                      refine then_ok ?_
                      replace hD := hD.pick 1 rfl
                      replace hD := hD.pick 2 rfl
                      have hH627 := hH621.tail rfl
                      clear hH621
                      replace hD := hD.tail
                      have hH628 := hH627.tail rfl
                      clear hH627
                      replace hD := hD.tail
                      exact ⟨n - (k + 1), by omega, k + 1, gn, (L ++ [([tc (1024 + (k : Int))], false)]), A2, c2, rfl, by omega, he626.mem ⟨rfl, rfl, rfl, rfl, rfl, rfl, trivial⟩, hH628, Dt.first (A := [shD ps (L ++ [([tc (1024 + (k : Int))], false)]) m gn, rdD (.slice A2 (L ++ [([tc (1024 + (k : Int))], false)]).length c2) (L ++ [([tc (1024 + (k : Int))], false)])]) hD⟩
          · skip
            refine wp_seq ?_
            refine wp_region_lit ?_
            refine lV (Value.bool false) he76 rfl rfl (wanted_plain rfl _) (rn_lss rfl (he76.op rfl) (he76.op rfl) (decide_eq_false (by omega)) w76) ?_
            intro a629 he629
            clear he76 a76
            refine wpList_nil ?_
            refine then_ok ?_
            refine wp_seq ?_
            refine wp_cond_false (he629.op rfl) ?_
            refine wp_exit ?_
            simp only [Exit.then, Exit.inBlock, if_true]
            refine wp_seq ?_
            refine wp_region_lit ?_
            refine lC he629 rfl rfl Tryd.func8 (by kernel_rfl) rfl rfl (wanted_plain rfl _) rfl (known_any w76 hD.tab) ?_
            intro w630 a631 hn he631
            have hH630 := hH76.call hn
            replace hD := (hD).new hn
            clear he629 a629 hH76 hn
            refine lV (Value.bool true) he631 rfl rfl (wanted_plain rfl _) (rn_asg rfl (he631.op rfl) w630) ?_
            intro a632 he632
            clear he631 a631
            refine wpList_nil ?_
            refine then_ok ?_
            refine wp_ret ?_
            try simp only [Exit.then, Exit.inBlock]
            exact ret_env rfl he632 rfl ⟨rfl, hD.fr.new_below⟩

end Go.Proofs.YtjnghaoboopflaaDoor
