/-
  SheetFulls.
-/
import Derived.Test.YtjnghaoboopflaaDoorSKnown
namespace Go.Proofs.YtjnghaoboopflaaDoor
open Go.RowKit

/-- The line number i of a full page. -/
abbrev lnA (i : Nat) : Ln := ([tc (97 + (i : Int) % 26)], false)
theorem ok_lnA (i : Nat) : okL (lnA i).1 = true := by
  have h : ∀ j : Nat, j < 26 → okL [tc (97 + (j : Int))] = true := by decide +kernel
  have := h (i % 26) (Nat.mod_lt _ (by decide))
  rwa [Int.natCast_emod] at this
def fullL (k : Nat) : List Ln := (List.range k).map lnA
theorem fullL_len (k : Nat) : (fullL k).length = k := by simp [fullL]
theorem fullL_succ (k : Nat) : fullL (k + 1) = fullL k ++ [lnA k] := by simp [fullL, List.range_succ]
theorem fullL_at {k i : Nat} (h : i < k) : (fullL k)[i]? = some (lnA i) := by simp [fullL, h]
theorem mod_small (k : Nat) : ((k : Int).tmod 26) = (k : Int) % 26 := Int.tmod_eq_emod_of_nonneg (by omega)
set_option linter.unusedSimpArgs false in
set_option maxRecDepth 100000 in
set_option maxHeartbeats 1600000 in
theorem sheetFulls_walk (pl dr po : Int) (hp0 : 0 ≤ pl) (hp9 : pl ≤ 65535) (hd0 : 0 ≤ dr) (hd9 : dr ≤ 65535) (ho0 : 0 ≤ po) (ho9 : po ≤ 65535) (w : World) (hT : Tab w) :
    Calls Tryd.prog 4 #[.int .u16 pl, .int .u16 dr, .int .u16 po] w fun e w' => e = .returned (.bool true) ∧ Below w.heap.size w w' := by
  refine calls_args (vl := [Value.int .u16 pl, Value.int .u16 dr, Value.int .u16 po]) 132 Tryd.func4 rfl Tryd.ntmps4 (by kernel_rfl) (fun a he => ?_)
  have he0 : Env 132 [(0, Value.int .u16 pl), (1, Value.int .u16 dr), (2, Value.int .u16 po)] a := he
  clear he
  have hH := Hp.start w
  have hD := Dt.start hT
  refine wp_seq ?_
  refine wp_region_lit ?_
  refine lV (Value.bool false) he0 rfl rfl (wanted_plain rfl _) (rn_asg rfl (he0.op rfl) w) ?_
  intro a1 he1
  clear he0 a
  refine wpList_nil ?_
  refine then_ok ?_
  by_cases h1 : pl < 1
  · skip
    refine wp_seq ?_
    refine wp_seq ?_
    refine wp_region_lit ?_
    refine lV (Value.int .u16 pl) he1 rfl rfl (wanted_plain rfl _) (rn_mv rfl (he1.op rfl) w) ?_
    intro a2 he2
    clear he1 a1
    refine lV (Value.bool true) he2 rfl rfl (wanted_plain rfl _) (rn_ls16 rfl (he2.op rfl) (he2.op rfl) (decide_eq_true h1) w) ?_
    intro a3 he3
    clear he2 a2
    refine lV (Value.bool true) he3 rfl rfl (wanted_plain rfl _) (rn_mv rfl (he3.op rfl) w) ?_
    intro a4 he4
    clear he3 a3
    refine lSkip he4 rfl rfl (he4.wantNot rfl rfl rfl rfl rfl rfl) ?_
    intro a5 he5
    clear he4 a4
    refine lSkip he5 rfl rfl (he5.wantNot rfl rfl rfl rfl rfl rfl) ?_
    intro a6 he6
    clear he5 a5
    refine lV (Value.bool true) he6 rfl rfl (wanted_plain rfl _) (rn_pk rfl (he6.op rfl) (he6.op rfl) w) ?_
    intro a7 he7
    clear he6 a6
    refine wpList_nil ?_
    refine then_ok ?_
    refine wp_cond_true (he7.op rfl) ?_
    refine wp_seq ?_
    refine wp_region_lit ?_
    refine lC he7 rfl rfl Tryd.func8 (by kernel_rfl) rfl rfl (wanted_plain rfl _) rfl (known_any w hD.tab) ?_
    intro w8 a9 hn he9
    have hH8 := hH.call hn
    replace hD := (hD).new hn
    clear he7 a7 hH hn
    refine lV (Value.bool true) he9 rfl rfl (wanted_plain rfl _) (rn_asg rfl (he9.op rfl) w8) ?_
    intro a10 he10
    clear he9 a9
    refine wpList_nil ?_
    refine then_ok ?_
    refine wp_ret ?_
    try simp only [Exit.then, Exit.inBlock]
    exact ret_env rfl he10 rfl ⟨rfl, hD.fr.new_below⟩
  · skip
    by_cases h2 : 1024 < pl
    · skip
      refine wp_seq ?_
      refine wp_seq ?_
      refine wp_region_lit ?_
      refine lV (Value.int .u16 pl) he1 rfl rfl (wanted_plain rfl _) (rn_mv rfl (he1.op rfl) w) ?_
      intro a11 he11
      clear he1 a1
      refine lV (Value.bool false) he11 rfl rfl (wanted_plain rfl _) (rn_ls16 rfl (he11.op rfl) (he11.op rfl) (decide_eq_false h1) w) ?_
      intro a12 he12
      clear he11 a11
      refine lV (Value.bool false) he12 rfl rfl (wanted_plain rfl _) (rn_mv rfl (he12.op rfl) w) ?_
      intro a13 he13
      clear he12 a12
      refine lV (Value.int .u16 pl) he13 rfl rfl (he13.want rfl rfl rfl rfl rfl) (rn_mv rfl (he13.op rfl) w) ?_
      intro a14 he14
      clear he13 a13
      refine lV (Value.bool true) he14 rfl rfl (he14.want rfl rfl rfl rfl rfl) (rn_gt16 rfl (he14.op rfl) (he14.op rfl) (decide_eq_true h2) w) ?_
      intro a15 he15
      clear he14 a14
      refine lV (Value.bool true) he15 rfl rfl (wanted_plain rfl _) (rn_pk0 rfl (he15.op rfl) (he15.op rfl) w) ?_
      intro a16 he16
      clear he15 a15
      refine wpList_nil ?_
      refine then_ok ?_
      refine wp_cond_true (he16.op rfl) ?_
      refine wp_seq ?_
      refine wp_region_lit ?_
      refine lC he16 rfl rfl Tryd.func8 (by kernel_rfl) rfl rfl (wanted_plain rfl _) rfl (known_any w hD.tab) ?_
      intro w17 a18 hn he18
      have hH17 := hH.call hn
      replace hD := (hD).new hn
      clear he16 a16 hH hn
      refine lV (Value.bool true) he18 rfl rfl (wanted_plain rfl _) (rn_asg rfl (he18.op rfl) w17) ?_
      intro a19 he19
      clear he18 a18
      refine wpList_nil ?_
      refine then_ok ?_
      refine wp_ret ?_
      try simp only [Exit.then, Exit.inBlock]
      exact ret_env rfl he19 rfl ⟨rfl, hD.fr.new_below⟩
    · skip
      refine wp_seq ?_
      refine wp_seq ?_
      refine wp_region_lit ?_
      refine lV (Value.int .u16 pl) he1 rfl rfl (wanted_plain rfl _) (rn_mv rfl (he1.op rfl) w) ?_
      intro a20 he20
      clear he1 a1
      refine lV (Value.bool false) he20 rfl rfl (wanted_plain rfl _) (rn_ls16 rfl (he20.op rfl) (he20.op rfl) (decide_eq_false h1) w) ?_
      intro a21 he21
      clear he20 a20
      refine lV (Value.bool false) he21 rfl rfl (wanted_plain rfl _) (rn_mv rfl (he21.op rfl) w) ?_
      intro a22 he22
      clear he21 a21
      refine lV (Value.int .u16 pl) he22 rfl rfl (he22.want rfl rfl rfl rfl rfl) (rn_mv rfl (he22.op rfl) w) ?_
      intro a23 he23
      clear he22 a22
      refine lV (Value.bool false) he23 rfl rfl (he23.want rfl rfl rfl rfl rfl) (rn_gt16 rfl (he23.op rfl) (he23.op rfl) (decide_eq_false h2) w) ?_
      intro a24 he24
      clear he23 a23
      refine lV (Value.bool false) he24 rfl rfl (wanted_plain rfl _) (rn_pk0 rfl (he24.op rfl) (he24.op rfl) w) ?_
      intro a25 he25
      clear he24 a24
      refine wpList_nil ?_
      refine then_ok ?_
      refine wp_cond_false (he25.op rfl) ?_
      refine wp_skip ?_
      refine then_ok ?_
      obtain ⟨m, rfl⟩ : ∃ m : Nat, pl = m := ⟨pl.toNat, by omega⟩
      have hm1 : 1 ≤ m := by omega
      have hm9 : m ≤ 1024 := by omega
      refine wp_seq ?_
      refine wp_region_lit ?_
      refine lV (Value.int .u16 (m : Int)) he25 rfl rfl (wanted_plain rfl _) (rn_mv rfl (he25.op rfl) w) ?_
      intro a26 he26
      clear he25 a25
      refine lV (Value.int .i64 (m : Int)) he26 rfl rfl (wanted_plain rfl _) (rn_cv16I rfl (he26.op rfl) (IntWalk.i64_in _ ⟨by omega, by omega⟩) w) ?_
      intro a27 he27
      clear he26 a26
      refine lCx he27 rfl rfl Tryd.func9 (by kernel_rfl) rfl rfl (wanted_plain rfl _) rfl (new_ok m hm1 hm9 w hD.tab) ?_
      rintro _ w28 ⟨ps, rfl, ht⟩
      have hD2 := hD.made ht
      have hH28 := hH.call ht.new
      clear hD
      have hD := hD2
      clear hD2 ht
      refine ⟨_, rfl, ?_⟩
      intro a29 he29
      clear he27 a27 hH
      refine lV (Value.tuple #[Value.pointer (some ⟨ps, 0, none⟩), Value.int .i64 0]) he29 rfl rfl (wanted_plain rfl _) (rn_mv rfl (he29.op rfl) w28) ?_
      intro a30 he30
      clear he29 a29
      refine lV (Value.pointer (some ⟨ps, 0, none⟩)) he30 rfl rfl (wanted_plain rfl _) (rn_ext rfl (he30.op rfl) rfl w28) ?_
      intro a31 he31
      clear he30 a30
      refine lV (Value.int .i64 0) he31 rfl rfl (wanted_plain rfl _) (rn_ext rfl (he31.op rfl) rfl w28) ?_
      intro a32 he32
      clear he31 a31
      refine lV (Value.pointer (some ⟨ps, 0, none⟩)) he32 rfl rfl (wanted_plain rfl _) (rn_asg rfl (he32.op rfl) w28) ?_
      intro a33 he33
      clear he32 a32
      refine lV (Value.int .i64 0) he33 rfl rfl (wanted_plain rfl _) (rn_asg rfl (he33.op rfl) w28) ?_
      intro a34 he34
      clear he33 a33
      refine wpList_nil ?_
      refine then_ok ?_
      refine wp_seq ?_
      refine wp_seq ?_
      refine wp_region_lit ?_
      refine lV (Value.pointer (some ⟨ps, 0, none⟩)) he34 rfl rfl (wanted_plain rfl _) (rn_mv rfl (he34.op rfl) w28) ?_
      intro a35 he35
      clear he34 a34
      refine lV (Value.bool false) he35 rfl rfl (wanted_plain rfl _) (rn_eqP1 rfl (he35.op rfl) (fun _ => rfl) w28) ?_
      intro a36 he36
      clear he35 a35
      refine lV (Value.bool false) he36 rfl rfl (wanted_plain rfl _) (rn_mv rfl (he36.op rfl) w28) ?_
      intro a37 he37
      clear he36 a36
      refine lV (Value.int .i64 0) he37 rfl rfl (he37.want rfl rfl rfl rfl rfl) (rn_mv rfl (he37.op rfl) w28) ?_
      intro a38 he38
      clear he37 a37
      refine lV (Value.bool false) he38 rfl rfl (he38.want rfl rfl rfl rfl rfl) (rn_neE rfl (he38.op rfl) (he38.op rfl) (by simp) w28) ?_
      intro a39 he39
      clear he38 a38
      refine lV (Value.bool false) he39 rfl rfl (wanted_plain rfl _) (rn_pk0 rfl (he39.op rfl) (he39.op rfl) w28) ?_
      intro a40 he40
      clear he39 a39
      refine wpList_nil ?_
      refine then_ok ?_
      refine wp_cond_false (he40.op rfl) ?_
      refine wp_skip ?_
      refine then_ok ?_
      have he41 : Env 132 [(7, Value.pointer (some ⟨ps, 0, none⟩)), (0, Value.int .u16 (m : Int)), (1, Value.int .u16 dr), (2, Value.int .u16 po)] a40 := he40.mem ⟨rfl, rfl, rfl, rfl, trivial⟩
      clear he40
      as_aux_lemma =>
        refine wp_seq ?_
        refine wp_seq ?_
        refine wp_region_lit ?_
        refine lV (Value.int .i64 0) he41 rfl rfl (wanted_plain rfl _) (rn_asg rfl (he41.op rfl) w28) ?_
        intro a42 he42
        clear he41 a40
        refine wpList_nil ?_
        refine then_ok ?_
        refine wp_block ?_
        refine loop_nat (fun q a w' => ∃ (k : Nat), q = m - k ∧ k ≤ m ∧ Env 132 [(0, Value.int .u16 (m : Int)), (1, Value.int .u16 dr), (2, Value.int .u16 po), (7, Value.pointer (some ⟨ps, 0, none⟩)), (9, Value.int .i64 (k : Int))] a ∧ Hp w [] w' ∧ Dt w w (fun _ => False) 0 [] [shD ps (fullL k) m 0] w') m ⟨0, by omega, by omega, he42.mem ⟨rfl, rfl, rfl, rfl, rfl, trivial⟩, hH28, hD⟩ ?_
        clear he42 hH28
        rintro q a43 w43 ⟨k, rfl, hk, he43, hH43, hD⟩
        by_cases hkm : k < m
        · skip
          refine wp_seq ?_
          refine wp_seq ?_
          refine wp_region_lit ?_
          refine lV (Value.int .i64 (k : Int)) he43 rfl rfl (wanted_plain rfl _) (rn_mv rfl (he43.op rfl) w43) ?_
          intro a44 he44
          clear he43 a43
          refine lV (Value.int .u16 (m : Int)) he44 rfl rfl (wanted_plain rfl _) (rn_mv rfl (he44.op rfl) w43) ?_
          intro a45 he45
          clear he44 a44
          refine lV (Value.int .i64 (m : Int)) he45 rfl rfl (wanted_plain rfl _) (rn_cv16I rfl (he45.op rfl) (IntWalk.i64_in _ ⟨by omega, by omega⟩) w43) ?_
          intro a46 he46
          clear he45 a45
          refine lV (Value.bool true) he46 rfl rfl (wanted_plain rfl _) (rn_lss rfl (he46.op rfl) (he46.op rfl) (decide_eq_true (by omega)) w43) ?_
          intro a47 he47
          clear he46 a46
          refine wpList_nil ?_
          refine then_ok ?_
          refine wp_cond_true (he47.op rfl) ?_
          refine wp_skip ?_
          refine then_ok ?_
          refine wp_seq ?_
          refine wp_block ?_
          refine wp_seq ?_
          refine wp_region_lit ?_
          refine lV (Value.pointer (some ⟨ps, 0, none⟩)) he47 rfl rfl (wanted_plain rfl _) (rn_mv rfl (he47.op rfl) w43) ?_
          intro a48 he48
          clear he47 a47
          refine lV (Value.int .i64 (k : Int)) he48 rfl rfl (wanted_plain rfl _) (rn_mv rfl (he48.op rfl) w43) ?_
          intro a49 he49
          clear he48 a48
          refine lV (Value.int .i64 ((k : Int) % 26)) he49 rfl rfl (wanted_plain rfl _) (rn_remI rfl (he49.op rfl) (he49.op rfl) (by decide) (mod_small _) w43) ?_
          intro a50 he50
          clear he49 a49
          refine lV (Value.int .i64 (97 + (k : Int) % 26)) he50 rfl rfl (wanted_plain rfl _) (rn_add1 rfl (he50.op rfl) (he50.op rfl) (by rw [IntWalk.i64_in _ ⟨by omega, by omega⟩]) w43) ?_
          intro a51 he51
          clear he50 a50
          refine lV (Value.int .i32 (97 + (k : Int) % 26)) he51 rfl rfl (wanted_plain rfl _) (rn_cvI32 rfl (he51.op rfl) (IntWalk.i32_in _ ⟨by omega, by omega⟩) w43) ?_
          intro a52 he52
          clear he51 a51
          refine lCx he52 rfl rfl Tryd.func14 (by kernel_rfl) rfl rfl (wanted_plain rfl _) rfl (text_b (97 + (k : Int) % 26) w43) ?_
          rintro _ w53 ⟨At, ct, rfl, ht⟩
          have hD2 := hD.made ht
          have hH53 := hH43.call ht.new
          clear hD
          have hD := hD2
          clear hD2 ht
          refine ⟨_, rfl, ?_⟩
          intro a54 he54
          clear he52 a52 hH43
          have hown := cells_sl (hD.get (i := 0) rfl).choose_spec
          have hps : pushS (fullL k) m 0 (lnA k) = (fullL (k + 1), 0) := by rw [push_full (ok_lnA k) (by rw [fullL_len]; omega), fullL_succ]
          replace hD := hD.pick 1 rfl
          obtain ⟨F_, hsep, hF, hstep⟩ := Dt.step (A := [shD ps (fullL k) m 0]) (D := [cellsD (.slice At 1 ct) [tc (97 + (k : Int) % 26)]]) hD
          refine lCx he54 rfl rfl Tryd.func13 (by kernel_rfl) rfl rfl (wanted_plain rfl _) rfl ((hps ▸ push_b F_ ps m 0 (fullL k) _ (lnA k).1 (lnA k).2 w53 hsep.the hF hD.tab hown)) ?_
          rintro _ w55 ⟨rfl, ht⟩
          obtain ⟨hD2, hHs⟩ := hstep _ _ ht
          have hH55 := hHs _ rfl hH53
          clear hHs hstep hsep hF
          clear hD
          have hD := hD2
          clear hD2 ht
          refine ⟨_, rfl, ?_⟩
          intro a56 he56
          clear he54 a54 hH53
          refine lV (Value.bool false) he56 rfl rfl (wanted_plain rfl _) (rn_neE rfl (he56.op rfl) (he56.op rfl) (by simp) w55) ?_
          intro a57 he57
          clear he56 a56
          refine wpList_nil ?_
          refine then_ok ?_
          refine wp_cond_false (he57.op rfl) ?_
          refine wp_skip ?_
          refine block_ok ?_
          refine then_ok ?_
          refine wp_region_lit ?_
          refine lV (Value.int .i64 (k : Int)) he57 rfl rfl (wanted_plain rfl _) (rn_mv rfl (he57.op rfl) w55) ?_
          intro a58 he58
          clear he57 a57
          refine lV (Value.int .i64 ((k + 1 : Nat) : Int)) he58 rfl rfl (wanted_plain rfl _) (rn_add1 rfl (he58.op rfl) (he58.op rfl) (by rw [IntWalk.i64_in _ ⟨by omega, by omega⟩]; omega) w55) ?_
          intro a59 he59
          clear he58 a58
          refine lV (Value.int .i64 ((k + 1 : Nat) : Int)) he59 rfl rfl (wanted_plain rfl _) (rn_asg rfl (he59.op rfl) w55) ?_
          intro a60 he60
          clear he59 a59
          refine wpList_nil ?_
          refine then_ok ?_
          exact ⟨m - (k + 1), by omega, k + 1, rfl, by omega, he60.mem ⟨rfl, rfl, rfl, rfl, rfl, trivial⟩, hH55, Dt.first (A := [shD ps (fullL (k + 1)) m 0]) hD⟩
        · skip
          refine wp_seq ?_
          refine wp_seq ?_
          refine wp_region_lit ?_
          refine lV (Value.int .i64 (k : Int)) he43 rfl rfl (wanted_plain rfl _) (rn_mv rfl (he43.op rfl) w43) ?_
          intro a61 he61
          clear he43 a43
          refine lV (Value.int .u16 (m : Int)) he61 rfl rfl (wanted_plain rfl _) (rn_mv rfl (he61.op rfl) w43) ?_
          intro a62 he62
          clear he61 a61
          refine lV (Value.int .i64 (m : Int)) he62 rfl rfl (wanted_plain rfl _) (rn_cv16I rfl (he62.op rfl) (IntWalk.i64_in _ ⟨by omega, by omega⟩) w43) ?_
          intro a63 he63
          clear he62 a62
          refine lV (Value.bool false) he63 rfl rfl (wanted_plain rfl _) (rn_lss rfl (he63.op rfl) (he63.op rfl) (decide_eq_false (by omega)) w43) ?_
          intro a64 he64
          clear he63 a63
          refine wpList_nil ?_
          refine then_ok ?_
          refine wp_cond_false (he64.op rfl) ?_
          refine wp_exit ?_
          simp only [Exit.then, Exit.inBlock, if_true]
          obtain rfl : k = m := by omega
          have he65 : Env 132 [(0, Value.int .u16 (k : Int)), (1, Value.int .u16 dr), (2, Value.int .u16 po), (7, Value.pointer (some ⟨ps, 0, none⟩))] a64 := he64.mem ⟨rfl, rfl, rfl, rfl, trivial⟩
          clear he64
          as_aux_lemma =>
            have hoz : okL [tc 122] = true := okz
            refine wp_seq ?_
            refine wp_seq ?_
            refine wp_region_lit ?_
            refine lV (Value.pointer (some ⟨ps, 0, none⟩)) he65 rfl rfl (wanted_plain rfl _) (rn_mv rfl (he65.op rfl) w43) ?_
            intro a66 he66
            clear he65 a64
            refine lCx he66 rfl rfl Tryd.func14 (by kernel_rfl) rfl rfl (wanted_plain rfl _) rfl (text_b (122) w43) ?_
            rintro _ w67 ⟨At, ct, rfl, ht⟩
            have hD2 := hD.made ht
            have hH67 := hH43.call ht.new
            clear hD
            have hD := hD2
            clear hD2 ht
            refine ⟨_, rfl, ?_⟩
            intro a68 he68
            clear he66 a66 hH43
            have hown := cells_sl (hD.get (i := 0) rfl).choose_spec
            have hps : pushS (fullL k) k 0 ([tc 122], false) = ((fullL k), 7) := push_no okz (by simp only [fullL_len, List.length_drop]; omega)
            replace hD := hD.pick 1 rfl
            obtain ⟨F_, hsep, hF, hstep⟩ := Dt.step (A := [shD ps (fullL k) k 0]) (D := [cellsD (.slice At 1 ct) [tc (122)]]) hD
            refine lCx he68 rfl rfl Tryd.func13 (by kernel_rfl) rfl rfl (wanted_plain rfl _) rfl ((hps ▸ push_b F_ ps k 0 (fullL k) _ [tc 122] false w67 hsep.the hF hD.tab hown)) ?_
            rintro _ w69 ⟨rfl, ht⟩
            obtain ⟨hD2, hHs⟩ := hstep _ _ ht
            have hH69 := hHs _ rfl hH67
            clear hHs hstep hsep hF
            clear hD
            have hD := hD2
            clear hD2 ht
            refine ⟨_, rfl, ?_⟩
            intro a70 he70
            clear he68 a68 hH67
            clear hown hps
            refine lV (Value.bool false) he70 rfl rfl (wanted_plain rfl _) (rn_neE rfl (he70.op rfl) (he70.op rfl) (by simp) w69) ?_
            intro a71 he71
            clear he70 a70
            refine lV (Value.bool false) he71 rfl rfl (wanted_plain rfl _) (rn_mv rfl (he71.op rfl) w69) ?_
            intro a72 he72
            clear he71 a71
            refine lV (Value.pointer (some ⟨ps, 0, none⟩)) he72 rfl rfl (he72.want rfl rfl rfl rfl rfl) (rn_mv rfl (he72.op rfl) w69) ?_
            intro a73 he73
            clear he72 a72
            obtain ⟨Fs_, hs_⟩ := hD.get (i := 0) rfl
            refine lC he73 rfl rfl Tryd.func15 (by kernel_rfl) rfl rfl (he73.want rfl rfl rfl rfl rfl) rfl (room_b ps k 0 (fullL k) Fs_ w69 hs_ hD.tab) ?_
            intro w74 a75 hn he75
            have hH74 := hH69.call hn
            replace hD := (hD).new hn
            clear he73 a73 hH69 hn
            clear hs_ Fs_
            refine lV (Value.bool false) he75 rfl rfl (he75.want rfl rfl rfl rfl rfl) (rn_neI rfl (he75.op rfl) (he75.op rfl) (by simp [fullL_len]) w74) ?_
            intro a76 he76
            clear he75 a75
            refine lV (Value.bool false) he76 rfl rfl (wanted_plain rfl _) (rn_pk0 rfl (he76.op rfl) (he76.op rfl) w74) ?_
            intro a77 he77
            clear he76 a76
            refine wpList_nil ?_
            refine then_ok ?_
            refine wp_cond_false (he77.op rfl) ?_
            refine wp_skip ?_
            refine then_ok ?_
            replace hD := hD.pick 1 rfl
            replace hD := hD.drop
            have he78 : Env 132 [(0, Value.int .u16 (k : Int)), (1, Value.int .u16 dr), (2, Value.int .u16 po), (7, Value.pointer (some ⟨ps, 0, none⟩))] a77 := he77.mem ⟨rfl, rfl, rfl, rfl, trivial⟩
            clear he77
            as_aux_lemma =>
              obtain ⟨d, hd⟩ : ∃ d : Nat, dr % (k + 1) = d := ⟨(dr % (k + 1)).toNat, by have := Int.emod_nonneg dr (show (k : Int) + 1 ≠ 0 by omega); omega⟩
              have hdk : d ≤ k := by have := Int.emod_lt_of_pos dr (show (0 : Int) < k + 1 by omega); omega
              have hdt : dr.tmod ((k : Int) + 1) = d := by rw [Int.tmod_eq_emod_of_nonneg hd0]; exact hd
              refine wp_seq ?_
              refine wp_region_lit ?_
              refine lV (Value.int .u16 dr) he78 rfl rfl (wanted_plain rfl _) (rn_mv rfl (he78.op rfl) w74) ?_
              intro a79 he79
              clear he78 a77
              refine lV (Value.int .i64 dr) he79 rfl rfl (wanted_plain rfl _) (rn_cv16I rfl (he79.op rfl) (IntWalk.i64_in _ ⟨by omega, by omega⟩) w74) ?_
              intro a80 he80
              clear he79 a79
              refine lV (Value.int .u16 (k : Int)) he80 rfl rfl (wanted_plain rfl _) (rn_mv rfl (he80.op rfl) w74) ?_
              intro a81 he81
              clear he80 a80
              refine lV (Value.int .i64 (k : Int)) he81 rfl rfl (wanted_plain rfl _) (rn_cv16I rfl (he81.op rfl) (IntWalk.i64_in _ ⟨by omega, by omega⟩) w74) ?_
              intro a82 he82
              clear he81 a81
              refine lV (Value.int .i64 ((k : Int) + 1)) he82 rfl rfl (wanted_plain rfl _) (rn_add1 rfl (he82.op rfl) (he82.op rfl) (by rw [IntWalk.i64_in _ ⟨by omega, by omega⟩]) w74) ?_
              intro a83 he83
              clear he82 a82
              refine lV (Value.int .i64 (d : Int)) he83 rfl rfl (wanted_plain rfl _) (rn_remI rfl (he83.op rfl) (he83.op rfl) (by omega) hdt w74) ?_
              intro a84 he84
              clear he83 a83
              refine lV (Value.int .i64 (d : Int)) he84 rfl rfl (wanted_plain rfl _) (rn_asg rfl (he84.op rfl) w74) ?_
              intro a85 he85
              clear he84 a84
              refine wpList_nil ?_
              refine then_ok ?_
              obtain ⟨pq, hq⟩ : ∃ q : Nat, po % (k - d + 1) = q := ⟨(po % (k - d + 1)).toNat, by have := Int.emod_nonneg po (show (k : Int) - d + 1 ≠ 0 by omega); omega⟩
              have hqk : pq ≤ k - d := by have := Int.emod_lt_of_pos po (show (0 : Int) < k - d + 1 by omega); omega
              have hqt : po.tmod ((k : Int) - d + 1) = pq := by rw [Int.tmod_eq_emod_of_nonneg ho0]; exact hq
              refine wp_seq ?_
              refine wp_region_lit ?_
              refine lV (Value.int .u16 po) he85 rfl rfl (wanted_plain rfl _) (rn_mv rfl (he85.op rfl) w74) ?_
              intro a86 he86
              clear he85 a85
              refine lV (Value.int .i64 po) he86 rfl rfl (wanted_plain rfl _) (rn_cv16I rfl (he86.op rfl) (IntWalk.i64_in _ ⟨by omega, by omega⟩) w74) ?_
              intro a87 he87
              clear he86 a86
              refine lV (Value.int .u16 (k : Int)) he87 rfl rfl (wanted_plain rfl _) (rn_mv rfl (he87.op rfl) w74) ?_
              intro a88 he88
              clear he87 a87
              refine lV (Value.int .i64 (k : Int)) he88 rfl rfl (wanted_plain rfl _) (rn_cv16I rfl (he88.op rfl) (IntWalk.i64_in _ ⟨by omega, by omega⟩) w74) ?_
              intro a89 he89
              clear he88 a88
              refine lV (Value.int .i64 (d : Int)) he89 rfl rfl (wanted_plain rfl _) (rn_mv rfl (he89.op rfl) w74) ?_
              intro a90 he90
              clear he89 a89
              refine lV (Value.int .i64 ((k : Int) - d)) he90 rfl rfl (wanted_plain rfl _) (rn_subI rfl (he90.op rfl) (he90.op rfl) (by rw [IntWalk.i64_in _ ⟨by omega, by omega⟩]) w74) ?_
              intro a91 he91
              clear he90 a90
              refine lV (Value.int .i64 ((k : Int) - d + 1)) he91 rfl rfl (wanted_plain rfl _) (rn_add1 rfl (he91.op rfl) (he91.op rfl) (by rw [IntWalk.i64_in _ ⟨by omega, by omega⟩]) w74) ?_
              intro a92 he92
              clear he91 a91
              refine lV (Value.int .i64 (pq : Int)) he92 rfl rfl (wanted_plain rfl _) (rn_remI rfl (he92.op rfl) (he92.op rfl) (by omega) hqt w74) ?_
              intro a93 he93
              clear he92 a92
              refine lV (Value.int .i64 (pq : Int)) he93 rfl rfl (wanted_plain rfl _) (rn_asg rfl (he93.op rfl) w74) ?_
              intro a94 he94
              clear he93 a93
              refine wpList_nil ?_
              refine then_ok ?_
              have he95 : Env 132 [(11, Value.int .i64 (pq : Int)), (10, Value.int .i64 (d : Int)), (0, Value.int .u16 (k : Int)), (7, Value.pointer (some ⟨ps, 0, none⟩))] a94 := he94.mem ⟨rfl, rfl, rfl, rfl, trivial⟩
              clear he94
              as_aux_lemma =>
                refine wp_seq ?_
                refine wp_seq ?_
                refine wp_region_lit ?_
                refine lV (Value.pointer (some ⟨ps, 0, none⟩)) he95 rfl rfl (wanted_plain rfl _) (rn_mv rfl (he95.op rfl) w74) ?_
                intro a96 he96
                clear he95 a94
                refine lV (Value.int .i64 (d : Int)) he96 rfl rfl (wanted_plain rfl _) (rn_mv rfl (he96.op rfl) w74) ?_
                intro a97 he97
                clear he96 a96
                have hds : dropS (fullL k) 0 d = ((fullL k).drop d, d, 0) := by unfold dropS; rw [if_pos (by rw [fullL_len]; omega)]; simp
                obtain ⟨F_, hsep, hF, hstep⟩ := Dt.step (A := [shD ps (fullL k) k 0]) (D := []) hD
                refine lCx he97 rfl rfl Tryd.func16 (by kernel_rfl) rfl rfl (wanted_plain rfl _) rfl ((hds ▸ drop_b F_ ps k 0 (fullL k) d w74 hsep.the hF hD.tab)) ?_
                rintro _ w98 ⟨rfl, ht⟩
                obtain ⟨hD2, hHs⟩ := hstep _ _ ht
                have hH98 := hHs _ rfl hH74
                clear hHs hstep hsep hF
                clear hD
                have hD := hD2
                clear hD2 ht
                refine ⟨_, rfl, ?_⟩
                intro a99 he99
                clear he97 a97 hH74
                clear hds
                refine lV (Value.bool false) he99 rfl rfl (wanted_plain rfl _) (rn_neE rfl (he99.op rfl) (he99.op rfl) (by simp) w98) ?_
                intro a100 he100
                clear he99 a99
                refine lV (Value.bool false) he100 rfl rfl (wanted_plain rfl _) (rn_mv rfl (he100.op rfl) w98) ?_
                intro a101 he101
                clear he100 a100
                refine lV (Value.pointer (some ⟨ps, 0, none⟩)) he101 rfl rfl (he101.want rfl rfl rfl rfl rfl) (rn_mv rfl (he101.op rfl) w98) ?_
                intro a102 he102
                clear he101 a101
                refine lCx he102 rfl rfl Tryd.func14 (by kernel_rfl) rfl rfl (he102.want rfl rfl rfl rfl rfl) rfl (text_b (122) w98) ?_
                rintro _ w103 ⟨At, ct, rfl, ht⟩
                have hD2 := hD.made ht
                have hH103 := hH98.call ht.new
                clear hD
                have hD := hD2
                clear hD2 ht
                refine ⟨_, rfl, ?_⟩
                intro a104 he104
                clear he102 a102 hH98
                have hown := cells_sl (hD.get (i := 0) rfl).choose_spec
                have hps : pushS ((fullL k).drop d) k d ([tc 122], false) = (((fullL k).drop d), 7) := push_no okz (by simp only [fullL_len, List.length_drop]; omega)
                replace hD := hD.pick 1 rfl
                obtain ⟨F_, hsep, hF, hstep⟩ := Dt.step (A := [shD ps ((fullL k).drop d) k d]) (D := [cellsD (.slice At 1 ct) [tc (122)]]) hD
                refine lCx he104 rfl rfl Tryd.func13 (by kernel_rfl) rfl rfl (he104.want rfl rfl rfl rfl rfl) rfl ((hps ▸ push_b F_ ps k d ((fullL k).drop d) _ [tc 122] false w103 hsep.the hF hD.tab hown)) ?_
                rintro _ w105 ⟨rfl, ht⟩
                obtain ⟨hD2, hHs⟩ := hstep _ _ ht
                have hH105 := hHs _ rfl hH103
                clear hHs hstep hsep hF
                clear hD
                have hD := hD2
                clear hD2 ht
                refine ⟨_, rfl, ?_⟩
                intro a106 he106
                clear he104 a104 hH103
                clear hown hps
                refine lV (Value.bool false) he106 rfl rfl (he106.want rfl rfl rfl rfl rfl) (rn_neE rfl (he106.op rfl) (he106.op rfl) (by simp) w105) ?_
                intro a107 he107
                clear he106 a106
                refine lV (Value.bool false) he107 rfl rfl (wanted_plain rfl _) (rn_pk0 rfl (he107.op rfl) (he107.op rfl) w105) ?_
                intro a108 he108
                clear he107 a107
                refine wpList_nil ?_
                refine then_ok ?_
                refine wp_cond_false (he108.op rfl) ?_
                refine wp_skip ?_
                refine then_ok ?_
                replace hD := hD.pick 1 rfl
                replace hD := hD.drop
                have he109 : Env 132 [(11, Value.int .i64 (pq : Int)), (10, Value.int .i64 (d : Int)), (0, Value.int .u16 (k : Int)), (7, Value.pointer (some ⟨ps, 0, none⟩))] a108 := he108.mem ⟨rfl, rfl, rfl, rfl, trivial⟩
                clear he108
                as_aux_lemma =>
                  refine wp_seq ?_
                  refine wp_seq ?_
                  refine wp_region_lit ?_
                  refine lV (Value.int .i64 0) he109 rfl rfl (wanted_plain rfl _) (rn_asg rfl (he109.op rfl) w105) ?_
                  intro a110 he110
                  clear he109 a108
                  refine wpList_nil ?_
                  refine then_ok ?_
                  refine wp_block ?_
                  have hl0 : (fullL k).drop d = ((fullL k).drop d).take (k - d - 0) := by rw [List.take_of_length_le (by rw [List.length_drop, fullL_len]; omega)]
                  rw [hl0] at hD
                  refine loop_nat (fun q a w' => ∃ (j : Nat), q = pq - j ∧ j ≤ pq ∧ Env 132 [(0, Value.int .u16 (k : Int)), (7, Value.pointer (some ⟨ps, 0, none⟩)), (10, Value.int .i64 (d : Int)), (11, Value.int .i64 (pq : Int)), (12, Value.int .i64 (j : Int))] a ∧ Hp w [] w' ∧ Dt w w (fun _ => False) 0 [] [shD ps (((fullL k).drop d).take (k - d - j)) k d] w') pq ⟨0, by omega, by omega, he110.mem ⟨rfl, rfl, rfl, rfl, rfl, trivial⟩, hH105, hD⟩ ?_
                  clear he110 hH105
                  rintro q a111 w111 ⟨j, rfl, hj, he111, hH111, hD⟩
                  by_cases hjq : j < pq
                  · skip
                    refine wp_seq ?_
                    refine wp_seq ?_
                    refine wp_region_lit ?_
                    refine lV (Value.int .i64 (j : Int)) he111 rfl rfl (wanted_plain rfl _) (rn_mv rfl (he111.op rfl) w111) ?_
                    intro a112 he112
                    clear he111 a111
                    refine lV (Value.int .i64 (pq : Int)) he112 rfl rfl (wanted_plain rfl _) (rn_mv rfl (he112.op rfl) w111) ?_
                    intro a113 he113
                    clear he112 a112
                    refine lV (Value.bool true) he113 rfl rfl (wanted_plain rfl _) (rn_lss rfl (he113.op rfl) (he113.op rfl) (decide_eq_true (by omega)) w111) ?_
                    intro a114 he114
                    clear he113 a113
                    refine wpList_nil ?_
                    refine then_ok ?_
                    refine wp_cond_true (he114.op rfl) ?_
                    refine wp_skip ?_
                    refine then_ok ?_
                    refine wp_seq ?_
                    refine wp_block ?_
                    refine wp_seq ?_
                    refine wp_region_lit ?_
                    refine lV (Value.pointer (some ⟨ps, 0, none⟩)) he114 rfl rfl (wanted_plain rfl _) (rn_mv rfl (he114.op rfl) w111) ?_
                    intro a115 he115
                    clear he114 a114
                    refine lV (Value.int .u16 (k : Int)) he115 rfl rfl (wanted_plain rfl _) (rn_mv rfl (he115.op rfl) w111) ?_
                    intro a116 he116
                    clear he115 a115
                    refine lV (Value.int .i64 (k : Int)) he116 rfl rfl (wanted_plain rfl _) (rn_cv16I rfl (he116.op rfl) (IntWalk.i64_in _ ⟨by omega, by omega⟩) w111) ?_
                    intro a117 he117
                    clear he116 a116
                    refine lV (Value.int .i64 ((k : Int) - 1)) he117 rfl rfl (wanted_plain rfl _) (rn_subI rfl (he117.op rfl) (he117.op rfl) (by rw [IntWalk.i64_in _ ⟨by omega, by omega⟩]) w111) ?_
                    intro a118 he118
                    clear he117 a117
                    refine lV (Value.int .i64 (j : Int)) he118 rfl rfl (wanted_plain rfl _) (rn_mv rfl (he118.op rfl) w111) ?_
                    intro a119 he119
                    clear he118 a118
                    obtain ⟨i, hi⟩ : ∃ i : Nat, k - 1 - j = i := ⟨_, rfl⟩
                    refine lV (Value.int .i64 (i : Int)) he119 rfl rfl (wanted_plain rfl _) (rn_subI rfl (he119.op rfl) (he119.op rfl) (by rw [IntWalk.i64_in _ ⟨by omega, by omega⟩]; omega) w111) ?_
                    intro a120 he120
                    clear he119 a119
                    refine lV (Value.int .i64 ((i : Int) % 26)) he120 rfl rfl (wanted_plain rfl _) (rn_remI rfl (he120.op rfl) (he120.op rfl) (by decide) (mod_small _) w111) ?_
                    intro a121 he121
                    clear he120 a120
                    refine lV (Value.int .i64 (97 + (i : Int) % 26)) he121 rfl rfl (wanted_plain rfl _) (rn_add1 rfl (he121.op rfl) (he121.op rfl) (by rw [IntWalk.i64_in _ ⟨by omega, by omega⟩]) w111) ?_
                    intro a122 he122
                    clear he121 a121
                    refine lV (Value.int .i32 (97 + (i : Int) % 26)) he122 rfl rfl (wanted_plain rfl _) (rn_cvI32 rfl (he122.op rfl) (IntWalk.i32_in _ ⟨by omega, by omega⟩) w111) ?_
                    intro a123 he123
                    clear he122 a122
                    refine lCx he123 rfl rfl Tryd.func14 (by kernel_rfl) rfl rfl (wanted_plain rfl _) rfl (text_b (97 + (i : Int) % 26) w111) ?_
                    rintro _ w124 ⟨At, ct, rfl, ht⟩
                    have hD2 := hD.made ht
                    have hH124 := hH111.call ht.new
                    clear hD
                    have hD := hD2
                    clear hD2 ht
                    refine ⟨_, rfl, ?_⟩
                    intro a125 he125
                    clear he123 a123 hH111
                    have hll : (((fullL k).drop d).take (k - d - j)).length = k - d - j := by simp only [List.length_take, List.length_drop, fullL_len]; omega
                    have hlast : (((fullL k).drop d).take (k - d - j))[k - d - j - 1]? = some (lnA i) := by rw [List.getElem?_take, if_pos (by omega), List.getElem?_drop, fullL_at (by omega)]; congr 2; omega
                    have hpp : popS (((fullL k).drop d).take (k - d - j)) = ((((fullL k).drop d).take (k - d - (j + 1))), lnA i, 0) := by
                      unfold popS; rw [hll, if_neg (by omega), List.getD_eq_getElem?_getD, hlast, List.take_take]; congr 1; congr 1; omega
                    have hpe : (popS (((fullL k).drop d).take (k - d - j))).1 = (((fullL k).drop d).take (k - d - (j + 1))) := by rw [hpp]
                    replace hD := hD.pick 1 rfl
                    obtain ⟨F_, G_, hsep, hrd_, hdj, hF, hstep⟩ := Dt.stepR (A := [shD ps (((fullL k).drop d).take (k - d - j)) k d]) (d := cellsD (.slice At 1 ct) [tc (97 + (i : Int) % 26)]) (D := []) hD
                    refine lCx he125 rfl rfl Tryd.func17 (by kernel_rfl) rfl rfl (wanted_plain rfl _) rfl ((hpe ▸ pops_b F_ ps k d (((fullL k).drop d).take (k - d - j)) _ (lnA i).1 (lnA i).2 0 true (by rw [hpp]; simp) w124 hsep.the hF hD.tab ((cells_f hrd_).up hdj) (by simp))) ?_
                    rintro _ w126 ⟨rfl, ht⟩
                    obtain ⟨hD2, hHs⟩ := hstep _ _ ht
                    have hH126 := hHs _ rfl hH124
                    clear hHs hstep hsep hF hrd_ hdj
                    clear hD
                    have hD := hD2
                    clear hD2 ht
                    refine ⟨_, rfl, ?_⟩
                    intro a127 he127
                    clear he125 a125 hH124
                    refine lV (Value.bool false) he127 rfl rfl (wanted_plain rfl _) (rn_not (b := true) rfl (he127.op rfl) w126) ?_
                    intro a128 he128
                    clear he127 a127
                    refine wpList_nil ?_
                    refine then_ok ?_
                    refine wp_cond_false (he128.op rfl) ?_
                    refine wp_skip ?_
                    refine block_ok ?_
                    refine then_ok ?_
                    refine wp_region_lit ?_
                    refine lV (Value.int .i64 (j : Int)) he128 rfl rfl (wanted_plain rfl _) (rn_mv rfl (he128.op rfl) w126) ?_
                    intro a129 he129
                    clear he128 a128
                    refine lV (Value.int .i64 ((j + 1 : Nat) : Int)) he129 rfl rfl (wanted_plain rfl _) (rn_add1 rfl (he129.op rfl) (he129.op rfl) (by rw [IntWalk.i64_in _ ⟨by omega, by omega⟩]; omega) w126) ?_
                    intro a130 he130
                    clear he129 a129
                    refine lV (Value.int .i64 ((j + 1 : Nat) : Int)) he130 rfl rfl (wanted_plain rfl _) (rn_asg rfl (he130.op rfl) w126) ?_
                    intro a131 he131
                    clear he130 a130
                    refine wpList_nil ?_
                    refine then_ok ?_
                    exact ⟨pq - (j + 1), by omega, j + 1, rfl, by omega, he131.mem ⟨rfl, rfl, rfl, rfl, rfl, trivial⟩, hH126, Dt.first (A := [shD ps (((fullL k).drop d).take (k - d - (j + 1))) k d]) hD⟩
                  · skip
                    refine wp_seq ?_
                    refine wp_seq ?_
                    refine wp_region_lit ?_
                    refine lV (Value.int .i64 (j : Int)) he111 rfl rfl (wanted_plain rfl _) (rn_mv rfl (he111.op rfl) w111) ?_
                    intro a132 he132
                    clear he111 a111
                    refine lV (Value.int .i64 (pq : Int)) he132 rfl rfl (wanted_plain rfl _) (rn_mv rfl (he132.op rfl) w111) ?_
                    intro a133 he133
                    clear he132 a132
                    refine lV (Value.bool false) he133 rfl rfl (wanted_plain rfl _) (rn_lss rfl (he133.op rfl) (he133.op rfl) (decide_eq_false (by omega)) w111) ?_
                    intro a134 he134
                    clear he133 a133
                    refine wpList_nil ?_
                    refine then_ok ?_
                    refine wp_cond_false (he134.op rfl) ?_
                    refine wp_exit ?_
                    simp only [Exit.then, Exit.inBlock, if_true]
                    obtain rfl : j = pq := by omega
                    have hll : (((fullL k).drop d).take (k - d - j)).length = k - d - j := by simp only [List.length_take, List.length_drop, fullL_len]; omega
                    have he135 : Env 132 [(0, Value.int .u16 (k : Int)), (7, Value.pointer (some ⟨ps, 0, none⟩)), (10, Value.int .i64 (d : Int)), (11, Value.int .i64 (j : Int))] a134 := he134.mem ⟨rfl, rfl, rfl, rfl, trivial⟩
                    clear he134
                    as_aux_lemma =>
                      refine wp_seq ?_
                      refine wp_seq ?_
                      refine wp_region_lit ?_
                      refine lV (Value.pointer (some ⟨ps, 0, none⟩)) he135 rfl rfl (wanted_plain rfl _) (rn_mv rfl (he135.op rfl) w111) ?_
                      intro a136 he136
                      clear he135 a134
                      obtain ⟨Fs_, hs_⟩ := hD.get (i := 0) rfl
                      refine lC he136 rfl rfl Tryd.func18 (by kernel_rfl) rfl rfl (wanted_plain rfl _) rfl (lenS_b Fs_ ps k d (((fullL k).drop d).take (k - d - j)) w111 hs_ hD.tab) ?_
                      intro w137 a138 hn he138
                      have hH137 := hH111.call hn
                      replace hD := (hD).new hn
                      clear he136 a136 hH111 hn
                      clear hs_ Fs_
                      refine lV (Value.int .u16 (k : Int)) he138 rfl rfl (wanted_plain rfl _) (rn_mv rfl (he138.op rfl) w137) ?_
                      intro a139 he139
                      clear he138 a138
                      refine lV (Value.int .i64 (k : Int)) he139 rfl rfl (wanted_plain rfl _) (rn_cv16I rfl (he139.op rfl) (IntWalk.i64_in _ ⟨by omega, by omega⟩) w137) ?_
                      intro a140 he140
                      clear he139 a139
                      refine lV (Value.int .i64 (d : Int)) he140 rfl rfl (wanted_plain rfl _) (rn_mv rfl (he140.op rfl) w137) ?_
                      intro a141 he141
                      clear he140 a140
                      refine lV (Value.int .i64 ((k : Int) - d)) he141 rfl rfl (wanted_plain rfl _) (rn_subI rfl (he141.op rfl) (he141.op rfl) (by rw [IntWalk.i64_in _ ⟨by omega, by omega⟩]) w137) ?_
                      intro a142 he142
                      clear he141 a141
                      refine lV (Value.int .i64 (j : Int)) he142 rfl rfl (wanted_plain rfl _) (rn_mv rfl (he142.op rfl) w137) ?_
                      intro a143 he143
                      clear he142 a142
                      refine lV (Value.int .i64 ((k : Int) - d - j)) he143 rfl rfl (wanted_plain rfl _) (rn_subI rfl (he143.op rfl) (he143.op rfl) (by rw [IntWalk.i64_in _ ⟨by omega, by omega⟩]) w137) ?_
                      intro a144 he144
                      clear he143 a143
                      refine lV (Value.bool false) he144 rfl rfl (wanted_plain rfl _) (rn_neI rfl (he144.op rfl) (he144.op rfl) (by rw [hll]; simp; omega) w137) ?_
                      intro a145 he145
                      clear he144 a144
                      refine lV (Value.bool false) he145 rfl rfl (wanted_plain rfl _) (rn_mv rfl (he145.op rfl) w137) ?_
                      intro a146 he146
                      clear he145 a145
                      refine lV (Value.pointer (some ⟨ps, 0, none⟩)) he146 rfl rfl (he146.want rfl rfl rfl rfl rfl) (rn_mv rfl (he146.op rfl) w137) ?_
                      intro a147 he147
                      clear he146 a146
                      obtain ⟨Fs_, hs_⟩ := hD.get (i := 0) rfl
                      refine lC he147 rfl rfl Tryd.func15 (by kernel_rfl) rfl rfl (he147.want rfl rfl rfl rfl rfl) rfl (room_b ps k d (((fullL k).drop d).take (k - d - j)) Fs_ w137 hs_ hD.tab) ?_
                      intro w148 a149 hn he149
                      have hH148 := hH137.call hn
                      replace hD := (hD).new hn
                      clear he147 a147 hH137 hn
                      clear hs_ Fs_
                      refine lV (Value.int .i64 (j : Int)) he149 rfl rfl (he149.want rfl rfl rfl rfl rfl) (rn_mv rfl (he149.op rfl) w148) ?_
                      intro a150 he150
                      clear he149 a149
                      refine lV (Value.bool false) he150 rfl rfl (he150.want rfl rfl rfl rfl rfl) (rn_neI rfl (he150.op rfl) (he150.op rfl) (by rw [hll]; simp; omega) w148) ?_
                      intro a151 he151
                      clear he150 a150
                      refine lV (Value.bool false) he151 rfl rfl (wanted_plain rfl _) (rn_pk0 rfl (he151.op rfl) (he151.op rfl) w148) ?_
                      intro a152 he152
                      clear he151 a151
                      refine lV (Value.bool false) he152 rfl rfl (wanted_plain rfl _) (rn_mv rfl (he152.op rfl) w148) ?_
                      intro a153 he153
                      clear he152 a152
                      refine lV (Value.pointer (some ⟨ps, 0, none⟩)) he153 rfl rfl (he153.want rfl rfl rfl rfl rfl) (rn_mv rfl (he153.op rfl) w148) ?_
                      intro a154 he154
                      clear he153 a153
                      obtain ⟨Fs_, hs_⟩ := hD.get (i := 0) rfl
                      refine lC he154 rfl rfl Tryd.func19 (by kernel_rfl) rfl rfl (he154.want rfl rfl rfl rfl rfl) rfl (goneS_b Fs_ ps k d (((fullL k).drop d).take (k - d - j)) w148 hs_ hD.tab) ?_
                      intro w155 a156 hn he156
                      have hH155 := hH148.call hn
                      replace hD := (hD).new hn
                      clear he154 a154 hH148 hn
                      clear hs_ Fs_
                      refine lV (Value.int .i64 (d : Int)) he156 rfl rfl (he156.want rfl rfl rfl rfl rfl) (rn_mv rfl (he156.op rfl) w155) ?_
                      intro a157 he157
                      clear he156 a156
                      refine lV (Value.bool false) he157 rfl rfl (he157.want rfl rfl rfl rfl rfl) (rn_neI rfl (he157.op rfl) (he157.op rfl) (by simp) w155) ?_
                      intro a158 he158
                      clear he157 a157
                      refine lV (Value.bool false) he158 rfl rfl (wanted_plain rfl _) (rn_pk0 rfl (he158.op rfl) (he158.op rfl) w155) ?_
                      intro a159 he159
                      clear he158 a158
                      refine wpList_nil ?_
                      refine then_ok ?_
                      refine wp_cond_false (he159.op rfl) ?_
                      refine wp_skip ?_
                      refine then_ok ?_
                      have he160 : Env 132 [(0, Value.int .u16 (k : Int)), (7, Value.pointer (some ⟨ps, 0, none⟩)), (10, Value.int .i64 (d : Int)), (11, Value.int .i64 (j : Int))] a159 := he159.mem ⟨rfl, rfl, rfl, rfl, trivial⟩
                      clear he159
                      as_aux_lemma =>
                        by_cases h0 : (((fullL k).drop d).take (k - d - j)).length = 0
                        · skip
                          refine wp_seq ?_
                          refine wp_region_lit ?_
                          refine lV (Value.pointer (some ⟨ps, 0, none⟩)) he160 rfl rfl (wanted_plain rfl _) (rn_mv rfl (he160.op rfl) w155) ?_
                          intro a161 he161
                          clear he160 a159
                          obtain ⟨Fs_, hs_⟩ := hD.get (i := 0) rfl
                          refine lC he161 rfl rfl Tryd.func18 (by kernel_rfl) rfl rfl (wanted_plain rfl _) rfl (lenS_b Fs_ ps k d (((fullL k).drop d).take (k - d - j)) w155 hs_ hD.tab) ?_
                          intro w162 a163 hn he163
                          have hH162 := hH155.call hn
                          replace hD := (hD).new hn
                          clear he161 a161 hH155 hn
                          clear hs_ Fs_
                          refine lV (Value.bool true) he163 rfl rfl (wanted_plain rfl _) (rn_eqI rfl (he163.op rfl) (he163.op rfl) (by simp [h0]) w162) ?_
                          intro a164 he164
                          clear he163 a163
                          refine lV (Value.bool true) he164 rfl rfl (wanted_plain rfl _) (rn_mv rfl (he164.op rfl) w162) ?_
                          intro a165 he165
                          clear he164 a164
                          refine lSkip he165 rfl rfl (he165.wantNot rfl rfl rfl rfl rfl rfl) ?_
                          intro a166 he166
                          clear he165 a165
                          refine lSkip he166 rfl rfl (he166.wantNot rfl rfl rfl rfl rfl rfl) ?_
                          intro a167 he167
                          clear he166 a166
                          refine lSkip he167 rfl rfl (he167.wantNot rfl rfl rfl rfl rfl rfl) ?_
                          intro a168 he168
                          clear he167 a167
                          refine lSkip he168 rfl rfl (he168.wantNot rfl rfl rfl rfl rfl rfl) ?_
                          intro a169 he169
                          clear he168 a168
                          refine lSkip he169 rfl rfl (he169.wantNot rfl rfl rfl rfl rfl rfl) ?_
                          intro a170 he170
                          clear he169 a169
                          refine lSkip he170 rfl rfl (he170.wantNot rfl rfl rfl rfl rfl rfl) ?_
                          intro a171 he171
                          clear he170 a170
                          refine lSkip he171 rfl rfl (he171.wantNot rfl rfl rfl rfl rfl rfl) ?_
                          intro a172 he172
                          clear he171 a171
                          refine lV (Value.bool true) he172 rfl rfl (wanted_plain rfl _) (rn_pk rfl (he172.op rfl) (he172.op rfl) w162) ?_
                          intro a173 he173
                          clear he172 a172
                          refine lV (Value.bool true) he173 rfl rfl (wanted_plain rfl _) (rn_mv rfl (he173.op rfl) w162) ?_
                          intro a174 he174
                          clear he173 a173
                          refine lC he174 rfl rfl Tryd.func8 (by kernel_rfl) rfl rfl (he174.want rfl rfl rfl rfl rfl) rfl (known_any w162 hD.tab) ?_
                          intro w175 a176 hn he176
                          have hH175 := hH162.call hn
                          replace hD := (hD).new hn
                          clear he174 a174 hH162 hn
                          refine lV (Value.bool true) he176 rfl rfl (wanted_plain rfl _) (rn_pk rfl (he176.op rfl) (he176.op rfl) w175) ?_
                          intro a177 he177
                          clear he176 a176
                          refine lV (Value.bool true) he177 rfl rfl (wanted_plain rfl _) (rn_asg rfl (he177.op rfl) w175) ?_
                          intro a178 he178
                          clear he177 a177
                          refine wpList_nil ?_
                          refine then_ok ?_
                          refine wp_ret ?_
                          try simp only [Exit.then, Exit.inBlock]
                          exact ret_env rfl he178 rfl ⟨rfl, hD.fr.new_below⟩
                        · skip
                          refine wp_seq ?_
                          refine wp_region_lit ?_
                          refine lV (Value.pointer (some ⟨ps, 0, none⟩)) he160 rfl rfl (wanted_plain rfl _) (rn_mv rfl (he160.op rfl) w155) ?_
                          intro a179 he179
                          clear he160 a159
                          obtain ⟨Fs_, hs_⟩ := hD.get (i := 0) rfl
                          refine lC he179 rfl rfl Tryd.func18 (by kernel_rfl) rfl rfl (wanted_plain rfl _) rfl (lenS_b Fs_ ps k d (((fullL k).drop d).take (k - d - j)) w155 hs_ hD.tab) ?_
                          intro w180 a181 hn he181
                          have hH180 := hH155.call hn
                          replace hD := (hD).new hn
                          clear he179 a179 hH155 hn
                          clear hs_ Fs_
                          refine lV (Value.bool false) he181 rfl rfl (wanted_plain rfl _) (rn_eqI rfl (he181.op rfl) (he181.op rfl) (by simpa using h0) w180) ?_
                          intro a182 he182
                          clear he181 a181
                          refine lV (Value.bool false) he182 rfl rfl (wanted_plain rfl _) (rn_mv rfl (he182.op rfl) w180) ?_
                          intro a183 he183
                          clear he182 a182
                          refine lV (Value.pointer (some ⟨ps, 0, none⟩)) he183 rfl rfl (he183.want rfl rfl rfl rfl rfl) (rn_mv rfl (he183.op rfl) w180) ?_
                          intro a184 he184
                          clear he183 a183
                          refine lV (Value.int .i64 (d : Int)) he184 rfl rfl (he184.want rfl rfl rfl rfl rfl) (rn_mv rfl (he184.op rfl) w180) ?_
                          intro a185 he185
                          clear he184 a184
                          have hge : getS (((fullL k).drop d).take (k - d - j)) 0 = (lnA d, 0) := by
                            unfold getS; rw [if_pos (by omega), List.getD_eq_getElem?_getD, Int.toNat_zero, List.getElem?_take, if_pos (by omega), List.getElem?_drop, fullL_at (by omega)]; simp
                          refine lV (Value.int .i64 ((d : Int) % 26)) he185 rfl rfl (he185.want rfl rfl rfl rfl rfl) (rn_remI rfl (he185.op rfl) (he185.op rfl) (by decide) (mod_small _) w180) ?_
                          intro a186 he186
                          clear he185 a185
                          refine lV (Value.int .i64 (97 + (d : Int) % 26)) he186 rfl rfl (he186.want rfl rfl rfl rfl rfl) (rn_add1 rfl (he186.op rfl) (he186.op rfl) (by rw [IntWalk.i64_in _ ⟨by omega, by omega⟩]) w180) ?_
                          intro a187 he187
                          clear he186 a186
                          refine lV (Value.int .i32 (97 + (d : Int) % 26)) he187 rfl rfl (he187.want rfl rfl rfl rfl rfl) (rn_cvI32 rfl (he187.op rfl) (IntWalk.i32_in _ ⟨by omega, by omega⟩) w180) ?_
                          intro a188 he188
                          clear he187 a187
                          refine lCx he188 rfl rfl Tryd.func14 (by kernel_rfl) rfl rfl (he188.want rfl rfl rfl rfl rfl) rfl (text_b (97 + (d : Int) % 26) w180) ?_
                          rintro _ w189 ⟨At, ct, rfl, ht⟩
                          have hD2 := hD.made ht
                          have hH189 := hH180.call ht.new
                          clear hD
                          have hD := hD2
                          clear hD2 ht
                          refine ⟨_, rfl, ?_⟩
                          intro a190 he190
                          clear he188 a188 hH180
                          obtain ⟨Fs_, hs_⟩ := hD.get (i := 1) rfl
                          refine lC he190 rfl rfl Tryd.func20 (by kernel_rfl) rfl rfl (he190.want rfl rfl rfl rfl rfl) rfl (gets_b Fs_ ps k d (((fullL k).drop d).take (k - d - j)) 0 _ (lnA d).1 (lnA d).2 0 true (by rw [hge]; simp) w189 hs_ hD.tab (cells_sl (hD.get (i := 0) rfl).choose_spec) (by simp)) ?_
                          intro w191 a192 hn he192
                          have hH191 := hH189.call hn
                          replace hD := (hD).new hn
                          clear he190 a190 hH189 hn
                          clear hs_ Fs_
                          refine lV (Value.bool true) he192 rfl rfl (wanted_plain rfl _) (rn_pk0 rfl (he192.op rfl) (he192.op rfl) w191) ?_
                          intro a193 he193
                          clear he192 a192
                          refine lV (Value.bool true) he193 rfl rfl (wanted_plain rfl _) (rn_mv rfl (he193.op rfl) w191) ?_
                          intro a194 he194
                          clear he193 a193
                          refine lC he194 rfl rfl Tryd.func8 (by kernel_rfl) rfl rfl (he194.want rfl rfl rfl rfl rfl) rfl (known_any w191 hD.tab) ?_
                          intro w195 a196 hn he196
                          have hH195 := hH191.call hn
                          replace hD := (hD).new hn
                          clear he194 a194 hH191 hn
                          refine lV (Value.bool true) he196 rfl rfl (wanted_plain rfl _) (rn_pk rfl (he196.op rfl) (he196.op rfl) w195) ?_
                          intro a197 he197
                          clear he196 a196
                          refine lV (Value.bool true) he197 rfl rfl (wanted_plain rfl _) (rn_asg rfl (he197.op rfl) w195) ?_
                          intro a198 he198
                          clear he197 a197
                          refine wpList_nil ?_
                          refine then_ok ?_
                          refine wp_ret ?_
                          try simp only [Exit.then, Exit.inBlock]
                          exact ret_env rfl he198 rfl ⟨rfl, hD.fr.new_below⟩

end Go.Proofs.YtjnghaoboopflaaDoor
