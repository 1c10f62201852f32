/-
  PackedRuns.
-/
import Derived.Test.YtaiijndldngnkaaDoorKKnown
namespace Go.Proofs.YtaiijndldngnkaaDoor
open Go.RowKit

theorem cellsO_bad {l : List Rn} (h : goodR l = false) : cellsO l = [] ∧ cellsE l = 12 := by simp [cellsO, cellsE, h]
theorem cellsO_good {l : List Rn} (h : goodR l = true) : cellsO l = cellsR l ∧ cellsE l = 0 := by simp [cellsO, cellsE, h]
theorem count_cells (l : List Rn) : countR l = ((cellsO l).length : Int) := by
  cases h : goodR l with
  | true => rw [(cellsO_good h).1]; exact (count_len h).1
  | false => rw [(cellsO_bad h).1, count_bad h]; rfl
theorem join_bad {la lb : List Rn} (h : goodR la = false ∨ goodR lb = false) : joinO la lb = [] ∧ joinE la lb = 12 := by
  have e : joinE la lb = 12 := by rw [joinE, if_pos h]
  exact ⟨by rw [joinO, if_neg (by rw [e]; decide)], e⟩
theorem join_long {la lb : List Rn} (ha : goodR la = true) (hb : goodR lb = true) (h : 100000 < countR la + countR lb) : joinO la lb = [] ∧ joinE la lb = 5 := by
  have e : joinE la lb = 5 := by rw [joinE, if_neg (by rw [ha, hb]; simp), if_pos h]
  exact ⟨by rw [joinO, if_neg (by rw [e]; decide)], e⟩
theorem join_good {la lb : List Rn} (ha : goodR la = true) (hb : goodR lb = true) (h : ¬ 100000 < countR la + countR lb) : joinO la lb = packL (cellsR la ++ cellsR lb) ∧ joinE la lb = 0 := by
  have e : joinE la lb = 0 := by rw [joinE, if_neg (by rw [ha, hb]; simp), if_neg h]
  exact ⟨by rw [joinO, if_pos e, pack_join ha hb], e⟩
theorem cells_all {l : List Rn} (h : goodR l = true) : ∀ c ∈ cellsR l, cellB c = true ∧ c.p.Ok := by
  obtain ⟨m, hm⟩ := Option.isSome_iff_exists.1 h
  exact cells_good hm

set_option linter.unusedSimpArgs false in
set_option maxRecDepth 100000 in
set_option maxHeartbeats 1600000 in
theorem packedRuns_walk (la lb : List Rn) (n m ba bb ca cb : Nat) (A B : Option Addr) (w : World) (ha : RdR w ba A n la) (hb : RdR w bb B m lb) (hoa : ∀ r ∈ la, r.Ok) (hob : ∀ r ∈ lb, r.Ok) (hT : Tab w) :
    Calls Tryd.prog 6 #[.slice A n ca, .slice B m cb] w fun e w' => e = .returned (.bool true) ∧ Below w.heap.size w w' := by
  have l1 := ha.1
  have l2 := hb.1
  refine calls_args (vl := [Value.slice A n ca, Value.slice B m cb]) 111 Tryd.func6 rfl Tryd.ntmps6 (by kernel_rfl) (fun a he => ?_)
  have he0 : Env 111 [(0, Value.slice A n ca), (1, Value.slice B m cb)] a := he
  clear he
  have hH := Hp.start w
  refine wp_seq ?_
  refine wp_region_lit ?_
  refine lV (Value.bool false) he0 rfl rfl (wanted_plain rfl _) (rn_asg rfl (he0.op rfl) w) ?_
  intro a1 he1
  clear he0 a
  refine wpList_nil ?_
  refine then_ok ?_
  refine wp_seq ?_
  refine wp_seq ?_
  refine wp_region_lit ?_
  refine lV (Value.slice A n ca) he1 rfl rfl (wanted_plain rfl _) (rn_mv rfl (he1.op rfl) w) ?_
  intro a2 he2
  clear he1 a1
  refine lCx he2 rfl rfl Tryd.func18 (by kernel_rfl) rfl rfl (wanted_plain rfl _) rfl (few_any la n ba ca A w (ha.new hH.new)) ?_
  rintro _ w3 ⟨⟨za, rfl, hza⟩, hn⟩
  refine ⟨_, rfl, ?_⟩
  intro a4 he4
  have hH3 := hH.call hn
  clear he2 a2 hH
  clear hn
  cases za with
  | false =>
    refine lV (Value.bool true) he4 rfl rfl (wanted_plain rfl _) (rn_not (b := false) rfl (he4.op rfl) w3) ?_
    intro a5 he5
    clear he4 a4
    refine lV (Value.bool true) he5 rfl rfl (wanted_plain rfl _) (rn_mv rfl (he5.op rfl) w3) ?_
    intro a6 he6
    clear he5 a5
    refine lSkip he6 rfl rfl (he6.wantNot rfl rfl rfl rfl rfl rfl) ?_
    intro a7 he7
    clear he6 a6
    refine lSkip he7 rfl rfl (he7.wantNot rfl rfl rfl rfl rfl rfl) ?_
    intro a8 he8
    clear he7 a7
    refine lSkip he8 rfl rfl (he8.wantNot rfl rfl rfl rfl rfl rfl) ?_
    intro a9 he9
    clear he8 a8
    refine lV (Value.bool true) he9 rfl rfl (wanted_plain rfl _) (rn_pk rfl (he9.op rfl) (he9.op rfl) w3) ?_
    intro a10 he10
    clear he9 a9
    refine wpList_nil ?_
    refine then_ok ?_
    refine wp_cond_true (he10.op rfl) ?_
    refine wp_seq ?_
    refine wp_region_lit ?_
    refine lC he10 rfl rfl Tryd.func11 (by kernel_rfl) rfl rfl (wanted_plain rfl _) rfl (known_any w3 (hT.new hH3.new)) ?_
    intro w11 a12 hn he12
    have hH11 := hH3.call hn
    clear he10 a10 hH3 hn
    refine lV (Value.bool true) he12 rfl rfl (wanted_plain rfl _) (rn_asg rfl (he12.op rfl) w11) ?_
    intro a13 he13
    clear he12 a12
    refine wpList_nil ?_
    refine then_ok ?_
    refine wp_ret ?_
    try simp only [Exit.then, Exit.inBlock]
    exact ret_env rfl he13 rfl ⟨rfl, hH11.new.new_below⟩
  | true =>
    have hn10 := hza rfl
    refine lV (Value.bool false) he4 rfl rfl (wanted_plain rfl _) (rn_not (b := true) rfl (he4.op rfl) w3) ?_
    intro a14 he14
    clear he4 a4
    refine lV (Value.bool false) he14 rfl rfl (wanted_plain rfl _) (rn_mv rfl (he14.op rfl) w3) ?_
    intro a15 he15
    clear he14 a14
    refine lV (Value.slice B m cb) he15 rfl rfl (he15.want rfl rfl rfl rfl rfl) (rn_mv rfl (he15.op rfl) w3) ?_
    intro a16 he16
    clear he15 a15
    refine lCx he16 rfl rfl Tryd.func18 (by kernel_rfl) rfl rfl (he16.want rfl rfl rfl rfl rfl) rfl (few_any lb m bb cb B w3 (hb.new hH3.new)) ?_
    rintro _ w17 ⟨⟨zb, rfl, hzb⟩, hn⟩
    refine ⟨_, rfl, ?_⟩
    intro a18 he18
    have hH17 := hH3.call hn
    clear he16 a16 hH3
    clear hn
    cases zb with
    | false =>
      refine lV (Value.bool true) he18 rfl rfl (he18.want rfl rfl rfl rfl rfl) (rn_not (b := false) rfl (he18.op rfl) w17) ?_
      intro a19 he19
      clear he18 a18
      refine lV (Value.bool true) he19 rfl rfl (wanted_plain rfl _) (rn_pk0 rfl (he19.op rfl) (he19.op rfl) w17) ?_
      intro a20 he20
      clear he19 a19
      refine wpList_nil ?_
      refine then_ok ?_
      refine wp_cond_true (he20.op rfl) ?_
      refine wp_seq ?_
      refine wp_region_lit ?_
      refine lC he20 rfl rfl Tryd.func11 (by kernel_rfl) rfl rfl (wanted_plain rfl _) rfl (known_any w17 (hT.new hH17.new)) ?_
      intro w21 a22 hn he22
      have hH21 := hH17.call hn
      clear he20 a20 hH17 hn
      refine lV (Value.bool true) he22 rfl rfl (wanted_plain rfl _) (rn_asg rfl (he22.op rfl) w21) ?_
      intro a23 he23
      clear he22 a22
      refine wpList_nil ?_
      refine then_ok ?_
      refine wp_ret ?_
      try simp only [Exit.then, Exit.inBlock]
      exact ret_env rfl he23 rfl ⟨rfl, hH21.new.new_below⟩
    | true =>
      have hm10 := hzb rfl
      refine lV (Value.bool false) he18 rfl rfl (he18.want rfl rfl rfl rfl rfl) (rn_not (b := true) rfl (he18.op rfl) w17) ?_
      intro a24 he24
      clear he18 a18
      refine lV (Value.bool false) he24 rfl rfl (wanted_plain rfl _) (rn_pk0 rfl (he24.op rfl) (he24.op rfl) w17) ?_
      intro a25 he25
      clear he24 a24
      refine wpList_nil ?_
      refine then_ok ?_
      refine wp_cond_false (he25.op rfl) ?_
      refine wp_skip ?_
      refine then_ok ?_
      have he26 : Env 111 [(0, Value.slice A n ca), (1, Value.slice B m cb)] a25 := he25.mem ⟨rfl, rfl, trivial⟩
      clear he25
      as_aux_lemma =>
        obtain ⟨ga, hga⟩ : ∃ ga, goodR la = ga := ⟨_, rfl⟩
        obtain ⟨gb, hgb⟩ : ∃ gb, goodR lb = gb := ⟨_, rfl⟩
        have k1 := cellsO_le la
        have k2 := cellsO_le lb
        have j1 := joinO_le la lb
        have j2 := joinO_le lb la
        refine wp_seq ?_
        refine wp_region_lit ?_
        refine lV (Value.slice A n ca) he26 rfl rfl (wanted_plain rfl _) (rn_mv rfl (he26.op rfl) w17) ?_
        intro a27 he27
        clear he26 a25
        have hcall := RCells_any la n ba ca A w17 (ha.new hH17.new) hoa (by omega)
        rw [hga] at hcall
        refine lCx he27 rfl rfl Tryd.func19 (by kernel_rfl) rfl rfl (wanted_plain rfl _) rfl (hcall) ?_
        rintro _ w28 ⟨⟨Ax, cx, bx, rfl, hx⟩, hn⟩
        refine ⟨_, rfl, ?_⟩
        intro a29 he29
        have hH28 := hH17.call hn
        clear he27 a27 hH17
        clear hn
        refine lV (Value.tuple #[Value.slice Ax (cellsO la).length cx, Value.bool ga]) he29 rfl rfl (wanted_plain rfl _) (rn_mv rfl (he29.op rfl) w28) ?_
        intro a30 he30
        clear he29 a29
        refine lV (Value.slice Ax (cellsO la).length cx) he30 rfl rfl (wanted_plain rfl _) (rn_ext rfl (he30.op rfl) rfl w28) ?_
        intro a31 he31
        clear he30 a30
        refine lV (Value.bool ga) he31 rfl rfl (wanted_plain rfl _) (rn_ext rfl (he31.op rfl) rfl w28) ?_
        intro a32 he32
        clear he31 a31
        refine lV (Value.slice Ax (cellsO la).length cx) he32 rfl rfl (wanted_plain rfl _) (rn_asg rfl (he32.op rfl) w28) ?_
        intro a33 he33
        clear he32 a32
        refine lV (Value.bool ga) he33 rfl rfl (wanted_plain rfl _) (rn_asg rfl (he33.op rfl) w28) ?_
        intro a34 he34
        clear he33 a33
        refine wpList_nil ?_
        refine then_ok ?_
        refine wp_seq ?_
        refine wp_region_lit ?_
        refine lV (Value.slice B m cb) he34 rfl rfl (wanted_plain rfl _) (rn_mv rfl (he34.op rfl) w28) ?_
        intro a35 he35
        clear he34 a34
        have hcall := RCells_any lb m bb cb B w28 (hb.new hH28.new) hob (by omega)
        rw [hgb] at hcall
        refine lCx he35 rfl rfl Tryd.func19 (by kernel_rfl) rfl rfl (wanted_plain rfl _) rfl (hcall) ?_
        rintro _ w36 ⟨⟨Ay, cy, by_, rfl, hy⟩, hn⟩
        refine ⟨_, rfl, ?_⟩
        intro a37 he37
        have hH36 := hH28.call hn
        replace hx := hx.new hn
        clear he35 a35 hH28
        clear hn
        refine lV (Value.tuple #[Value.slice Ay (cellsO lb).length cy, Value.bool gb]) he37 rfl rfl (wanted_plain rfl _) (rn_mv rfl (he37.op rfl) w36) ?_
        intro a38 he38
        clear he37 a37
        refine lV (Value.slice Ay (cellsO lb).length cy) he38 rfl rfl (wanted_plain rfl _) (rn_ext rfl (he38.op rfl) rfl w36) ?_
        intro a39 he39
        clear he38 a38
        refine lV (Value.bool gb) he39 rfl rfl (wanted_plain rfl _) (rn_ext rfl (he39.op rfl) rfl w36) ?_
        intro a40 he40
        clear he39 a39
        refine lV (Value.slice Ay (cellsO lb).length cy) he40 rfl rfl (wanted_plain rfl _) (rn_asg rfl (he40.op rfl) w36) ?_
        intro a41 he41
        clear he40 a40
        refine lV (Value.bool gb) he41 rfl rfl (wanted_plain rfl _) (rn_asg rfl (he41.op rfl) w36) ?_
        intro a42 he42
        clear he41 a41
        refine wpList_nil ?_
        refine then_ok ?_
        have he43 : Env 111 [(8, Value.bool gb), (7, Value.slice Ay (cellsO lb).length cy), (6, Value.bool ga), (5, Value.slice Ax (cellsO la).length cx), (0, Value.slice A n ca), (1, Value.slice B m cb)] a42 := he42.mem ⟨rfl, rfl, rfl, rfl, rfl, rfl, trivial⟩
        clear he42
        as_aux_lemma =>
          refine wp_seq ?_
          refine wp_seq ?_
          refine wp_region_lit ?_
          refine lV (Value.slice A n ca) he43 rfl rfl (wanted_plain rfl _) (rn_mv rfl (he43.op rfl) w36) ?_
          intro a44 he44
          clear he43 a42
          refine lC he44 rfl rfl Tryd.func20 (by kernel_rfl) rfl rfl (wanted_plain rfl _) rfl (hga ▸ ValidR_any la n ba ca A w36 (ha.new hH36.new) hoa (by omega) (hT.new hH36.new)) ?_
          intro w45 a46 hn he46
          have hH45 := hH36.call hn
          replace hx := hx.new hn
          replace hy := hy.new hn
          clear he44 a44 hH36 hn
          refine lV (Value.bool ga) he46 rfl rfl (wanted_plain rfl _) (rn_mv rfl (he46.op rfl) w45) ?_
          intro a47 he47
          clear he46 a46
          refine lV (Value.bool false) he47 rfl rfl (wanted_plain rfl _) (rn_neB rfl (he47.op rfl) (he47.op rfl) (by simp) w45) ?_
          intro a48 he48
          clear he47 a47
          refine lV (Value.bool false) he48 rfl rfl (wanted_plain rfl _) (rn_mv rfl (he48.op rfl) w45) ?_
          intro a49 he49
          clear he48 a48
          refine lV (Value.slice A n ca) he49 rfl rfl (he49.want rfl rfl rfl rfl rfl) (rn_mv rfl (he49.op rfl) w45) ?_
          intro a50 he50
          clear he49 a49
          refine lC he50 rfl rfl Tryd.func21 (by kernel_rfl) rfl rfl (he50.want rfl rfl rfl rfl rfl) rfl (count_cells la ▸ CountR_any la n ba ca A w45 (ha.new hH45.new) hoa (by omega) (hT.new hH45.new)) ?_
          intro w51 a52 hn he52
          have hH51 := hH45.call hn
          replace hx := hx.new hn
          replace hy := hy.new hn
          clear he50 a50 hH45 hn
          refine lV (Value.slice Ax (cellsO la).length cx) he52 rfl rfl (he52.want rfl rfl rfl rfl rfl) (rn_mv rfl (he52.op rfl) w51) ?_
          intro a53 he53
          clear he52 a52
          refine lV (Value.int .i64 ((cellsO la).length : Nat)) he53 rfl rfl (he53.want rfl rfl rfl rfl rfl) (rn_lenC rfl (he53.op rfl) w51) ?_
          intro a54 he54
          clear he53 a53
          refine lV (Value.bool false) he54 rfl rfl (he54.want rfl rfl rfl rfl rfl) (rn_neI rfl (he54.op rfl) (he54.op rfl) (by simp) w51) ?_
          intro a55 he55
          clear he54 a54
          refine lV (Value.bool false) he55 rfl rfl (wanted_plain rfl _) (rn_pk0 rfl (he55.op rfl) (he55.op rfl) w51) ?_
          intro a56 he56
          clear he55 a55
          refine lV (Value.bool false) he56 rfl rfl (wanted_plain rfl _) (rn_mv rfl (he56.op rfl) w51) ?_
          intro a57 he57
          clear he56 a56
          refine lV (Value.slice B m cb) he57 rfl rfl (he57.want rfl rfl rfl rfl rfl) (rn_mv rfl (he57.op rfl) w51) ?_
          intro a58 he58
          clear he57 a57
          refine lC he58 rfl rfl Tryd.func20 (by kernel_rfl) rfl rfl (he58.want rfl rfl rfl rfl rfl) rfl (hgb ▸ ValidR_any lb m bb cb B w51 (hb.new hH51.new) hob (by omega) (hT.new hH51.new)) ?_
          intro w59 a60 hn he60
          have hH59 := hH51.call hn
          replace hx := hx.new hn
          replace hy := hy.new hn
          clear he58 a58 hH51 hn
          refine lV (Value.bool gb) he60 rfl rfl (he60.want rfl rfl rfl rfl rfl) (rn_mv rfl (he60.op rfl) w59) ?_
          intro a61 he61
          clear he60 a60
          refine lV (Value.bool false) he61 rfl rfl (he61.want rfl rfl rfl rfl rfl) (rn_neB rfl (he61.op rfl) (he61.op rfl) (by simp) w59) ?_
          intro a62 he62
          clear he61 a61
          refine lV (Value.bool false) he62 rfl rfl (wanted_plain rfl _) (rn_pk0 rfl (he62.op rfl) (he62.op rfl) w59) ?_
          intro a63 he63
          clear he62 a62
          refine wpList_nil ?_
          refine then_ok ?_
          refine wp_cond_false (he63.op rfl) ?_
          refine wp_skip ?_
          refine then_ok ?_
          have he64 : Env 111 [(8, Value.bool gb), (7, Value.slice Ay (cellsO lb).length cy), (6, Value.bool ga), (5, Value.slice Ax (cellsO la).length cx), (0, Value.slice A n ca), (1, Value.slice B m cb)] a63 := he63.mem ⟨rfl, rfl, rfl, rfl, rfl, rfl, trivial⟩
          clear he63
          as_aux_lemma =>
            cases ga with
            | false =>
              refine wp_seq ?_
              refine wp_seq ?_
              refine wp_region_lit ?_
              refine lV (Value.bool false) he64 rfl rfl (wanted_plain rfl _) (rn_mv rfl (he64.op rfl) w59) ?_
              intro a65 he65
              clear he64 a63
              refine lV (Value.bool true) he65 rfl rfl (wanted_plain rfl _) (rn_not (b := false) rfl (he65.op rfl) w59) ?_
              intro a66 he66
              clear he65 a65
              refine wpList_nil ?_
              refine then_ok ?_
              refine wp_cond_true (he66.op rfl) ?_
              have u1 : (decide (cellsO la = []) && (cellsE la == 12)) = true := by simp [(cellsO_bad hga).1, (cellsO_bad hga).2]
              have v1 : (decide (joinO la lb = []) && (joinE la lb == 12)) = true := by simp [(join_bad (lb := lb) (.inl hga)).1, (join_bad (lb := lb) (.inl hga)).2]
              have v2 : (decide (joinO lb la = []) && (joinE lb la == 12)) = true := by simp [(join_bad (la := lb) (.inr hga)).1, (join_bad (la := lb) (.inr hga)).2]
              refine wp_seq ?_
              refine wp_region_lit ?_
              refine lV (Value.slice A n ca) he66 rfl rfl (wanted_plain rfl _) (rn_mv rfl (he66.op rfl) w59) ?_
              intro a67 he67
              clear he66 a66
              refine lC he67 rfl rfl Tryd.func22 (by kernel_rfl) rfl rfl (wanted_plain rfl _) rfl (unpacks_b la n ba ca A 12 [] 0 0 _ none true u1 w59 (ha.new hH59.new) hoa (by omega) (RdC.nil _ _ _) (by omega) (hT.new hH59.new)) ?_
              intro w68 a69 hn he69
              have hH68 := hH59.call hn
              replace hx := hx.new hn
              replace hy := hy.new hn
              clear he67 a67 hH59 hn
              refine lV (Value.bool true) he69 rfl rfl (wanted_plain rfl _) (rn_mv rfl (he69.op rfl) w68) ?_
              intro a70 he70
              clear he69 a69
              refine lV (Value.slice A n ca) he70 rfl rfl (he70.want rfl rfl rfl rfl rfl) (rn_mv rfl (he70.op rfl) w68) ?_
              intro a71 he71
              clear he70 a70
              refine lV (Value.slice B m cb) he71 rfl rfl (he71.want rfl rfl rfl rfl rfl) (rn_mv rfl (he71.op rfl) w68) ?_
              intro a72 he72
              clear he71 a71
              refine lC he72 rfl rfl Tryd.func23 (by kernel_rfl) rfl rfl (he72.want rfl rfl rfl rfl rfl) rfl (joins_b la lb n m ba ca bb cb A B 12 [] 0 0 _ none true v1 w68 (ha.new hH68.new) (hb.new hH68.new) hoa hob (by omega) (by omega) (RdG.nil _ _ _) (by omega) (hT.new hH68.new)) ?_
              intro w73 a74 hn he74
              have hH73 := hH68.call hn
              replace hx := hx.new hn
              replace hy := hy.new hn
              clear he72 a72 hH68 hn
              refine lV (Value.bool true) he74 rfl rfl (wanted_plain rfl _) (rn_pk rfl (he74.op rfl) (he74.op rfl) w73) ?_
              intro a75 he75
              clear he74 a74
              refine lV (Value.bool true) he75 rfl rfl (wanted_plain rfl _) (rn_mv rfl (he75.op rfl) w73) ?_
              intro a76 he76
              clear he75 a75
              refine lV (Value.slice B m cb) he76 rfl rfl (he76.want rfl rfl rfl rfl rfl) (rn_mv rfl (he76.op rfl) w73) ?_
              intro a77 he77
              clear he76 a76
              refine lV (Value.slice A n ca) he77 rfl rfl (he77.want rfl rfl rfl rfl rfl) (rn_mv rfl (he77.op rfl) w73) ?_
              intro a78 he78
              clear he77 a77
              refine lC he78 rfl rfl Tryd.func23 (by kernel_rfl) rfl rfl (he78.want rfl rfl rfl rfl rfl) rfl (joins_b lb la m n bb cb ba ca B A 12 [] 0 0 _ none true v2 w73 (hb.new hH73.new) (ha.new hH73.new) hob hoa (by omega) (by omega) (RdG.nil _ _ _) (by omega) (hT.new hH73.new)) ?_
              intro w79 a80 hn he80
              have hH79 := hH73.call hn
              replace hx := hx.new hn
              replace hy := hy.new hn
              clear he78 a78 hH73 hn
              refine lV (Value.bool true) he80 rfl rfl (wanted_plain rfl _) (rn_pk rfl (he80.op rfl) (he80.op rfl) w79) ?_
              intro a81 he81
              clear he80 a80
              refine lV (Value.bool true) he81 rfl rfl (wanted_plain rfl _) (rn_mv rfl (he81.op rfl) w79) ?_
              intro a82 he82
              clear he81 a81
              refine lC he82 rfl rfl Tryd.func11 (by kernel_rfl) rfl rfl (he82.want rfl rfl rfl rfl rfl) rfl (known_any w79 (hT.new hH79.new)) ?_
              intro w83 a84 hn he84
              have hH83 := hH79.call hn
              replace hx := hx.new hn
              replace hy := hy.new hn
              clear he82 a82 hH79 hn
              refine lV (Value.bool true) he84 rfl rfl (wanted_plain rfl _) (rn_pk rfl (he84.op rfl) (he84.op rfl) w83) ?_
              intro a85 he85
              clear he84 a84
              refine lV (Value.bool true) he85 rfl rfl (wanted_plain rfl _) (rn_asg rfl (he85.op rfl) w83) ?_
              intro a86 he86
              clear he85 a85
              refine wpList_nil ?_
              refine then_ok ?_
              refine wp_ret ?_
              try simp only [Exit.then, Exit.inBlock]
              exact ret_env rfl he86 rfl ⟨rfl, hH83.new.new_below⟩
            | true =>
              have e1 := cellsO_good hga
              have c1 := count_len hga
              refine wp_seq ?_
              refine wp_seq ?_
              refine wp_region_lit ?_
              refine lV (Value.bool true) he64 rfl rfl (wanted_plain rfl _) (rn_mv rfl (he64.op rfl) w59) ?_
              intro a87 he87
              clear he64 a63
              refine lV (Value.bool false) he87 rfl rfl (wanted_plain rfl _) (rn_not (b := true) rfl (he87.op rfl) w59) ?_
              intro a88 he88
              clear he87 a87
              refine wpList_nil ?_
              refine then_ok ?_
              refine wp_cond_false (he88.op rfl) ?_
              refine wp_skip ?_
              refine then_ok ?_
              have u1 : (decide (cellsO la = cellsO la) && (cellsE la == 0)) = true := by simp [e1.2]
              refine wp_seq ?_
              refine wp_seq ?_
              refine wp_region_lit ?_
              refine lV (Value.slice A n ca) he88 rfl rfl (wanted_plain rfl _) (rn_mv rfl (he88.op rfl) w59) ?_
              intro a89 he89
              clear he88 a88
              refine lV (Value.slice Ax (cellsO la).length cx) he89 rfl rfl (wanted_plain rfl _) (rn_mv rfl (he89.op rfl) w59) ?_
              intro a90 he90
              clear he89 a89
              refine lC he90 rfl rfl Tryd.func22 (by kernel_rfl) rfl rfl (wanted_plain rfl _) rfl (unpacks_b la n ba ca A 0 (cellsO la) _ bx cx Ax true u1 w59 (ha.new hH59.new) hoa (by omega) hx (by omega) (hT.new hH59.new)) ?_
              intro w91 a92 hn he92
              have hH91 := hH59.call hn
              replace hx := hx.new hn
              replace hy := hy.new hn
              clear he90 a90 hH59 hn
              refine lV (Value.bool false) he92 rfl rfl (wanted_plain rfl _) (rn_not (b := true) rfl (he92.op rfl) w91) ?_
              intro a93 he93
              clear he92 a92
              refine wpList_nil ?_
              refine then_ok ?_
              refine wp_cond_false (he93.op rfl) ?_
              refine wp_skip ?_
              refine then_ok ?_
              have he94 : Env 111 [(8, Value.bool gb), (7, Value.slice Ay (cellsO lb).length cy), (5, Value.slice Ax (cellsO la).length cx), (0, Value.slice A n ca), (1, Value.slice B m cb)] a93 := he93.mem ⟨rfl, rfl, rfl, rfl, rfl, trivial⟩
              clear he93
              as_aux_lemma =>
                cases gb with
                | false =>
                  refine wp_seq ?_
                  refine wp_seq ?_
                  refine wp_region_lit ?_
                  refine lV (Value.bool false) he94 rfl rfl (wanted_plain rfl _) (rn_mv rfl (he94.op rfl) w91) ?_
                  intro a95 he95
                  clear he94 a93
                  refine lV (Value.bool true) he95 rfl rfl (wanted_plain rfl _) (rn_not (b := false) rfl (he95.op rfl) w91) ?_
                  intro a96 he96
                  clear he95 a95
                  refine wpList_nil ?_
                  refine then_ok ?_
                  refine wp_cond_true (he96.op rfl) ?_
                  have v1 : (decide (joinO la lb = []) && (joinE la lb == 12)) = true := by simp [(join_bad (la := la) (.inr hgb)).1, (join_bad (la := la) (.inr hgb)).2]
                  refine wp_seq ?_
                  refine wp_region_lit ?_
                  refine lV (Value.slice A n ca) he96 rfl rfl (wanted_plain rfl _) (rn_mv rfl (he96.op rfl) w91) ?_
                  intro a97 he97
                  clear he96 a96
                  refine lV (Value.slice B m cb) he97 rfl rfl (wanted_plain rfl _) (rn_mv rfl (he97.op rfl) w91) ?_
                  intro a98 he98
                  clear he97 a97
                  refine lC he98 rfl rfl Tryd.func23 (by kernel_rfl) rfl rfl (wanted_plain rfl _) rfl (joins_b la lb n m ba ca bb cb A B 12 [] 0 0 _ none true v1 w91 (ha.new hH91.new) (hb.new hH91.new) hoa hob (by omega) (by omega) (RdG.nil _ _ _) (by omega) (hT.new hH91.new)) ?_
                  intro w99 a100 hn he100
                  have hH99 := hH91.call hn
                  replace hx := hx.new hn
                  replace hy := hy.new hn
                  clear he98 a98 hH91 hn
                  refine lV (Value.bool true) he100 rfl rfl (wanted_plain rfl _) (rn_mv rfl (he100.op rfl) w99) ?_
                  intro a101 he101
                  clear he100 a100
                  refine lC he101 rfl rfl Tryd.func11 (by kernel_rfl) rfl rfl (he101.want rfl rfl rfl rfl rfl) rfl (known_any w99 (hT.new hH99.new)) ?_
                  intro w102 a103 hn he103
                  have hH102 := hH99.call hn
                  replace hx := hx.new hn
                  replace hy := hy.new hn
                  clear he101 a101 hH99 hn
                  refine lV (Value.bool true) he103 rfl rfl (wanted_plain rfl _) (rn_pk rfl (he103.op rfl) (he103.op rfl) w102) ?_
                  intro a104 he104
                  clear he103 a103
                  refine lV (Value.bool true) he104 rfl rfl (wanted_plain rfl _) (rn_asg rfl (he104.op rfl) w102) ?_
                  intro a105 he105
                  clear he104 a104
                  refine wpList_nil ?_
                  refine then_ok ?_
                  refine wp_ret ?_
                  try simp only [Exit.then, Exit.inBlock]
                  exact ret_env rfl he105 rfl ⟨rfl, hH102.new.new_below⟩
                | true =>
                  have e2 := cellsO_good hgb
                  have c2 := count_len hgb
                  refine wp_seq ?_
                  refine wp_seq ?_
                  refine wp_region_lit ?_
                  refine lV (Value.bool true) he94 rfl rfl (wanted_plain rfl _) (rn_mv rfl (he94.op rfl) w91) ?_
                  intro a106 he106
                  clear he94 a93
                  refine lV (Value.bool false) he106 rfl rfl (wanted_plain rfl _) (rn_not (b := true) rfl (he106.op rfl) w91) ?_
                  intro a107 he107
                  clear he106 a106
                  refine wpList_nil ?_
                  refine then_ok ?_
                  refine wp_cond_false (he107.op rfl) ?_
                  refine wp_skip ?_
                  refine then_ok ?_
                  rw [e1.1] at hx k1
                  rw [e2.1] at hy k2
                  rw [e1.1, e2.1] at he107
                  by_cases hbig : 100000 < countR la + countR lb
                  · skip
                    refine wp_seq ?_
                    refine wp_seq ?_
                    refine wp_region_lit ?_
                    refine lV (Value.slice Ax (cellsR la).length cx) he107 rfl rfl (wanted_plain rfl _) (rn_mv rfl (he107.op rfl) w91) ?_
                    intro a108 he108
                    clear he107 a107
                    refine lV (Value.int .i64 ((cellsR la).length : Nat)) he108 rfl rfl (wanted_plain rfl _) (rn_lenC rfl (he108.op rfl) w91) ?_
                    intro a109 he109
                    clear he108 a108
                    refine lV (Value.slice Ay (cellsR lb).length cy) he109 rfl rfl (wanted_plain rfl _) (rn_mv rfl (he109.op rfl) w91) ?_
                    intro a110 he110
                    clear he109 a109
                    refine lV (Value.int .i64 ((cellsR lb).length : Nat)) he110 rfl rfl (wanted_plain rfl _) (rn_lenC rfl (he110.op rfl) w91) ?_
                    intro a111 he111
                    clear he110 a110
                    refine lV (Value.int .i64 (((cellsR la).length : Int) + ((cellsR lb).length : Int))) he111 rfl rfl (wanted_plain rfl _) (rn_add1 rfl (he111.op rfl) (he111.op rfl) (by rw [IntWalk.i64_in _ ⟨by omega, by omega⟩]) w91) ?_
                    intro a112 he112
                    clear he111 a111
                    refine lV (Value.bool true) he112 rfl rfl (wanted_plain rfl _) (rn_gtr rfl (he112.op rfl) (he112.op rfl) (decide_eq_true (by omega)) w91) ?_
                    intro a113 he113
                    clear he112 a112
                    refine wpList_nil ?_
                    refine then_ok ?_
                    refine wp_cond_true (he113.op rfl) ?_
                    have v1 : (decide (joinO la lb = []) && (joinE la lb == 5)) = true := by simp [(join_long hga hgb hbig).1, (join_long hga hgb hbig).2]
                    refine wp_seq ?_
                    refine wp_region_lit ?_
                    refine lV (Value.slice A n ca) he113 rfl rfl (wanted_plain rfl _) (rn_mv rfl (he113.op rfl) w91) ?_
                    intro a114 he114
                    clear he113 a113
                    refine lV (Value.slice B m cb) he114 rfl rfl (wanted_plain rfl _) (rn_mv rfl (he114.op rfl) w91) ?_
                    intro a115 he115
                    clear he114 a114
                    refine lC he115 rfl rfl Tryd.func23 (by kernel_rfl) rfl rfl (wanted_plain rfl _) rfl (joins_b la lb n m ba ca bb cb A B 5 [] 0 0 _ none true v1 w91 (ha.new hH91.new) (hb.new hH91.new) hoa hob (by omega) (by omega) (RdG.nil _ _ _) (by omega) (hT.new hH91.new)) ?_
                    intro w116 a117 hn he117
                    have hH116 := hH91.call hn
                    replace hx := hx.new hn
                    replace hy := hy.new hn
                    clear he115 a115 hH91 hn
                    refine lV (Value.bool true) he117 rfl rfl (wanted_plain rfl _) (rn_mv rfl (he117.op rfl) w116) ?_
                    intro a118 he118
                    clear he117 a117
                    refine lC he118 rfl rfl Tryd.func11 (by kernel_rfl) rfl rfl (he118.want rfl rfl rfl rfl rfl) rfl (known_any w116 (hT.new hH116.new)) ?_
                    intro w119 a120 hn he120
                    have hH119 := hH116.call hn
                    replace hx := hx.new hn
                    replace hy := hy.new hn
                    clear he118 a118 hH116 hn
                    refine lV (Value.bool true) he120 rfl rfl (wanted_plain rfl _) (rn_pk rfl (he120.op rfl) (he120.op rfl) w119) ?_
                    intro a121 he121
                    clear he120 a120
                    refine lV (Value.bool true) he121 rfl rfl (wanted_plain rfl _) (rn_asg rfl (he121.op rfl) w119) ?_
                    intro a122 he122
                    clear he121 a121
                    refine wpList_nil ?_
                    refine then_ok ?_
                    refine wp_ret ?_
                    try simp only [Exit.then, Exit.inBlock]
                    exact ret_env rfl he122 rfl ⟨rfl, hH119.new.new_below⟩
                  · skip
                    refine wp_seq ?_
                    refine wp_seq ?_
                    refine wp_region_lit ?_
                    refine lV (Value.slice Ax (cellsR la).length cx) he107 rfl rfl (wanted_plain rfl _) (rn_mv rfl (he107.op rfl) w91) ?_
                    intro a123 he123
                    clear he107 a107
                    refine lV (Value.int .i64 ((cellsR la).length : Nat)) he123 rfl rfl (wanted_plain rfl _) (rn_lenC rfl (he123.op rfl) w91) ?_
                    intro a124 he124
                    clear he123 a123
                    refine lV (Value.slice Ay (cellsR lb).length cy) he124 rfl rfl (wanted_plain rfl _) (rn_mv rfl (he124.op rfl) w91) ?_
                    intro a125 he125
                    clear he124 a124
                    refine lV (Value.int .i64 ((cellsR lb).length : Nat)) he125 rfl rfl (wanted_plain rfl _) (rn_lenC rfl (he125.op rfl) w91) ?_
                    intro a126 he126
                    clear he125 a125
                    refine lV (Value.int .i64 (((cellsR la).length : Int) + ((cellsR lb).length : Int))) he126 rfl rfl (wanted_plain rfl _) (rn_add1 rfl (he126.op rfl) (he126.op rfl) (by rw [IntWalk.i64_in _ ⟨by omega, by omega⟩]) w91) ?_
                    intro a127 he127
                    clear he126 a126
                    refine lV (Value.bool false) he127 rfl rfl (wanted_plain rfl _) (rn_gtr rfl (he127.op rfl) (he127.op rfl) (decide_eq_false (by omega)) w91) ?_
                    intro a128 he128
                    clear he127 a127
                    refine wpList_nil ?_
                    refine then_ok ?_
                    refine wp_cond_false (he128.op rfl) ?_
                    refine wp_skip ?_
                    refine then_ok ?_
                    have he129 : Env 111 [(7, Value.slice Ay (cellsR lb).length cy), (5, Value.slice Ax (cellsR la).length cx), (0, Value.slice A n ca), (1, Value.slice B m cb)] a128 := he128.mem ⟨rfl, rfl, rfl, rfl, trivial⟩
                    clear he128
                    as_aux_lemma =>
                      refine wp_seq ?_
                      refine wp_region_lit ?_
                      refine lV (Value.slice A n ca) he129 rfl rfl (wanted_plain rfl _) (rn_mv rfl (he129.op rfl) w91) ?_
                      intro a130 he130
                      clear he129 a128
                      refine lAppO (R := rR) (l := []) (World.ownsRow_nil w91 w91.heap.size 67 4) (ha.new hH91.new) he130 rfl rfl (wanted_plain rfl _) rfl rfl rfl (by omega) (Nat.le_refl _) ?_
                      intro vo wo a131 hoo hgr _ he131
                      clear he130 a130
                      have hn : New w91 wo := Fr.grown (Fr.refl _ _) hgr (fun k h => by cases h)
                      have hHo := hH91.call hn
                      replace hx := hx.new hn
                      replace hy := hy.new hn
                      clear hn hgr hH91
                      rw [Nat.zero_add, List.nil_append] at hoo
                      obtain ⟨bo, Ao, co, rfl, -, hro⟩ := own_rdg (R := rR) hoo
                      clear hoo
                      refine lV (Value.slice Ao n co) he131 rfl rfl (wanted_plain rfl _) (rn_asg rfl (he131.op rfl) wo) ?_
                      intro a132 he132
                      clear he131 a131
                      refine wpList_nil ?_
                      refine then_ok ?_
                      have he133 : Env 111 [(9, Value.slice Ao n co), (7, Value.slice Ay (cellsR lb).length cy), (5, Value.slice Ax (cellsR la).length cx), (0, Value.slice A n ca), (1, Value.slice B m cb)] a132 := he132.mem ⟨rfl, rfl, rfl, rfl, rfl, trivial⟩
                      clear he132
                      as_aux_lemma =>
                        refine wp_seq ?_
                        refine wp_region_lit ?_
                        refine lV (Value.slice Ax (cellsR la).length cx) he133 rfl rfl (wanted_plain rfl _) (rn_mv rfl (he133.op rfl) wo) ?_
                        intro a134 he134
                        clear he133 a132
                        have hNwb := hHo.new
                        have hro0 := hro
                        refine lAppO (R := rC) (l := []) (World.ownsRow_nil wo wo.heap.size 30 16) hx he134 rfl rfl (wanted_plain rfl _) rfl rfl rfl (by omega) (Nat.le_refl _) ?_
                        intro v1x w1x a135 ho1 hgr _ he135
                        clear he134 a134
                        have hn : New wo w1x := Fr.grown (Fr.refl _ _) hgr (fun k h => by cases h)
                        have hH1x := hHo.call hn
                        replace hx := hx.new hn
                        replace hy := hy.new hn
                        replace hro := hro.new hn
                        have hb1 : wo.heap.size ≤ w1x.heap.size := hn.size
                        have hNb1 := hn
                        clear hn hgr hHo
                        rw [Nat.zero_add, List.nil_append] at ho1
                        refine lV (Value.slice Ay (cellsR lb).length cy) he135 rfl rfl (wanted_plain rfl _) (rn_mv rfl (he135.op rfl) w1x) ?_
                        intro a136 he136
                        clear he135 a135
                        refine lAppO (R := rC) ho1 hy he136 rfl rfl (wanted_plain rfl _) rfl rfl rfl (by omega) hb1 ?_
                        intro v2x w2x a137 ho2 hgr _ he137
                        clear he136 a136
                        have hf : Fr (fun k => wo.heap.size ≤ k) w1x w2x := Fr.grown (Fr.refl _ _) hgr (fun k h => .inl (own_blk ho1 k h))
                        obtain ⟨b2, A2, c2x, rfl, -, hr2⟩ := own_rdg (R := rC) ho2
                        replace hr2 := rdc_of hr2
                        have hH2x : Hp w [] w2x := ⟨new_low hNwb hH1x.new hf, by simp, by simp⟩
                        replace hro := hro0.low hNb1 hf
                        clear hf hgr ho1 ho2 hx hy hH1x
                        have hL : (cellsR la ++ cellsR lb).length ≤ 100000 := by rw [List.length_append]; omega
                        have hall : ∀ c ∈ cellsR la ++ cellsR lb, cellB c = true ∧ c.p.Ok := fun c hc => (List.mem_append.1 hc).elim (cells_all hga c) (cells_all hgb c)
                        have hE : packE (cellsR la ++ cellsR lb) = 0 := packE_ok hL (fun c hc => (hall c hc).1)
                        have hO := packO_eq hE
                        refine lCx he137 rfl rfl Tryd.func15 (by kernel_rfl) rfl rfl (wanted_plain rfl _) rfl (RPackL_any (cellsR la ++ cellsR lb) _ _ _ _ w2x hr2 (fun c hc => (hall c hc).2) (by omega)) ?_
                        rintro _ w138 ⟨⟨Aw, cw, bw, rfl, hw⟩, hn⟩
                        refine ⟨_, rfl, ?_⟩
                        intro a139 he139
                        have hH138 := hH2x.call hn
                        replace hro := hro.new hn
                        clear he137 a137 hH2x
                        clear hn hr2
                        refine lV (Value.tuple #[Value.slice Aw (packO (cellsR la ++ cellsR lb)).length cw, Value.int .i64 (packE (cellsR la ++ cellsR lb))]) he139 rfl rfl (wanted_plain rfl _) (rn_mv rfl (he139.op rfl) w138) ?_
                        intro a140 he140
                        clear he139 a139
                        refine lV (Value.slice Aw (packO (cellsR la ++ cellsR lb)).length cw) he140 rfl rfl (wanted_plain rfl _) (rn_ext rfl (he140.op rfl) rfl w138) ?_
                        intro a141 he141
                        clear he140 a140
                        refine lV (Value.int .i64 (packE (cellsR la ++ cellsR lb))) he141 rfl rfl (wanted_plain rfl _) (rn_ext rfl (he141.op rfl) rfl w138) ?_
                        intro a142 he142
                        clear he141 a141
                        refine lV (Value.slice Aw (packO (cellsR la ++ cellsR lb)).length cw) he142 rfl rfl (wanted_plain rfl _) (rn_asg rfl (he142.op rfl) w138) ?_
                        intro a143 he143
                        clear he142 a142
                        refine lV (Value.int .i64 (packE (cellsR la ++ cellsR lb))) he143 rfl rfl (wanted_plain rfl _) (rn_asg rfl (he143.op rfl) w138) ?_
                        intro a144 he144
                        clear he143 a143
                        refine wpList_nil ?_
                        refine then_ok ?_
                        have he145 : Env 111 [(10, Value.slice Aw (packO (cellsR la ++ cellsR lb)).length cw), (9, Value.slice Ao n co), (0, Value.slice A n ca), (1, Value.slice B m cb)] a144 := he144.mem ⟨rfl, rfl, rfl, rfl, trivial⟩
                        clear he144
                        as_aux_lemma =>
                          have hjg := join_good hga hgb hbig
                          have v1 : (decide (joinO la lb = packO (cellsR la ++ cellsR lb)) && (joinE la lb == 0)) = true := by simp [hjg.1, hjg.2, hO]
                          have hwl : (packO (cellsR la ++ cellsR lb)).length ≤ 100000 := by rw [hO]; have := pack_le (cellsR la ++ cellsR lb); omega
                          refine wp_seq ?_
                          refine wp_region_lit ?_
                          refine lV (Value.slice Ao n co) he145 rfl rfl (wanted_plain rfl _) (rn_mv rfl (he145.op rfl) w138) ?_
                          intro a146 he146
                          clear he145 a144
                          refine lV (Value.slice B m cb) he146 rfl rfl (wanted_plain rfl _) (rn_mv rfl (he146.op rfl) w138) ?_
                          intro a147 he147
                          clear he146 a146
                          refine lV (Value.slice Aw (packO (cellsR la ++ cellsR lb)).length cw) he147 rfl rfl (wanted_plain rfl _) (rn_mv rfl (he147.op rfl) w138) ?_
                          intro a148 he148
                          clear he147 a147
                          refine lC he148 rfl rfl Tryd.func23 (by kernel_rfl) rfl rfl (wanted_plain rfl _) rfl (joins_b la lb n m _ _ bb cb _ B 0 (packO (cellsR la ++ cellsR lb)) _ _ _ _ true v1 w138 hro (hb.new hH138.new) hoa hob (by omega) (by omega) hw (by omega) (hT.new hH138.new)) ?_
                          intro w149 a150 hn he150
                          have hH149 := hH138.call hn
                          replace hro := hro.new hn
                          replace hw := hw.new hn
                          clear he148 a148 hH138 hn
                          refine lV (Value.bool true) he150 rfl rfl (wanted_plain rfl _) (rn_mv rfl (he150.op rfl) w149) ?_
                          intro a151 he151
                          clear he150 a150
                          refine lV (Value.slice Ao n co) he151 rfl rfl (he151.want rfl rfl rfl rfl rfl) (rn_mv rfl (he151.op rfl) w149) ?_
                          intro a152 he152
                          clear he151 a151
                          refine lV (Value.slice A n ca) he152 rfl rfl (he152.want rfl rfl rfl rfl rfl) (rn_mv rfl (he152.op rfl) w149) ?_
                          intro a153 he153
                          clear he152 a152
                          refine lC he153 rfl rfl Tryd.func24 (by kernel_rfl) rfl rfl (he153.want rfl rfl rfl rfl rfl) rfl (SameR_b la la true (by simp) n n _ _ _ _ _ _ w149 hro (ha.new hH149.new) (by omega) (by omega)) ?_
                          intro w154 a155 hn he155
                          have hH154 := hH149.call hn
                          replace hro := hro.new hn
                          replace hw := hw.new hn
                          clear he153 a153 hH149 hn
                          refine lV (Value.bool true) he155 rfl rfl (wanted_plain rfl _) (rn_pk rfl (he155.op rfl) (he155.op rfl) w154) ?_
                          intro a156 he156
                          clear he155 a155
                          refine lV (Value.bool true) he156 rfl rfl (wanted_plain rfl _) (rn_mv rfl (he156.op rfl) w154) ?_
                          intro a157 he157
                          clear he156 a156
                          refine lC he157 rfl rfl Tryd.func11 (by kernel_rfl) rfl rfl (he157.want rfl rfl rfl rfl rfl) rfl (known_any w154 (hT.new hH154.new)) ?_
                          intro w158 a159 hn he159
                          have hH158 := hH154.call hn
                          replace hro := hro.new hn
                          replace hw := hw.new hn
                          clear he157 a157 hH154 hn
                          refine lV (Value.bool true) he159 rfl rfl (wanted_plain rfl _) (rn_pk rfl (he159.op rfl) (he159.op rfl) w158) ?_
                          intro a160 he160
                          clear he159 a159
                          refine lV (Value.bool true) he160 rfl rfl (wanted_plain rfl _) (rn_asg rfl (he160.op rfl) w158) ?_
                          intro a161 he161
                          clear he160 a160
                          refine wpList_nil ?_
                          refine then_ok ?_
                          refine wp_ret ?_
                          try simp only [Exit.then, Exit.inBlock]
                          exact ret_env rfl he161 rfl ⟨rfl, hH158.new.new_below⟩

end Go.Proofs.YtaiijndldngnkaaDoor
