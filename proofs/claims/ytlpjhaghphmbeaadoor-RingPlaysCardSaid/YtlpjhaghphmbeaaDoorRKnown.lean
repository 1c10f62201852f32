/-
  The examples of the chapter.
-/
import Derived.Test.YtlpjhaghphmbeaaDoorRRead
namespace Go.Proofs.YtlpjhaghphmbeaaDoor
open Go.RowKit

abbrev laK : Ln := ([tc 97], false)
theorem oka : okL [tc 97] = true := by decide +kernel
abbrev lbK : Ln := ([tc 98], false)
theorem okb : okL [tc 98] = true := by decide +kernel
abbrev lcK : Ln := ([tc 99], false)
theorem okc : okL [tc 99] = true := by decide +kernel
abbrev ldK : Ln := ([tc 100], false)
theorem okd : okL [tc 100] = true := by decide +kernel
abbrev leK : Ln := ([tc 101], false)
theorem oke : okL [tc 101] = true := by decide +kernel
set_option linter.unusedSimpArgs false in
set_option maxRecDepth 100000 in
set_option maxHeartbeats 1600000 in
theorem known_any (w : World) (hT : Tab w) : Calls Tryd.prog 8 #[] w fun e w' => e = .returned (.bool true) ∧ New w w' := by
  refine calls_args (vl := []) 228 Tryd.func8 rfl Tryd.ntmps8 (by kernel_rfl) (fun a he => ?_)
  have he0 : Env 228 [] a := he
  clear he
  have hH := Hp.start w
  have hD := Dt.start hT
  refine wp_seq (wp_region_lit ?_)
  refine lW (.bool false) he0 rfl (rn_asg rfl (he0.op rfl) w) ?_
  intro a1 he1
  clear he0 a
  refine wpList_nil (then_ok ?_)
  refine wp_seq (wp_region_lit ?_)
  refine lCx he1 rfl rfl Tryd.func18 (by kernel_rfl) rfl rfl (wanted_plain rfl _) rfl (text_b 97 w) ?_
  rintro _ w2 ⟨Aa, ca, rfl, ht⟩
  have hD2 := hD.made ht
  have hH2 := hH.call ht.new
  replace hD := hD2
  clear hD2 ht
  refine ⟨_, rfl, ?_⟩
  intro a3 he3
  clear he1 a1 hH
  refine lCx he3 rfl rfl Tryd.func18 (by kernel_rfl) rfl rfl (wanted_plain rfl _) rfl (text_b 98 w2) ?_
  rintro _ w4 ⟨Ab, cb, rfl, ht⟩
  have hD2 := hD.made ht
  have hH4 := hH2.call ht.new
  replace hD := hD2
  clear hD2 ht
  refine ⟨_, rfl, ?_⟩
  intro a5 he5
  clear he3 a3 hH2
  refine lCx he5 rfl rfl Tryd.func18 (by kernel_rfl) rfl rfl (wanted_plain rfl _) rfl (text_b 99 w4) ?_
  rintro _ w6 ⟨Ac, cc, rfl, ht⟩
  have hD2 := hD.made ht
  have hH6 := hH4.call ht.new
  replace hD := hD2
  clear hD2 ht
  refine ⟨_, rfl, ?_⟩
  intro a7 he7
  clear he5 a5 hH4
  refine lCx he7 rfl rfl Tryd.func18 (by kernel_rfl) rfl rfl (wanted_plain rfl _) rfl (text_b 100 w6) ?_
  rintro _ w8 ⟨Ad, cd, rfl, ht⟩
  have hD2 := hD.made ht
  have hH8 := hH6.call ht.new
  replace hD := hD2
  clear hD2 ht
  refine ⟨_, rfl, ?_⟩
  intro a9 he9
  clear he7 a7 hH6
  refine lCx he9 rfl rfl Tryd.func18 (by kernel_rfl) rfl rfl (wanted_plain rfl _) rfl (text_b 101 w8) ?_
  rintro _ w10 ⟨Ae, ce, rfl, ht⟩
  have hD2 := hD.made ht
  have hH10 := hH8.call ht.new
  replace hD := hD2
  clear hD2 ht
  refine ⟨_, rfl, ?_⟩
  intro a11 he11
  clear he9 a9 hH8
  refine lNewP (fun p => .pointer (some ⟨p, 0, none⟩)) he11 hH10 rfl rfl (wanted_plain rfl _) (rn_allocL rfl w10) ?_
  intro p12 w12 a13 hp hn hH12 he13
  replace hD := hD.cons hn hp (hH12.at (i := 0) rfl).lt
  clear he11 a11 hH10 hn hp
  refine lNewP (fun p => .pointer (some ⟨p, 0, none⟩)) he13 hH12 rfl rfl (wanted_plain rfl _) (rn_allocL rfl w12) ?_
  intro p14 w14 a15 hp hn hH14 he15
  replace hD := hD.cons hn hp (hH14.at (i := 0) rfl).lt
  clear he13 a13 hH12 hn hp
  refine lNewP (fun p => .pointer (some ⟨p, 0, none⟩)) he15 hH14 rfl rfl (wanted_plain rfl _) (rn_allocL rfl w14) ?_
  intro p16 w16 a17 hp hn hH16 he17
  replace hD := hD.cons hn hp (hH16.at (i := 0) rfl).lt
  clear he15 a15 hH14 hn hp
  refine lNewP (fun p => .pointer (some ⟨p, 0, none⟩)) he17 hH16 rfl rfl (wanted_plain rfl _) (rn_allocL rfl w16) ?_
  intro p18 w18 a19 hp hn hH18 he19
  replace hD := hD.cons hn hp (hH18.at (i := 0) rfl).lt
  clear he17 a17 hH16 hn hp
  refine lNewP (fun p => .pointer (some ⟨p, 0, none⟩)) he19 hH18 rfl rfl (wanted_plain rfl _) (rn_allocL rfl w18) ?_
  intro p20 w20 a21 hp hn hH20 he21
  replace hD := hD.cons hn hp (hH20.at (i := 0) rfl).lt
  clear he19 a19 hH18 hn hp
  refine lSetF 4 #[.slice Aa 1 ca, .bool false] (cs := #[.slice Aa 1 ca, .bool false]) he21 hH20 rfl (wanted_plain rfl _) rfl rfl rfl rfl rfl (by kernel_rfl) (by kernel_rfl) (by kernel_rfl) rfl ?_
  intro w22 a23 hH22 hf he23
  replace hD := hD.setb (i := 4) rfl rfl hf
  replace hH22 : Hp w [⟨p20, 36, #[.slice none 0 0, .bool false]⟩, ⟨p18, 36, #[.slice none 0 0, .bool false]⟩, ⟨p16, 36, #[.slice none 0 0, .bool false]⟩, ⟨p14, 36, #[.slice none 0 0, .bool false]⟩, ⟨p12, 36, #[.slice Aa 1 ca, .bool false]⟩] w22 := hH22
  clear hf
  clear he21 a21 hH20
  refine lSetF 3 #[.slice Ab 1 cb, .bool false] (cs := #[.slice Ab 1 cb, .bool false]) he23 hH22 rfl (wanted_plain rfl _) rfl rfl rfl rfl rfl (by kernel_rfl) (by kernel_rfl) (by kernel_rfl) rfl ?_
  intro w24 a25 hH24 hf he25
  replace hD := hD.setb (i := 3) rfl rfl hf
  replace hH24 : Hp w [⟨p20, 36, #[.slice none 0 0, .bool false]⟩, ⟨p18, 36, #[.slice none 0 0, .bool false]⟩, ⟨p16, 36, #[.slice none 0 0, .bool false]⟩, ⟨p14, 36, #[.slice Ab 1 cb, .bool false]⟩, ⟨p12, 36, #[.slice Aa 1 ca, .bool false]⟩] w24 := hH24
  clear hf
  clear he23 a23 hH22
  refine lSetF 2 #[.slice Ac 1 cc, .bool false] (cs := #[.slice Ac 1 cc, .bool false]) he25 hH24 rfl (wanted_plain rfl _) rfl rfl rfl rfl rfl (by kernel_rfl) (by kernel_rfl) (by kernel_rfl) rfl ?_
  intro w26 a27 hH26 hf he27
  replace hD := hD.setb (i := 2) rfl rfl hf
  replace hH26 : Hp w [⟨p20, 36, #[.slice none 0 0, .bool false]⟩, ⟨p18, 36, #[.slice none 0 0, .bool false]⟩, ⟨p16, 36, #[.slice Ac 1 cc, .bool false]⟩, ⟨p14, 36, #[.slice Ab 1 cb, .bool false]⟩, ⟨p12, 36, #[.slice Aa 1 ca, .bool false]⟩] w26 := hH26
  clear hf
  clear he25 a25 hH24
  refine lSetF 1 #[.slice Ad 1 cd, .bool false] (cs := #[.slice Ad 1 cd, .bool false]) he27 hH26 rfl (wanted_plain rfl _) rfl rfl rfl rfl rfl (by kernel_rfl) (by kernel_rfl) (by kernel_rfl) rfl ?_
  intro w28 a29 hH28 hf he29
  replace hD := hD.setb (i := 1) rfl rfl hf
  replace hH28 : Hp w [⟨p20, 36, #[.slice none 0 0, .bool false]⟩, ⟨p18, 36, #[.slice Ad 1 cd, .bool false]⟩, ⟨p16, 36, #[.slice Ac 1 cc, .bool false]⟩, ⟨p14, 36, #[.slice Ab 1 cb, .bool false]⟩, ⟨p12, 36, #[.slice Aa 1 ca, .bool false]⟩] w28 := hH28
  clear hf
  clear he27 a27 hH26
  refine lSetF 0 #[.slice Ae 1 ce, .bool false] (cs := #[.slice Ae 1 ce, .bool false]) he29 hH28 rfl (wanted_plain rfl _) rfl rfl rfl rfl rfl (by kernel_rfl) (by kernel_rfl) (by kernel_rfl) rfl ?_
  intro w30 a31 hH30 hf he31
  replace hD := hD.setb (i := 0) rfl rfl hf
  replace hH30 : Hp w [⟨p20, 36, #[.slice Ae 1 ce, .bool false]⟩, ⟨p18, 36, #[.slice Ad 1 cd, .bool false]⟩, ⟨p16, 36, #[.slice Ac 1 cc, .bool false]⟩, ⟨p14, 36, #[.slice Ab 1 cb, .bool false]⟩, ⟨p12, 36, #[.slice Aa 1 ca, .bool false]⟩] w30 := hH30
  clear hf
  clear he29 a29 hH28
  refine wpList_nil (then_ok ?_)
  have he32 : Env 228 [(5, .pointer (some ⟨p20, 0, none⟩)), (4, .pointer (some ⟨p18, 0, none⟩)), (3, .pointer (some ⟨p16, 0, none⟩)), (2, .pointer (some ⟨p14, 0, none⟩)), (1, .pointer (some ⟨p12, 0, none⟩)), (0, .bool false)] a31 := he31.mem ⟨rfl, rfl, rfl, rfl, rfl, rfl, trivial⟩
  clear he31
  as_aux_lemma =>
    refine wp_seq (wp_region_lit ?_)
    refine lCx he32 rfl rfl Tryd.func9 (by kernel_rfl) rfl rfl (wanted_plain rfl _) rfl (rNew_ok 3 2 (by decide) (by decide) (by decide) w30 hD.tab) ?_
    rintro _ w33 ⟨ps, rfl, ht⟩
    have hD2 := hD.made ht
    have hH33 := hH30.call ht.new
    replace hD := hD2
    clear hD2 ht
    refine ⟨_, rfl, ?_⟩
    intro a34 he34
    clear he32 a31 hH30
    refine lW (.tuple #[.pointer (some ⟨ps, 0, none⟩), .int .i64 0]) he34 rfl (rn_mv rfl (he34.op rfl) w33) ?_
    intro a35 he35
    clear he34 a34
    refine lW (.pointer (some ⟨ps, 0, none⟩)) he35 rfl (rn_ext rfl (he35.op rfl) rfl w33) ?_
    intro a36 he36
    clear he35 a35
    refine lW (.int .i64 0) he36 rfl (rn_ext rfl (he36.op rfl) rfl w33) ?_
    intro a37 he37
    clear he36 a36
    refine lW (.pointer (some ⟨ps, 0, none⟩)) he37 rfl (rn_asg rfl (he37.op rfl) w33) ?_
    intro a38 he38
    clear he37 a37
    refine lW (.int .i64 0) he38 rfl (rn_asg rfl (he38.op rfl) w33) ?_
    intro a39 he39
    clear he38 a38
    refine wpList_nil (then_ok ?_)
    have he40 : Env 228 [(7, .int .i64 0), (6, .pointer (some ⟨ps, 0, none⟩)), (5, .pointer (some ⟨p20, 0, none⟩)), (4, .pointer (some ⟨p18, 0, none⟩)), (3, .pointer (some ⟨p16, 0, none⟩)), (2, .pointer (some ⟨p14, 0, none⟩)), (1, .pointer (some ⟨p12, 0, none⟩)), (0, .bool false)] a39 := he39.mem ⟨rfl, rfl, rfl, rfl, rfl, rfl, rfl, rfl, trivial⟩
    clear he39
    as_aux_lemma =>
      refine wp_seq ?_
      refine wp_seq (wp_region_lit ?_)
      refine lW (.pointer (some ⟨ps, 0, none⟩)) he40 rfl (rn_mv rfl (he40.op rfl) w33) ?_
      intro a41 he41
      clear he40 a39
      refine lW (.bool false) he41 rfl (rn_eqPr1 rfl (he41.op rfl) (fun _ => rfl) w33) ?_
      intro a42 he42
      clear he41 a41
      refine lW (.bool false) he42 rfl (rn_mv rfl (he42.op rfl) w33) ?_
      intro a43 he43
      clear he42 a42
      refine lV (.int .i64 0) he43 rfl rfl (he43.want rfl rfl rfl rfl rfl) (rn_mv rfl (he43.op rfl) w33) ?_
      intro a44 he44
      clear he43 a43
      refine lV (.bool false) he44 rfl rfl (he44.want rfl rfl rfl rfl rfl) (rn_neE rfl (he44.op rfl) (he44.op rfl) (by rfl) w33) ?_
      intro a45 he45
      clear he44 a44
      refine lW (.bool false) he45 rfl (rn_pk0 rfl (he45.op rfl) (he45.op rfl) w33) ?_
      intro a46 he46
      clear he45 a45
      refine lW (.bool false) he46 rfl (rn_mv rfl (he46.op rfl) w33) ?_
      intro a47 he47
      clear he46 a46
      refine lV (.pointer (some ⟨ps, 0, none⟩)) he47 rfl rfl (he47.want rfl rfl rfl rfl rfl) (rn_mv rfl (he47.op rfl) w33) ?_
      intro a48 he48
      clear he47 a47
      refine lV (.agg #[.slice Aa 1 ca, .bool false]) he48 rfl rfl (he48.want rfl rfl rfl rfl rfl) (rn_ldp _ rfl (he48.op rfl) undL rfl infoL2 (hH33.at (i := 4) rfl) rfl) ?_
      intro a49 he49
      clear he48 a48
      have hps : (pushR (⟨3, 2, 0, []⟩ : RS) laK).1 = (⟨3, 2, 0, [(0, [laK])]⟩ : RS) := by rw [push_t oka]; kernel_rfl
      have hpv : (pushR (⟨3, 2, 0, []⟩ : RS) laK).2 = (0, 0) := by rw [push_t oka]; kernel_rfl
      replace hD := hD.pick 5 rfl
      replace hD := hD.pick 1 rfl
      obtain ⟨F_, G_, hsep, hrd_, hdj, hF, hstep⟩ := Dt.stepR (A := [ringD ps (⟨3, 2, 0, []⟩ : RS)]) (d := cellsD (.slice Aa 1 ca) [tc 97]) (D := [cellsD (.slice Ae 1 ce) [tc 101], cellsD (.slice Ad 1 cd) [tc 100], cellsD (.slice Ac 1 cc) [tc 99], cellsD (.slice Ab 1 cb) [tc 98]]) hD
      refine lCx he49 rfl rfl Tryd.func17 (by kernel_rfl) rfl rfl (he49.want rfl rfl rfl rfl rfl) rfl ((hps ▸ pushes_b ps (⟨3, 2, 0, []⟩ : RS) _ laK.1 laK.2 0 0 F_ G_ w33 hsep.the (by decide +kernel) hpv (cells_f hrd_) hdj hF hD.tab)) ?_
      rintro _ w50 ⟨rfl, ht⟩
      obtain ⟨hD2, hHs⟩ := hstep _ _ ht
      have hH50 := hHs _ rfl hH33
      clear hHs hstep hsep hF hrd_ hdj
      replace hD := hD2
      clear hD2 ht
      refine ⟨_, rfl, ?_⟩
      intro a51 he51
      clear he49 a49 hH33
      clear hps hpv
      refine lV (.bool false) he51 rfl rfl (he51.want rfl rfl rfl rfl rfl) (rn_not (b := true) rfl (he51.op rfl) w50) ?_
      intro a52 he52
      clear he51 a51
      refine lW (.bool false) he52 rfl (rn_pk0 rfl (he52.op rfl) (he52.op rfl) w50) ?_
      intro a53 he53
      clear he52 a52
      refine lW (.bool false) he53 rfl (rn_mv rfl (he53.op rfl) w50) ?_
      intro a54 he54
      clear he53 a53
      refine lV (.pointer (some ⟨ps, 0, none⟩)) he54 rfl rfl (he54.want rfl rfl rfl rfl rfl) (rn_mv rfl (he54.op rfl) w50) ?_
      intro a55 he55
      clear he54 a54
      refine lV (.agg #[.slice Ab 1 cb, .bool false]) he55 rfl rfl (he55.want rfl rfl rfl rfl rfl) (rn_ldp _ rfl (he55.op rfl) undL rfl infoL2 (hH50.at (i := 3) rfl) rfl) ?_
      intro a56 he56
      clear he55 a55
      have hps : (pushR (⟨3, 2, 0, [(0, [laK])]⟩ : RS) lbK).1 = (⟨3, 2, 0, [(0, [laK, lbK])]⟩ : RS) := by rw [push_t okb]; kernel_rfl
      have hpv : (pushR (⟨3, 2, 0, [(0, [laK])]⟩ : RS) lbK).2 = (1, 0) := by rw [push_t okb]; kernel_rfl
      replace hD := hD.pick 5 rfl
      replace hD := hD.pick 1 rfl
      obtain ⟨F_, G_, hsep, hrd_, hdj, hF, hstep⟩ := Dt.stepR (A := [ringD ps (⟨3, 2, 0, [(0, [laK])]⟩ : RS)]) (d := cellsD (.slice Ab 1 cb) [tc 98]) (D := [cellsD (.slice Aa 1 ca) [tc 97], cellsD (.slice Ae 1 ce) [tc 101], cellsD (.slice Ad 1 cd) [tc 100], cellsD (.slice Ac 1 cc) [tc 99]]) hD
      refine lCx he56 rfl rfl Tryd.func17 (by kernel_rfl) rfl rfl (he56.want rfl rfl rfl rfl rfl) rfl ((hps ▸ pushes_b ps (⟨3, 2, 0, [(0, [laK])]⟩ : RS) _ lbK.1 lbK.2 1 0 F_ G_ w50 hsep.the (by decide +kernel) hpv (cells_f hrd_) hdj hF hD.tab)) ?_
      rintro _ w57 ⟨rfl, ht⟩
      obtain ⟨hD2, hHs⟩ := hstep _ _ ht
      have hH57 := hHs _ rfl hH50
      clear hHs hstep hsep hF hrd_ hdj
      replace hD := hD2
      clear hD2 ht
      refine ⟨_, rfl, ?_⟩
      intro a58 he58
      clear he56 a56 hH50
      clear hps hpv
      refine lV (.bool false) he58 rfl rfl (he58.want rfl rfl rfl rfl rfl) (rn_not (b := true) rfl (he58.op rfl) w57) ?_
      intro a59 he59
      clear he58 a58
      refine lW (.bool false) he59 rfl (rn_pk0 rfl (he59.op rfl) (he59.op rfl) w57) ?_
      intro a60 he60
      clear he59 a59
      refine lW (.bool false) he60 rfl (rn_mv rfl (he60.op rfl) w57) ?_
      intro a61 he61
      clear he60 a60
      refine lV (.pointer (some ⟨ps, 0, none⟩)) he61 rfl rfl (he61.want rfl rfl rfl rfl rfl) (rn_mv rfl (he61.op rfl) w57) ?_
      intro a62 he62
      clear he61 a61
      refine lV (.agg #[.slice Ac 1 cc, .bool false]) he62 rfl rfl (he62.want rfl rfl rfl rfl rfl) (rn_ldp _ rfl (he62.op rfl) undL rfl infoL2 (hH57.at (i := 2) rfl) rfl) ?_
      intro a63 he63
      clear he62 a62
      have hps : (pushR (⟨3, 2, 0, [(0, [laK, lbK])]⟩ : RS) lcK).1 = (⟨3, 2, 0, [(0, [laK, lbK]), (0, [lcK])]⟩ : RS) := by rw [push_t okc]; kernel_rfl
      have hpv : (pushR (⟨3, 2, 0, [(0, [laK, lbK])]⟩ : RS) lcK).2 = (2, 0) := by rw [push_t okc]; kernel_rfl
      replace hD := hD.pick 5 rfl
      replace hD := hD.pick 1 rfl
      obtain ⟨F_, G_, hsep, hrd_, hdj, hF, hstep⟩ := Dt.stepR (A := [ringD ps (⟨3, 2, 0, [(0, [laK, lbK])]⟩ : RS)]) (d := cellsD (.slice Ac 1 cc) [tc 99]) (D := [cellsD (.slice Ab 1 cb) [tc 98], cellsD (.slice Aa 1 ca) [tc 97], cellsD (.slice Ae 1 ce) [tc 101], cellsD (.slice Ad 1 cd) [tc 100]]) hD
      refine lCx he63 rfl rfl Tryd.func17 (by kernel_rfl) rfl rfl (he63.want rfl rfl rfl rfl rfl) rfl ((hps ▸ pushes_b ps (⟨3, 2, 0, [(0, [laK, lbK])]⟩ : RS) _ lcK.1 lcK.2 2 0 F_ G_ w57 hsep.the (by decide +kernel) hpv (cells_f hrd_) hdj hF hD.tab)) ?_
      rintro _ w64 ⟨rfl, ht⟩
      obtain ⟨hD2, hHs⟩ := hstep _ _ ht
      have hH64 := hHs _ rfl hH57
      clear hHs hstep hsep hF hrd_ hdj
      replace hD := hD2
      clear hD2 ht
      refine ⟨_, rfl, ?_⟩
      intro a65 he65
      clear he63 a63 hH57
      clear hps hpv
      refine lV (.bool false) he65 rfl rfl (he65.want rfl rfl rfl rfl rfl) (rn_not (b := true) rfl (he65.op rfl) w64) ?_
      intro a66 he66
      clear he65 a65
      refine lW (.bool false) he66 rfl (rn_pk0 rfl (he66.op rfl) (he66.op rfl) w64) ?_
      intro a67 he67
      clear he66 a66
      refine lW (.bool false) he67 rfl (rn_mv rfl (he67.op rfl) w64) ?_
      intro a68 he68
      clear he67 a67
      refine lV (.pointer (some ⟨ps, 0, none⟩)) he68 rfl rfl (he68.want rfl rfl rfl rfl rfl) (rn_mv rfl (he68.op rfl) w64) ?_
      intro a69 he69
      clear he68 a68
      obtain ⟨Fs_, hs_⟩ := hD.get (i := 0) rfl
      refine lC he69 rfl rfl Tryd.func21 (by kernel_rfl) rfl rfl (he69.want rfl rfl rfl rfl rfl) rfl (rPages_d (R := (⟨3, 2, 0, [(0, [laK, lbK]), (0, [lcK])]⟩ : RS)) hs_ hD.tab) ?_
      intro w70 a71 hn he71
      have hH70 := hH64.call hn
      replace hD := (hD).new hn
      clear he69 a69 hH64 hn
      clear hs_ Fs_
      refine lV (.bool false) he71 rfl rfl (he71.want rfl rfl rfl rfl rfl) (rn_neI rfl (he71.op rfl) (he71.op rfl) (by rfl) w70) ?_
      intro a72 he72
      clear he71 a71
      refine lW (.bool false) he72 rfl (rn_pk0 rfl (he72.op rfl) (he72.op rfl) w70) ?_
      intro a73 he73
      clear he72 a72
      refine lW (.bool false) he73 rfl (rn_mv rfl (he73.op rfl) w70) ?_
      intro a74 he74
      clear he73 a73
      refine lV (.pointer (some ⟨ps, 0, none⟩)) he74 rfl rfl (he74.want rfl rfl rfl rfl rfl) (rn_mv rfl (he74.op rfl) w70) ?_
      intro a75 he75
      clear he74 a74
      refine lV (.agg #[.slice Ad 1 cd, .bool false]) he75 rfl rfl (he75.want rfl rfl rfl rfl rfl) (rn_ldp _ rfl (he75.op rfl) undL rfl infoL2 (hH70.at (i := 1) rfl) rfl) ?_
      intro a76 he76
      clear he75 a75
      have hps : (pushR (⟨3, 2, 0, [(0, [laK, lbK]), (0, [lcK])]⟩ : RS) ldK).1 = (⟨3, 2, 1, [(1, [lbK]), (0, [lcK, ldK])]⟩ : RS) := by rw [push_t okd]; kernel_rfl
      have hpv : (pushR (⟨3, 2, 0, [(0, [laK, lbK]), (0, [lcK])]⟩ : RS) ldK).2 = (3, 0) := by rw [push_t okd]; kernel_rfl
      replace hD := hD.pick 5 rfl
      replace hD := hD.pick 1 rfl
      obtain ⟨F_, G_, hsep, hrd_, hdj, hF, hstep⟩ := Dt.stepR (A := [ringD ps (⟨3, 2, 0, [(0, [laK, lbK]), (0, [lcK])]⟩ : RS)]) (d := cellsD (.slice Ad 1 cd) [tc 100]) (D := [cellsD (.slice Ac 1 cc) [tc 99], cellsD (.slice Ab 1 cb) [tc 98], cellsD (.slice Aa 1 ca) [tc 97], cellsD (.slice Ae 1 ce) [tc 101]]) hD
      refine lCx he76 rfl rfl Tryd.func17 (by kernel_rfl) rfl rfl (he76.want rfl rfl rfl rfl rfl) rfl ((hps ▸ pushes_b ps (⟨3, 2, 0, [(0, [laK, lbK]), (0, [lcK])]⟩ : RS) _ ldK.1 ldK.2 3 0 F_ G_ w70 hsep.the (by decide +kernel) hpv (cells_f hrd_) hdj hF hD.tab)) ?_
      rintro _ w77 ⟨rfl, ht⟩
      obtain ⟨hD2, hHs⟩ := hstep _ _ ht
      have hH77 := hHs _ rfl hH70
      clear hHs hstep hsep hF hrd_ hdj
      replace hD := hD2
      clear hD2 ht
      refine ⟨_, rfl, ?_⟩
      intro a78 he78
      clear he76 a76 hH70
      clear hps hpv
      refine lV (.bool false) he78 rfl rfl (he78.want rfl rfl rfl rfl rfl) (rn_not (b := true) rfl (he78.op rfl) w77) ?_
      intro a79 he79
      clear he78 a78
      refine lW (.bool false) he79 rfl (rn_pk0 rfl (he79.op rfl) (he79.op rfl) w77) ?_
      intro a80 he80
      clear he79 a79
      refine lW (.bool false) he80 rfl (rn_mv rfl (he80.op rfl) w77) ?_
      intro a81 he81
      clear he80 a80
      refine lV (.pointer (some ⟨ps, 0, none⟩)) he81 rfl rfl (he81.want rfl rfl rfl rfl rfl) (rn_mv rfl (he81.op rfl) w77) ?_
      intro a82 he82
      clear he81 a81
      obtain ⟨Fs_, hs_⟩ := hD.get (i := 0) rfl
      refine lC he82 rfl rfl Tryd.func19 (by kernel_rfl) rfl rfl (he82.want rfl rfl rfl rfl rfl) rfl (rFirst_d (R := (⟨3, 2, 1, [(1, [lbK]), (0, [lcK, ldK])]⟩ : RS)) hs_ hD.tab) ?_
      intro w83 a84 hn he84
      have hH83 := hH77.call hn
      replace hD := (hD).new hn
      clear he82 a82 hH77 hn
      clear hs_ Fs_
      refine lV (.bool false) he84 rfl rfl (he84.want rfl rfl rfl rfl rfl) (rn_neI rfl (he84.op rfl) (he84.op rfl) (by rfl) w83) ?_
      intro a85 he85
      clear he84 a84
      refine lW (.bool false) he85 rfl (rn_pk0 rfl (he85.op rfl) (he85.op rfl) w83) ?_
      intro a86 he86
      clear he85 a85
      refine lW (.bool false) he86 rfl (rn_mv rfl (he86.op rfl) w83) ?_
      intro a87 he87
      clear he86 a86
      refine lV (.pointer (some ⟨ps, 0, none⟩)) he87 rfl rfl (he87.want rfl rfl rfl rfl rfl) (rn_mv rfl (he87.op rfl) w83) ?_
      intro a88 he88
      clear he87 a87
      obtain ⟨Fs_, hs_⟩ := hD.get (i := 0) rfl
      refine lC he88 rfl rfl Tryd.func20 (by kernel_rfl) rfl rfl (he88.want rfl rfl rfl rfl rfl) rfl (rNext_d (R := (⟨3, 2, 1, [(1, [lbK]), (0, [lcK, ldK])]⟩ : RS)) hs_ hD.tab) ?_
      intro w89 a90 hn he90
      have hH89 := hH83.call hn
      replace hD := (hD).new hn
      clear he88 a88 hH83 hn
      clear hs_ Fs_
      refine lV (.bool false) he90 rfl rfl (he90.want rfl rfl rfl rfl rfl) (rn_neI rfl (he90.op rfl) (he90.op rfl) (by rfl) w89) ?_
      intro a91 he91
      clear he90 a90
      refine lW (.bool false) he91 rfl (rn_pk0 rfl (he91.op rfl) (he91.op rfl) w89) ?_
      intro a92 he92
      clear he91 a91
      refine lW (.bool false) he92 rfl (rn_mv rfl (he92.op rfl) w89) ?_
      intro a93 he93
      clear he92 a92
      refine lV (.pointer (some ⟨ps, 0, none⟩)) he93 rfl rfl (he93.want rfl rfl rfl rfl rfl) (rn_mv rfl (he93.op rfl) w89) ?_
      intro a94 he94
      clear he93 a93
      obtain ⟨Fs_, hs_⟩ := hD.get (i := 0) rfl
      refine lC he94 rfl rfl Tryd.func21 (by kernel_rfl) rfl rfl (he94.want rfl rfl rfl rfl rfl) rfl (rPages_d (R := (⟨3, 2, 1, [(1, [lbK]), (0, [lcK, ldK])]⟩ : RS)) hs_ hD.tab) ?_
      intro w95 a96 hn he96
      have hH95 := hH89.call hn
      replace hD := (hD).new hn
      clear he94 a94 hH89 hn
      clear hs_ Fs_
      refine lV (.bool false) he96 rfl rfl (he96.want rfl rfl rfl rfl rfl) (rn_neI rfl (he96.op rfl) (he96.op rfl) (by rfl) w95) ?_
      intro a97 he97
      clear he96 a96
      refine lW (.bool false) he97 rfl (rn_pk0 rfl (he97.op rfl) (he97.op rfl) w95) ?_
      intro a98 he98
      clear he97 a97
      refine lW (.bool false) he98 rfl (rn_mv rfl (he98.op rfl) w95) ?_
      intro a99 he99
      clear he98 a98
      refine lV (.pointer (some ⟨ps, 0, none⟩)) he99 rfl rfl (he99.want rfl rfl rfl rfl rfl) (rn_mv rfl (he99.op rfl) w95) ?_
      intro a100 he100
      clear he99 a99
      refine lV (.agg #[.slice none 0 0, .bool false]) he100 rfl rfl (he100.want rfl rfl rfl rfl rfl) (rn_bL rfl  w95) ?_
      intro a101 he101
      clear he100 a100
      obtain ⟨Fs_, hs_⟩ := hD.get (i := 0) rfl
      refine lC he101 rfl rfl Tryd.func15 (by kernel_rfl) rfl rfl (he101.want rfl rfl rfl rfl rfl) rfl (gets_b ps (⟨3, 2, 1, [(1, [lbK]), (0, [lcK, ldK])]⟩ : RS) 0 _ [] false 14 Fs_ w95 hs_ (by kernel_rfl) (SlC.nil _) hD.tab) ?_
      intro w102 a103 hn he103
      have hH102 := hH95.call hn
      replace hD := (hD).new hn
      clear he101 a101 hH95 hn
      clear hs_ Fs_
      refine lV (.bool false) he103 rfl rfl (he103.want rfl rfl rfl rfl rfl) (rn_not (b := true) rfl (he103.op rfl) w102) ?_
      intro a104 he104
      clear he103 a103
      refine lW (.bool false) he104 rfl (rn_pk0 rfl (he104.op rfl) (he104.op rfl) w102) ?_
      intro a105 he105
      clear he104 a104
      refine lW (.bool false) he105 rfl (rn_mv rfl (he105.op rfl) w102) ?_
      intro a106 he106
      clear he105 a105
      refine lV (.pointer (some ⟨ps, 0, none⟩)) he106 rfl rfl (he106.want rfl rfl rfl rfl rfl) (rn_mv rfl (he106.op rfl) w102) ?_
      intro a107 he107
      clear he106 a106
      refine lV (.agg #[.slice Ab 1 cb, .bool false]) he107 rfl rfl (he107.want rfl rfl rfl rfl rfl) (rn_ldp _ rfl (he107.op rfl) undL rfl infoL2 (hH102.at (i := 3) rfl) rfl) ?_
      intro a108 he108
      clear he107 a107
      obtain ⟨Fs_, hs_⟩ := hD.get (i := 0) rfl
      refine lC he108 rfl rfl Tryd.func15 (by kernel_rfl) rfl rfl (he108.want rfl rfl rfl rfl rfl) rfl (gets_b ps (⟨3, 2, 1, [(1, [lbK]), (0, [lcK, ldK])]⟩ : RS) 1 _ lbK.1 lbK.2 0 Fs_ w102 hs_ (by kernel_rfl) (cells_sl (hD.get (i := 3) rfl).choose_spec) hD.tab) ?_
      intro w109 a110 hn he110
      have hH109 := hH102.call hn
      replace hD := (hD).new hn
      clear he108 a108 hH102 hn
      clear hs_ Fs_
      refine lV (.bool false) he110 rfl rfl (he110.want rfl rfl rfl rfl rfl) (rn_not (b := true) rfl (he110.op rfl) w109) ?_
      intro a111 he111
      clear he110 a110
      refine lW (.bool false) he111 rfl (rn_pk0 rfl (he111.op rfl) (he111.op rfl) w109) ?_
      intro a112 he112
      clear he111 a111
      refine lW (.bool false) he112 rfl (rn_mv rfl (he112.op rfl) w109) ?_
      intro a113 he113
      clear he112 a112
      refine lV (.pointer (some ⟨ps, 0, none⟩)) he113 rfl rfl (he113.want rfl rfl rfl rfl rfl) (rn_mv rfl (he113.op rfl) w109) ?_
      intro a114 he114
      clear he113 a113
      refine lV (.agg #[.slice none 0 0, .bool false]) he114 rfl rfl (he114.want rfl rfl rfl rfl rfl) (rn_bL rfl  w109) ?_
      intro a115 he115
      clear he114 a114
      obtain ⟨Fs_, hs_⟩ := hD.get (i := 0) rfl
      refine lC he115 rfl rfl Tryd.func15 (by kernel_rfl) rfl rfl (he115.want rfl rfl rfl rfl rfl) rfl (gets_b ps (⟨3, 2, 1, [(1, [lbK]), (0, [lcK, ldK])]⟩ : RS) 4 _ [] false 3 Fs_ w109 hs_ (by kernel_rfl) (SlC.nil _) hD.tab) ?_
      intro w116 a117 hn he117
      have hH116 := hH109.call hn
      replace hD := (hD).new hn
      clear he115 a115 hH109 hn
      clear hs_ Fs_
      refine lV (.bool false) he117 rfl rfl (he117.want rfl rfl rfl rfl rfl) (rn_not (b := true) rfl (he117.op rfl) w116) ?_
      intro a118 he118
      clear he117 a117
      refine lW (.bool false) he118 rfl (rn_pk0 rfl (he118.op rfl) (he118.op rfl) w116) ?_
      intro a119 he119
      clear he118 a118
      refine lW (.bool false) he119 rfl (rn_mv rfl (he119.op rfl) w116) ?_
      intro a120 he120
      clear he119 a119
      refine lV (.pointer (some ⟨ps, 0, none⟩)) he120 rfl rfl (he120.want rfl rfl rfl rfl rfl) (rn_mv rfl (he120.op rfl) w116) ?_
      intro a121 he121
      clear he120 a120
      refine lV (.agg #[.slice Ab 1 cb, .bool false]) he121 rfl rfl (he121.want rfl rfl rfl rfl rfl) (rn_ldp _ rfl (he121.op rfl) undL rfl infoL2 (hH116.at (i := 3) rfl) rfl) ?_
      intro a122 he122
      clear he121 a121
      refine lV (.agg #[.slice Ac 1 cc, .bool false]) he122 rfl rfl (he122.want rfl rfl rfl rfl rfl) (rn_ldp _ rfl (he122.op rfl) undL rfl infoL2 (hH116.at (i := 2) rfl) rfl) ?_
      intro a123 he123
      clear he122 a122
      refine lV (.agg #[.slice Ad 1 cd, .bool false]) he123 rfl rfl (he123.want rfl rfl rfl rfl rfl) (rn_ldp _ rfl (he123.op rfl) undL rfl infoL2 (hH116.at (i := 1) rfl) rfl) ?_
      intro a124 he124
      clear he123 a123
      refine lNewP (fun p => .slice (some ⟨p, 0, none⟩) 3 3) he124 hH116 rfl rfl (he124.want rfl rfl rfl rfl rfl) (rn_bsL3 rfl (he124.op rfl) (he124.op rfl) (he124.op rfl) w116) ?_
      intro p125 w125 a126 hp hn hH125 he126
      replace hD := hD.cons hn hp (hH125.at (i := 0) rfl).lt
      clear he124 a124 hH116 hn hp
      obtain ⟨Fs_, hs_⟩ := hD.get (i := 0) rfl
      refine lC he126 rfl rfl Tryd.func16 (by kernel_rfl) rfl rfl (he126.want rfl rfl rfl rfl rfl) rfl (ranges_b ps (⟨3, 2, 1, [(1, [lbK]), (0, [lcK, ldK])]⟩ : RS) 1 4 _ [lbK, lcK, ldK] 0 Fs_ w125 hs_ (by decide +kernel) (by kernel_rfl) (by kernel_rfl) (lns_three (xa := ⟨Ab, 1, cb, false⟩) (xb := ⟨Ac, 1, cc, false⟩) (xc := ⟨Ad, 1, cd, false⟩) (hH125.at (i := 0) rfl) rfl rfl (cells_sl (hD.get (i := 3) rfl).choose_spec) (cells_sl (hD.get (i := 2) rfl).choose_spec) (cells_sl (hD.get (i := 1) rfl).choose_spec)) hD.tab) ?_
      intro w127 a128 hn he128
      have hH127 := hH125.call hn
      replace hD := (hD).new hn
      clear he126 a126 hH125 hn
      clear hs_ Fs_
      refine lV (.bool false) he128 rfl rfl (he128.want rfl rfl rfl rfl rfl) (rn_not (b := true) rfl (he128.op rfl) w127) ?_
      intro a129 he129
      clear he128 a128
      refine lW (.bool false) he129 rfl (rn_pk0 rfl (he129.op rfl) (he129.op rfl) w127) ?_
      intro a130 he130
      clear he129 a129
      refine wpList_nil (then_ok ?_)
      refine wp_cond_false (he130.op rfl) ?_
      refine wp_skip ?_
      refine then_ok ?_
      have he131 : Env 228 [(7, .int .i64 0), (6, .pointer (some ⟨ps, 0, none⟩)), (5, .pointer (some ⟨p20, 0, none⟩)), (4, .pointer (some ⟨p18, 0, none⟩)), (3, .pointer (some ⟨p16, 0, none⟩)), (2, .pointer (some ⟨p14, 0, none⟩)), (1, .pointer (some ⟨p12, 0, none⟩)), (0, .bool false)] a130 := he130.mem ⟨rfl, rfl, rfl, rfl, rfl, rfl, rfl, rfl, trivial⟩
      clear he130
      as_aux_lemma =>
        have hH132 := hH127.tail rfl
        clear hH127
        replace hD := hD.tail
        refine wp_seq ?_
        refine wp_seq (wp_region_lit ?_)
        refine lW (.pointer (some ⟨ps, 0, none⟩)) he131 rfl (rn_mv rfl (he131.op rfl) w127) ?_
        intro a133 he133
        clear he131 a130
        refine lW (.agg #[.slice Ae 1 ce, .bool false]) he133 rfl (rn_ldp _ rfl (he133.op rfl) undL rfl infoL2 (hH132.at (i := 0) rfl) rfl) ?_
        intro a134 he134
        clear he133 a133
        have hps : (pushR (⟨3, 2, 1, [(1, [lbK]), (0, [lcK, ldK])]⟩ : RS) leK).1 = (⟨3, 2, 2, [(0, [lcK, ldK]), (0, [leK])]⟩ : RS) := by rw [push_t oke]; kernel_rfl
        have hpv : (pushR (⟨3, 2, 1, [(1, [lbK]), (0, [lcK, ldK])]⟩ : RS) leK).2 = (4, 0) := by rw [push_t oke]; kernel_rfl
        replace hD := hD.pick 5 rfl
        replace hD := hD.pick 1 rfl
        obtain ⟨F_, G_, hsep, hrd_, hdj, hF, hstep⟩ := Dt.stepR (A := [ringD ps (⟨3, 2, 1, [(1, [lbK]), (0, [lcK, ldK])]⟩ : RS)]) (d := cellsD (.slice Ae 1 ce) [tc 101]) (D := [cellsD (.slice Ad 1 cd) [tc 100], cellsD (.slice Ac 1 cc) [tc 99], cellsD (.slice Ab 1 cb) [tc 98], cellsD (.slice Aa 1 ca) [tc 97]]) hD
        refine lCx he134 rfl rfl Tryd.func17 (by kernel_rfl) rfl rfl (wanted_plain rfl _) rfl ((hps ▸ pushes_b ps (⟨3, 2, 1, [(1, [lbK]), (0, [lcK, ldK])]⟩ : RS) _ leK.1 leK.2 4 0 F_ G_ w127 hsep.the (by decide +kernel) hpv (cells_f hrd_) hdj hF hD.tab)) ?_
        rintro _ w135 ⟨rfl, ht⟩
        obtain ⟨hD2, hHs⟩ := hstep _ _ ht
        have hH135 := hHs _ rfl hH132
        clear hHs hstep hsep hF hrd_ hdj
        replace hD := hD2
        clear hD2 ht
        refine ⟨_, rfl, ?_⟩
        intro a136 he136
        clear he134 a134 hH132
        clear hps hpv
        refine lW (.bool false) he136 rfl (rn_not (b := true) rfl (he136.op rfl) w135) ?_
        intro a137 he137
        clear he136 a136
        refine lW (.bool false) he137 rfl (rn_mv rfl (he137.op rfl) w135) ?_
        intro a138 he138
        clear he137 a137
        refine lV (.pointer (some ⟨ps, 0, none⟩)) he138 rfl rfl (he138.want rfl rfl rfl rfl rfl) (rn_mv rfl (he138.op rfl) w135) ?_
        intro a139 he139
        clear he138 a138
        obtain ⟨Fs_, hs_⟩ := hD.get (i := 0) rfl
        refine lC he139 rfl rfl Tryd.func21 (by kernel_rfl) rfl rfl (he139.want rfl rfl rfl rfl rfl) rfl (rPages_d (R := (⟨3, 2, 2, [(0, [lcK, ldK]), (0, [leK])]⟩ : RS)) hs_ hD.tab) ?_
        intro w140 a141 hn he141
        have hH140 := hH135.call hn
        replace hD := (hD).new hn
        clear he139 a139 hH135 hn
        clear hs_ Fs_
        refine lV (.bool false) he141 rfl rfl (he141.want rfl rfl rfl rfl rfl) (rn_neI rfl (he141.op rfl) (he141.op rfl) (by rfl) w140) ?_
        intro a142 he142
        clear he141 a141
        refine lW (.bool false) he142 rfl (rn_pk0 rfl (he142.op rfl) (he142.op rfl) w140) ?_
        intro a143 he143
        clear he142 a142
        refine lW (.bool false) he143 rfl (rn_mv rfl (he143.op rfl) w140) ?_
        intro a144 he144
        clear he143 a143
        refine lV (.pointer (some ⟨ps, 0, none⟩)) he144 rfl rfl (he144.want rfl rfl rfl rfl rfl) (rn_mv rfl (he144.op rfl) w140) ?_
        intro a145 he145
        clear he144 a144
        refine lV (.agg #[.slice Ae 1 ce, .bool false]) he145 rfl rfl (he145.want rfl rfl rfl rfl rfl) (rn_ldp _ rfl (he145.op rfl) undL rfl infoL2 (hH140.at (i := 0) rfl) rfl) ?_
        intro a146 he146
        clear he145 a145
        have hps : (popR (⟨3, 2, 2, [(0, [lcK, ldK]), (0, [leK])]⟩ : RS)).1 = (⟨3, 2, 2, [(0, [lcK, ldK])]⟩ : RS) := by kernel_rfl
        replace hD := hD.pick 1 rfl
        replace hD := hD.pick 1 rfl
        obtain ⟨F_, G_, hsep, hrd_, hdj, hF, hstep⟩ := Dt.stepR (A := [ringD ps (⟨3, 2, 2, [(0, [lcK, ldK]), (0, [leK])]⟩ : RS)]) (d := cellsD (.slice Ae 1 ce) [tc 101]) (D := [cellsD (.slice Ad 1 cd) [tc 100], cellsD (.slice Ac 1 cc) [tc 99], cellsD (.slice Ab 1 cb) [tc 98], cellsD (.slice Aa 1 ca) [tc 97]]) hD
        refine lCx he146 rfl rfl Tryd.func25 (by kernel_rfl) rfl rfl (he146.want rfl rfl rfl rfl rfl) rfl ((hps ▸ pops_b ps (⟨3, 2, 2, [(0, [lcK, ldK]), (0, [leK])]⟩ : RS) _ leK.1 leK.2 0 F_ G_ w140 hsep.the (by kernel_rfl) (cells_f hrd_) hdj hF hD.tab)) ?_
        rintro _ w147 ⟨rfl, ht⟩
        obtain ⟨hD2, hHs⟩ := hstep _ _ ht
        have hH147 := hHs _ rfl hH140
        clear hHs hstep hsep hF hrd_ hdj
        replace hD := hD2
        clear hD2 ht
        refine ⟨_, rfl, ?_⟩
        intro a148 he148
        clear he146 a146 hH140
        clear hps
        refine lV (.bool false) he148 rfl rfl (he148.want rfl rfl rfl rfl rfl) (rn_not (b := true) rfl (he148.op rfl) w147) ?_
        intro a149 he149
        clear he148 a148
        refine lW (.bool false) he149 rfl (rn_pk0 rfl (he149.op rfl) (he149.op rfl) w147) ?_
        intro a150 he150
        clear he149 a149
        refine lW (.bool false) he150 rfl (rn_mv rfl (he150.op rfl) w147) ?_
        intro a151 he151
        clear he150 a150
        refine lV (.pointer (some ⟨ps, 0, none⟩)) he151 rfl rfl (he151.want rfl rfl rfl rfl rfl) (rn_mv rfl (he151.op rfl) w147) ?_
        intro a152 he152
        clear he151 a151
        obtain ⟨Fs_, hs_⟩ := hD.get (i := 0) rfl
        refine lC he152 rfl rfl Tryd.func20 (by kernel_rfl) rfl rfl (he152.want rfl rfl rfl rfl rfl) rfl (rNext_d (R := (⟨3, 2, 2, [(0, [lcK, ldK])]⟩ : RS)) hs_ hD.tab) ?_
        intro w153 a154 hn he154
        have hH153 := hH147.call hn
        replace hD := (hD).new hn
        clear he152 a152 hH147 hn
        clear hs_ Fs_
        refine lV (.bool false) he154 rfl rfl (he154.want rfl rfl rfl rfl rfl) (rn_neI rfl (he154.op rfl) (he154.op rfl) (by rfl) w153) ?_
        intro a155 he155
        clear he154 a154
        refine lW (.bool false) he155 rfl (rn_pk0 rfl (he155.op rfl) (he155.op rfl) w153) ?_
        intro a156 he156
        clear he155 a155
        refine lW (.bool false) he156 rfl (rn_mv rfl (he156.op rfl) w153) ?_
        intro a157 he157
        clear he156 a156
        refine lV (.pointer (some ⟨ps, 0, none⟩)) he157 rfl rfl (he157.want rfl rfl rfl rfl rfl) (rn_mv rfl (he157.op rfl) w153) ?_
        intro a158 he158
        clear he157 a157
        refine lV (.agg #[.slice Aa 1 ca, .bool false]) he158 rfl rfl (he158.want rfl rfl rfl rfl rfl) (rn_ldp _ rfl (he158.op rfl) undL rfl infoL2 (hH153.at (i := 4) rfl) rfl) ?_
        intro a159 he159
        clear he158 a158
        have hps : (pushR (⟨3, 2, 2, [(0, [lcK, ldK])]⟩ : RS) laK).1 = (⟨3, 2, 2, [(0, [lcK, ldK]), (0, [laK])]⟩ : RS) := by rw [push_t oka]; kernel_rfl
        have hpv : (pushR (⟨3, 2, 2, [(0, [lcK, ldK])]⟩ : RS) laK).2 = (4, 0) := by rw [push_t oka]; kernel_rfl
        replace hD := hD.pick 5 rfl
        replace hD := hD.pick 1 rfl
        obtain ⟨F_, G_, hsep, hrd_, hdj, hF, hstep⟩ := Dt.stepR (A := [ringD ps (⟨3, 2, 2, [(0, [lcK, ldK])]⟩ : RS)]) (d := cellsD (.slice Aa 1 ca) [tc 97]) (D := [cellsD (.slice Ae 1 ce) [tc 101], cellsD (.slice Ad 1 cd) [tc 100], cellsD (.slice Ac 1 cc) [tc 99], cellsD (.slice Ab 1 cb) [tc 98]]) hD
        refine lCx he159 rfl rfl Tryd.func17 (by kernel_rfl) rfl rfl (he159.want rfl rfl rfl rfl rfl) rfl ((hps ▸ pushes_b ps (⟨3, 2, 2, [(0, [lcK, ldK])]⟩ : RS) _ laK.1 laK.2 4 0 F_ G_ w153 hsep.the (by decide +kernel) hpv (cells_f hrd_) hdj hF hD.tab)) ?_
        rintro _ w160 ⟨rfl, ht⟩
        obtain ⟨hD2, hHs⟩ := hstep _ _ ht
        have hH160 := hHs _ rfl hH153
        clear hHs hstep hsep hF hrd_ hdj
        replace hD := hD2
        clear hD2 ht
        refine ⟨_, rfl, ?_⟩
        intro a161 he161
        clear he159 a159 hH153
        clear hps hpv
        refine lV (.bool false) he161 rfl rfl (he161.want rfl rfl rfl rfl rfl) (rn_not (b := true) rfl (he161.op rfl) w160) ?_
        intro a162 he162
        clear he161 a161
        refine lW (.bool false) he162 rfl (rn_pk0 rfl (he162.op rfl) (he162.op rfl) w160) ?_
        intro a163 he163
        clear he162 a162
        refine lW (.bool false) he163 rfl (rn_mv rfl (he163.op rfl) w160) ?_
        intro a164 he164
        clear he163 a163
        refine lV (.pointer (some ⟨ps, 0, none⟩)) he164 rfl rfl (he164.want rfl rfl rfl rfl rfl) (rn_mv rfl (he164.op rfl) w160) ?_
        intro a165 he165
        clear he164 a164
        have hps : limitR (⟨3, 2, 2, [(0, [lcK, ldK]), (0, [laK])]⟩ : RS) 1 = ((⟨1, 2, 4, [(0, [laK])]⟩ : RS), 0) := by kernel_rfl
        obtain ⟨F_, hsep, hF, hstep⟩ := Dt.step (A := [ringD ps (⟨3, 2, 2, [(0, [lcK, ldK]), (0, [laK])]⟩ : RS)]) (D := [cellsD (.slice Aa 1 ca) [tc 97], cellsD (.slice Ae 1 ce) [tc 101], cellsD (.slice Ad 1 cd) [tc 100], cellsD (.slice Ac 1 cc) [tc 99], cellsD (.slice Ab 1 cb) [tc 98]]) hD
        refine lCx he165 rfl rfl Tryd.func27 (by kernel_rfl) rfl rfl (he165.want rfl rfl rfl rfl rfl) rfl ((hps ▸ rLimit ps (⟨3, 2, 2, [(0, [lcK, ldK]), (0, [laK])]⟩ : RS) (1) F_ w160 hsep.the hF hD.tab)) ?_
        rintro _ w166 ⟨rfl, ht⟩
        obtain ⟨hD2, hHs⟩ := hstep _ _ ht
        have hH166 := hHs _ rfl hH160
        clear hHs hstep hsep hF
        replace hD := hD2
        clear hD2 ht
        refine ⟨_, rfl, ?_⟩
        intro a167 he167
        clear he165 a165 hH160
        clear hps
        refine lV (.bool false) he167 rfl rfl (he167.want rfl rfl rfl rfl rfl) (rn_neE rfl (he167.op rfl) (he167.op rfl) (by rfl) w166) ?_
        intro a168 he168
        clear he167 a167
        refine lW (.bool false) he168 rfl (rn_pk0 rfl (he168.op rfl) (he168.op rfl) w166) ?_
        intro a169 he169
        clear he168 a168
        refine lW (.bool false) he169 rfl (rn_mv rfl (he169.op rfl) w166) ?_
        intro a170 he170
        clear he169 a169
        refine lV (.pointer (some ⟨ps, 0, none⟩)) he170 rfl rfl (he170.want rfl rfl rfl rfl rfl) (rn_mv rfl (he170.op rfl) w166) ?_
        intro a171 he171
        clear he170 a170
        obtain ⟨Fs_, hs_⟩ := hD.get (i := 0) rfl
        refine lC he171 rfl rfl Tryd.func19 (by kernel_rfl) rfl rfl (he171.want rfl rfl rfl rfl rfl) rfl (rFirst_d (R := (⟨1, 2, 4, [(0, [laK])]⟩ : RS)) hs_ hD.tab) ?_
        intro w172 a173 hn he173
        have hH172 := hH166.call hn
        replace hD := (hD).new hn
        clear he171 a171 hH166 hn
        clear hs_ Fs_
        refine lV (.bool false) he173 rfl rfl (he173.want rfl rfl rfl rfl rfl) (rn_neI rfl (he173.op rfl) (he173.op rfl) (by rfl) w172) ?_
        intro a174 he174
        clear he173 a173
        refine lW (.bool false) he174 rfl (rn_pk0 rfl (he174.op rfl) (he174.op rfl) w172) ?_
        intro a175 he175
        clear he174 a174
        refine lW (.bool false) he175 rfl (rn_mv rfl (he175.op rfl) w172) ?_
        intro a176 he176
        clear he175 a175
        refine lV (.pointer (some ⟨ps, 0, none⟩)) he176 rfl rfl (he176.want rfl rfl rfl rfl rfl) (rn_mv rfl (he176.op rfl) w172) ?_
        intro a177 he177
        clear he176 a176
        refine lV (.agg #[.slice Aa 1 ca, .bool false]) he177 rfl rfl (he177.want rfl rfl rfl rfl rfl) (rn_ldp _ rfl (he177.op rfl) undL rfl infoL2 (hH172.at (i := 4) rfl) rfl) ?_
        intro a178 he178
        clear he177 a177
        refine lNewP (fun p => .slice (some ⟨p, 0, none⟩) 1 1) he178 hH172 rfl rfl (he178.want rfl rfl rfl rfl rfl) (rn_bsL1 rfl (he178.op rfl) w172) ?_
        intro p179 w179 a180 hp hn hH179 he180
        replace hD := hD.cons hn hp (hH179.at (i := 0) rfl).lt
        clear he178 a178 hH172 hn hp
        obtain ⟨Fs_, hs_⟩ := hD.get (i := 0) rfl
        refine lC he180 rfl rfl Tryd.func16 (by kernel_rfl) rfl rfl (he180.want rfl rfl rfl rfl rfl) rfl (ranges_b ps (⟨1, 2, 4, [(0, [laK])]⟩ : RS) 4 5 _ [laK] 0 Fs_ w179 hs_ (by decide +kernel) (by kernel_rfl) (by kernel_rfl) (lns_one (xa := ⟨Aa, 1, ca, false⟩) (hH179.at (i := 0) rfl) rfl rfl (cells_sl (hD.get (i := 1) rfl).choose_spec)) hD.tab) ?_
        intro w181 a182 hn he182
        have hH181 := hH179.call hn
        replace hD := (hD).new hn
        clear he180 a180 hH179 hn
        clear hs_ Fs_
        refine lV (.bool false) he182 rfl rfl (he182.want rfl rfl rfl rfl rfl) (rn_not (b := true) rfl (he182.op rfl) w181) ?_
        intro a183 he183
        clear he182 a182
        refine lW (.bool false) he183 rfl (rn_pk0 rfl (he183.op rfl) (he183.op rfl) w181) ?_
        intro a184 he184
        clear he183 a183
        refine lW (.bool false) he184 rfl (rn_mv rfl (he184.op rfl) w181) ?_
        intro a185 he185
        clear he184 a184
        refine lV (.pointer (some ⟨ps, 0, none⟩)) he185 rfl rfl (he185.want rfl rfl rfl rfl rfl) (rn_mv rfl (he185.op rfl) w181) ?_
        intro a186 he186
        clear he185 a185
        obtain ⟨Fs_, hs_⟩ := hD.get (i := 0) rfl
        refine lC he186 rfl rfl Tryd.func16 (by kernel_rfl) rfl rfl (he186.want rfl rfl rfl rfl rfl) rfl (ranges_b ps (⟨1, 2, 4, [(0, [laK])]⟩ : RS) 0 1 _ [] 14 Fs_ w181 hs_ (by decide +kernel) (by kernel_rfl) (by kernel_rfl) (LnsF.nil _ _) hD.tab) ?_
        intro w187 a188 hn he188
        have hH187 := hH181.call hn
        replace hD := (hD).new hn
        clear he186 a186 hH181 hn
        clear hs_ Fs_
        refine lV (.bool false) he188 rfl rfl (he188.want rfl rfl rfl rfl rfl) (rn_not (b := true) rfl (he188.op rfl) w187) ?_
        intro a189 he189
        clear he188 a188
        refine lW (.bool false) he189 rfl (rn_pk0 rfl (he189.op rfl) (he189.op rfl) w187) ?_
        intro a190 he190
        clear he189 a189
        refine lW (.bool false) he190 rfl (rn_mv rfl (he190.op rfl) w187) ?_
        intro a191 he191
        clear he190 a190
        refine lV (.pointer (some ⟨ps, 0, none⟩)) he191 rfl rfl (he191.want rfl rfl rfl rfl rfl) (rn_mv rfl (he191.op rfl) w187) ?_
        intro a192 he192
        clear he191 a191
        obtain ⟨Fs_, hs_⟩ := hD.get (i := 0) rfl
        refine lC he192 rfl rfl Tryd.func16 (by kernel_rfl) rfl rfl (he192.want rfl rfl rfl rfl rfl) rfl (ranges_b ps (⟨1, 2, 4, [(0, [laK])]⟩ : RS) 3 2 _ [] 3 Fs_ w187 hs_ (by decide +kernel) (by kernel_rfl) (by kernel_rfl) (LnsF.nil _ _) hD.tab) ?_
        intro w193 a194 hn he194
        have hH193 := hH187.call hn
        replace hD := (hD).new hn
        clear he192 a192 hH187 hn
        clear hs_ Fs_
        refine lV (.bool false) he194 rfl rfl (he194.want rfl rfl rfl rfl rfl) (rn_not (b := true) rfl (he194.op rfl) w193) ?_
        intro a195 he195
        clear he194 a194
        refine lW (.bool false) he195 rfl (rn_pk0 rfl (he195.op rfl) (he195.op rfl) w193) ?_
        intro a196 he196
        clear he195 a195
        refine wpList_nil (then_ok ?_)
        refine wp_cond_false (he196.op rfl) ?_
        refine wp_skip ?_
        refine then_ok ?_
        have he197 : Env 228 [(7, .int .i64 0), (6, .pointer (some ⟨ps, 0, none⟩)), (5, .pointer (some ⟨p20, 0, none⟩)), (4, .pointer (some ⟨p18, 0, none⟩)), (3, .pointer (some ⟨p16, 0, none⟩)), (2, .pointer (some ⟨p14, 0, none⟩)), (1, .pointer (some ⟨p12, 0, none⟩)), (0, .bool false)] a196 := he196.mem ⟨rfl, rfl, rfl, rfl, rfl, rfl, rfl, rfl, trivial⟩
        clear he196
        as_aux_lemma =>
          have hH198 := hH193.tail rfl
          clear hH193
          replace hD := hD.tail
          refine wp_seq ?_
          refine wp_seq (wp_region_lit ?_)
          refine lW (.pointer (some ⟨ps, 0, none⟩)) he197 rfl (rn_mv rfl (he197.op rfl) w193) ?_
          intro a199 he199
          clear he197 a196
          refine lW (.agg #[.slice Ab 1 cb, .bool false]) he199 rfl (rn_ldp _ rfl (he199.op rfl) undL rfl infoL2 (hH198.at (i := 3) rfl) rfl) ?_
          intro a200 he200
          clear he199 a199
          have hown := cells_sl (hD.get (i := 5) rfl).choose_spec
          have hps : setR (⟨1, 2, 4, [(0, [laK])]⟩ : RS) 4 lbK = ((⟨1, 2, 4, [(0, [lbK])]⟩ : RS), 0) := by unfold setR; rw [if_pos okb]; kernel_rfl
          obtain ⟨F_, hsep, hF, hstep⟩ := Dt.step (A := [ringD ps (⟨1, 2, 4, [(0, [laK])]⟩ : RS)]) (D := [cellsD (.slice Aa 1 ca) [tc 97], cellsD (.slice Ae 1 ce) [tc 101], cellsD (.slice Ad 1 cd) [tc 100], cellsD (.slice Ac 1 cc) [tc 99], cellsD (.slice Ab 1 cb) [tc 98]]) hD
          refine lCx he200 rfl rfl Tryd.func26 (by kernel_rfl) rfl rfl (wanted_plain rfl _) rfl ((hps ▸ rSet ps (⟨1, 2, 4, [(0, [laK])]⟩ : RS) 4 _ lbK.1 lbK.2 F_ w193 hsep.the hown hF hD.tab)) ?_
          rintro _ w201 ⟨rfl, ht⟩
          obtain ⟨hD2, hHs⟩ := hstep _ _ ht
          have hH201 := hHs _ rfl hH198
          clear hHs hstep hsep hF
          replace hD := hD2
          clear hD2 ht
          refine ⟨_, rfl, ?_⟩
          intro a202 he202
          clear he200 a200 hH198
          clear hown hps
          refine lW (.bool false) he202 rfl (rn_neE rfl (he202.op rfl) (he202.op rfl) (by rfl) w201) ?_
          intro a203 he203
          clear he202 a202
          refine lW (.bool false) he203 rfl (rn_mv rfl (he203.op rfl) w201) ?_
          intro a204 he204
          clear he203 a203
          refine lV (.pointer (some ⟨ps, 0, none⟩)) he204 rfl rfl (he204.want rfl rfl rfl rfl rfl) (rn_mv rfl (he204.op rfl) w201) ?_
          intro a205 he205
          clear he204 a204
          refine lV (.agg #[.slice Ab 1 cb, .bool false]) he205 rfl rfl (he205.want rfl rfl rfl rfl rfl) (rn_ldp _ rfl (he205.op rfl) undL rfl infoL2 (hH201.at (i := 3) rfl) rfl) ?_
          intro a206 he206
          clear he205 a205
          obtain ⟨Fs_, hs_⟩ := hD.get (i := 0) rfl
          refine lC he206 rfl rfl Tryd.func15 (by kernel_rfl) rfl rfl (he206.want rfl rfl rfl rfl rfl) rfl (gets_b ps (⟨1, 2, 4, [(0, [lbK])]⟩ : RS) 4 _ lbK.1 lbK.2 0 Fs_ w201 hs_ (by kernel_rfl) (cells_sl (hD.get (i := 5) rfl).choose_spec) hD.tab) ?_
          intro w207 a208 hn he208
          have hH207 := hH201.call hn
          replace hD := (hD).new hn
          clear he206 a206 hH201 hn
          clear hs_ Fs_
          refine lV (.bool false) he208 rfl rfl (he208.want rfl rfl rfl rfl rfl) (rn_not (b := true) rfl (he208.op rfl) w207) ?_
          intro a209 he209
          clear he208 a208
          refine lW (.bool false) he209 rfl (rn_pk0 rfl (he209.op rfl) (he209.op rfl) w207) ?_
          intro a210 he210
          clear he209 a209
          refine wpList_nil (then_ok ?_)
          refine wp_cond_false (he210.op rfl) ?_
          refine wp_skip ?_
          refine then_ok ?_
          have he211 : Env 228 [(7, .int .i64 0), (6, .pointer (some ⟨ps, 0, none⟩)), (5, .pointer (some ⟨p20, 0, none⟩)), (4, .pointer (some ⟨p18, 0, none⟩)), (3, .pointer (some ⟨p16, 0, none⟩)), (2, .pointer (some ⟨p14, 0, none⟩)), (1, .pointer (some ⟨p12, 0, none⟩)), (0, .bool false)] a210 := he210.mem ⟨rfl, rfl, rfl, rfl, rfl, rfl, rfl, rfl, trivial⟩
          clear he210
          as_aux_lemma =>
            refine wp_seq (wp_region_lit ?_)
            refine lW (.pointer (some ⟨ps, 0, none⟩)) he211 rfl (rn_mv rfl (he211.op rfl) w207) ?_
            intro a212 he212
            clear he211 a210
            have hps : clearR (⟨1, 2, 4, [(0, [lbK])]⟩ : RS) = (⟨1, 2, 5, []⟩ : RS) := by kernel_rfl
            obtain ⟨F_, hsep, hF, hstep⟩ := Dt.step (A := [ringD ps (⟨1, 2, 4, [(0, [lbK])]⟩ : RS)]) (D := [cellsD (.slice Aa 1 ca) [tc 97], cellsD (.slice Ae 1 ce) [tc 101], cellsD (.slice Ad 1 cd) [tc 100], cellsD (.slice Ac 1 cc) [tc 99], cellsD (.slice Ab 1 cb) [tc 98]]) hD
            refine lCx he212 rfl rfl Tryd.func24 (by kernel_rfl) rfl rfl (wanted_plain rfl _) rfl ((hps ▸ rClear ps (⟨1, 2, 4, [(0, [lbK])]⟩ : RS) F_ w207 hsep.the hF hD.tab)) ?_
            rintro _ w213 ⟨rfl, ht⟩
            obtain ⟨hD2, hHs⟩ := hstep _ _ ht
            have hH213 := hHs _ rfl hH207
            clear hHs hstep hsep hF
            replace hD := hD2
            clear hD2 ht
            refine ⟨_, rfl, ?_⟩
            intro a214 he214
            clear he212 a212 hH207
            clear hps
            refine wpList_nil (then_ok ?_)
            refine wp_seq ?_
            refine wp_seq (wp_region_lit ?_)
            refine lW (.pointer (some ⟨ps, 0, none⟩)) he214 rfl (rn_mv rfl (he214.op rfl) w213) ?_
            intro a215 he215
            clear he214 a214
            obtain ⟨Fs_, hs_⟩ := hD.get (i := 0) rfl
            refine lC he215 rfl rfl Tryd.func28 (by kernel_rfl) rfl rfl (wanted_plain rfl _) rfl (rLen_d (R := (⟨1, 2, 5, []⟩ : RS)) hs_ hD.tab) ?_
            intro w216 a217 hn he217
            have hH216 := hH213.call hn
            replace hD := (hD).new hn
            clear he215 a215 hH213 hn
            clear hs_ Fs_
            refine lW (.bool false) he217 rfl (rn_neI rfl (he217.op rfl) (he217.op rfl) (by rfl) w216) ?_
            intro a218 he218
            clear he217 a217
            refine lW (.bool false) he218 rfl (rn_mv rfl (he218.op rfl) w216) ?_
            intro a219 he219
            clear he218 a218
            refine lV (.pointer (some ⟨ps, 0, none⟩)) he219 rfl rfl (he219.want rfl rfl rfl rfl rfl) (rn_mv rfl (he219.op rfl) w216) ?_
            intro a220 he220
            clear he219 a219
            obtain ⟨Fs_, hs_⟩ := hD.get (i := 0) rfl
            refine lC he220 rfl rfl Tryd.func19 (by kernel_rfl) rfl rfl (he220.want rfl rfl rfl rfl rfl) rfl (rFirst_d (R := (⟨1, 2, 5, []⟩ : RS)) hs_ hD.tab) ?_
            intro w221 a222 hn he222
            have hH221 := hH216.call hn
            replace hD := (hD).new hn
            clear he220 a220 hH216 hn
            clear hs_ Fs_
            refine lV (.bool false) he222 rfl rfl (he222.want rfl rfl rfl rfl rfl) (rn_neI rfl (he222.op rfl) (he222.op rfl) (by rfl) w221) ?_
            intro a223 he223
            clear he222 a222
            refine lW (.bool false) he223 rfl (rn_pk0 rfl (he223.op rfl) (he223.op rfl) w221) ?_
            intro a224 he224
            clear he223 a223
            refine lW (.bool false) he224 rfl (rn_mv rfl (he224.op rfl) w221) ?_
            intro a225 he225
            clear he224 a224
            refine lV (.pointer (some ⟨ps, 0, none⟩)) he225 rfl rfl (he225.want rfl rfl rfl rfl rfl) (rn_mv rfl (he225.op rfl) w221) ?_
            intro a226 he226
            clear he225 a225
            obtain ⟨Fs_, hs_⟩ := hD.get (i := 0) rfl
            refine lC he226 rfl rfl Tryd.func21 (by kernel_rfl) rfl rfl (he226.want rfl rfl rfl rfl rfl) rfl (rPages_d (R := (⟨1, 2, 5, []⟩ : RS)) hs_ hD.tab) ?_
            intro w227 a228 hn he228
            have hH227 := hH221.call hn
            replace hD := (hD).new hn
            clear he226 a226 hH221 hn
            clear hs_ Fs_
            refine lV (.bool false) he228 rfl rfl (he228.want rfl rfl rfl rfl rfl) (rn_neI rfl (he228.op rfl) (he228.op rfl) (by rfl) w227) ?_
            intro a229 he229
            clear he228 a228
            refine lW (.bool false) he229 rfl (rn_pk0 rfl (he229.op rfl) (he229.op rfl) w227) ?_
            intro a230 he230
            clear he229 a229
            refine lW (.bool false) he230 rfl (rn_mv rfl (he230.op rfl) w227) ?_
            intro a231 he231
            clear he230 a230
            refine lV (.pointer (some ⟨ps, 0, none⟩)) he231 rfl rfl (he231.want rfl rfl rfl rfl rfl) (rn_mv rfl (he231.op rfl) w227) ?_
            intro a232 he232
            clear he231 a231
            refine lV (.agg #[.slice none 0 0, .bool false]) he232 rfl rfl (he232.want rfl rfl rfl rfl rfl) (rn_bL rfl  w227) ?_
            intro a233 he233
            clear he232 a232
            have hps : (popR (⟨1, 2, 5, []⟩ : RS)).1 = (⟨1, 2, 5, []⟩ : RS) := by kernel_rfl
            obtain ⟨F_, hsep, hF, hstep⟩ := Dt.step (A := [ringD ps (⟨1, 2, 5, []⟩ : RS)]) (D := [cellsD (.slice Aa 1 ca) [tc 97], cellsD (.slice Ae 1 ce) [tc 101], cellsD (.slice Ad 1 cd) [tc 100], cellsD (.slice Ac 1 cc) [tc 99], cellsD (.slice Ab 1 cb) [tc 98]]) hD
            refine lCx he233 rfl rfl Tryd.func25 (by kernel_rfl) rfl rfl (he233.want rfl rfl rfl rfl rfl) rfl ((hps ▸ pops_b ps (⟨1, 2, 5, []⟩ : RS) _ [] false 9 F_ (fun _ => False) w227 hsep.the (by kernel_rfl) ⟨none, 0, 0, rfl, Nat.le_refl _, RdC.nil _ _ _, fun h => absurd h (by simp)⟩ (fun _ h => h.elim) hF hD.tab)) ?_
            rintro _ w234 ⟨rfl, ht⟩
            obtain ⟨hD2, hHs⟩ := hstep _ _ ht
            have hH234 := hHs _ rfl hH227
            clear hHs hstep hsep hF
            replace hD := hD2
            clear hD2 ht
            refine ⟨_, rfl, ?_⟩
            intro a235 he235
            clear he233 a233 hH227
            clear hps
            refine lV (.bool false) he235 rfl rfl (he235.want rfl rfl rfl rfl rfl) (rn_not (b := true) rfl (he235.op rfl) w234) ?_
            intro a236 he236
            clear he235 a235
            refine lW (.bool false) he236 rfl (rn_pk0 rfl (he236.op rfl) (he236.op rfl) w234) ?_
            intro a237 he237
            clear he236 a236
            refine lW (.bool false) he237 rfl (rn_mv rfl (he237.op rfl) w234) ?_
            intro a238 he238
            clear he237 a237
            refine lV (.pointer (some ⟨ps, 0, none⟩)) he238 rfl rfl (he238.want rfl rfl rfl rfl rfl) (rn_mv rfl (he238.op rfl) w234) ?_
            intro a239 he239
            clear he238 a238
            refine lV (.agg #[.slice Ac 1 cc, .bool false]) he239 rfl rfl (he239.want rfl rfl rfl rfl rfl) (rn_ldp _ rfl (he239.op rfl) undL rfl infoL2 (hH234.at (i := 2) rfl) rfl) ?_
            intro a240 he240
            clear he239 a239
            have hps : (pushR (⟨1, 2, 5, []⟩ : RS) lcK).1 = (⟨1, 2, 5, [(0, [lcK])]⟩ : RS) := by rw [push_t okc]; kernel_rfl
            have hpv : (pushR (⟨1, 2, 5, []⟩ : RS) lcK).2 = (5, 0) := by rw [push_t okc]; kernel_rfl
            replace hD := hD.pick 4 rfl
            replace hD := hD.pick 1 rfl
            obtain ⟨F_, G_, hsep, hrd_, hdj, hF, hstep⟩ := Dt.stepR (A := [ringD ps (⟨1, 2, 5, []⟩ : RS)]) (d := cellsD (.slice Ac 1 cc) [tc 99]) (D := [cellsD (.slice Aa 1 ca) [tc 97], cellsD (.slice Ae 1 ce) [tc 101], cellsD (.slice Ad 1 cd) [tc 100], cellsD (.slice Ab 1 cb) [tc 98]]) hD
            refine lCx he240 rfl rfl Tryd.func17 (by kernel_rfl) rfl rfl (he240.want rfl rfl rfl rfl rfl) rfl ((hps ▸ pushes_b ps (⟨1, 2, 5, []⟩ : RS) _ lcK.1 lcK.2 5 0 F_ G_ w234 hsep.the (by decide +kernel) hpv (cells_f hrd_) hdj hF hD.tab)) ?_
            rintro _ w241 ⟨rfl, ht⟩
            obtain ⟨hD2, hHs⟩ := hstep _ _ ht
            have hH241 := hHs _ rfl hH234
            clear hHs hstep hsep hF hrd_ hdj
            replace hD := hD2
            clear hD2 ht
            refine ⟨_, rfl, ?_⟩
            intro a242 he242
            clear he240 a240 hH234
            clear hps hpv
            refine lV (.bool false) he242 rfl rfl (he242.want rfl rfl rfl rfl rfl) (rn_not (b := true) rfl (he242.op rfl) w241) ?_
            intro a243 he243
            clear he242 a242
            refine lW (.bool false) he243 rfl (rn_pk0 rfl (he243.op rfl) (he243.op rfl) w241) ?_
            intro a244 he244
            clear he243 a243
            refine lW (.bool false) he244 rfl (rn_mv rfl (he244.op rfl) w241) ?_
            intro a245 he245
            clear he244 a244
            refine lV (.pointer (some ⟨ps, 0, none⟩)) he245 rfl rfl (he245.want rfl rfl rfl rfl rfl) (rn_mv rfl (he245.op rfl) w241) ?_
            intro a246 he246
            clear he245 a245
            have hps : limitR (⟨1, 2, 5, [(0, [lcK])]⟩ : RS) (-1) = ((⟨1, 2, 5, [(0, [lcK])]⟩ : RS), 2) := by kernel_rfl
            obtain ⟨F_, hsep, hF, hstep⟩ := Dt.step (A := [ringD ps (⟨1, 2, 5, [(0, [lcK])]⟩ : RS)]) (D := [cellsD (.slice Ac 1 cc) [tc 99], cellsD (.slice Aa 1 ca) [tc 97], cellsD (.slice Ae 1 ce) [tc 101], cellsD (.slice Ad 1 cd) [tc 100], cellsD (.slice Ab 1 cb) [tc 98]]) hD
            refine lCx he246 rfl rfl Tryd.func27 (by kernel_rfl) rfl rfl (he246.want rfl rfl rfl rfl rfl) rfl ((hps ▸ rLimit ps (⟨1, 2, 5, [(0, [lcK])]⟩ : RS) (-1) F_ w241 hsep.the hF hD.tab)) ?_
            rintro _ w247 ⟨rfl, ht⟩
            obtain ⟨hD2, hHs⟩ := hstep _ _ ht
            have hH247 := hHs _ rfl hH241
            clear hHs hstep hsep hF
            replace hD := hD2
            clear hD2 ht
            refine ⟨_, rfl, ?_⟩
            intro a248 he248
            clear he246 a246 hH241
            clear hps
            refine lV (.bool false) he248 rfl rfl (he248.want rfl rfl rfl rfl rfl) (rn_neE rfl (he248.op rfl) (he248.op rfl) (by rfl) w247) ?_
            intro a249 he249
            clear he248 a248
            refine lW (.bool false) he249 rfl (rn_pk0 rfl (he249.op rfl) (he249.op rfl) w247) ?_
            intro a250 he250
            clear he249 a249
            refine lW (.bool false) he250 rfl (rn_mv rfl (he250.op rfl) w247) ?_
            intro a251 he251
            clear he250 a250
            refine lC he251 rfl rfl Tryd.func7 (by kernel_rfl) rfl rfl (he251.want rfl rfl rfl rfl rfl) rfl (none_b (-1) 2 (by omega) w247) ?_
            intro w252 a253 hn he253
            have hH252 := hH247.call hn
            replace hD := (hD).new hn
            clear he251 a251 hH247 hn
            refine lV (.bool false) he253 rfl rfl (he253.want rfl rfl rfl rfl rfl) (rn_not (b := true) rfl (he253.op rfl) w252) ?_
            intro a254 he254
            clear he253 a253
            refine lW (.bool false) he254 rfl (rn_pk0 rfl (he254.op rfl) (he254.op rfl) w252) ?_
            intro a255 he255
            clear he254 a254
            refine lW (.bool false) he255 rfl (rn_mv rfl (he255.op rfl) w252) ?_
            intro a256 he256
            clear he255 a255
            refine lC he256 rfl rfl Tryd.func7 (by kernel_rfl) rfl rfl (he256.want rfl rfl rfl rfl rfl) rfl (none_b (0) 0 (by omega) w252) ?_
            intro w257 a258 hn he258
            have hH257 := hH252.call hn
            replace hD := (hD).new hn
            clear he256 a256 hH252 hn
            refine lV (.bool false) he258 rfl rfl (he258.want rfl rfl rfl rfl rfl) (rn_not (b := true) rfl (he258.op rfl) w257) ?_
            intro a259 he259
            clear he258 a258
            refine lW (.bool false) he259 rfl (rn_pk0 rfl (he259.op rfl) (he259.op rfl) w257) ?_
            intro a260 he260
            clear he259 a259
            refine wpList_nil (then_ok ?_)
            refine wp_cond_false (he260.op rfl) ?_
            refine wp_skip ?_
            refine then_ok ?_
            have he261 : Env 228 [(7, .int .i64 0), (6, .pointer (some ⟨ps, 0, none⟩)), (5, .pointer (some ⟨p20, 0, none⟩)), (4, .pointer (some ⟨p18, 0, none⟩)), (3, .pointer (some ⟨p16, 0, none⟩)), (2, .pointer (some ⟨p14, 0, none⟩)), (1, .pointer (some ⟨p12, 0, none⟩)), (0, .bool false)] a260 := he260.mem ⟨rfl, rfl, rfl, rfl, rfl, rfl, rfl, rfl, trivial⟩
            clear he260
            as_aux_lemma =>
              refine wp_seq (wp_region_lit ?_)
              refine lCx he261 rfl rfl Tryd.func9 (by kernel_rfl) rfl rfl (wanted_plain rfl _) rfl (rNew_ok 0 4 (by decide) (by decide) (by decide) w257 hD.tab) ?_
              rintro _ w262 ⟨pn, rfl, ht⟩
              have hD2 := hD.made ht
              have hH262 := hH257.call ht.new
              replace hD := hD2
              clear hD2 ht
              refine ⟨_, rfl, ?_⟩
              intro a263 he263
              clear he261 a260 hH257
              refine lW (.tuple #[.pointer (some ⟨pn, 0, none⟩), .int .i64 0]) he263 rfl (rn_mv rfl (he263.op rfl) w262) ?_
              intro a264 he264
              clear he263 a263
              refine lW (.pointer (some ⟨pn, 0, none⟩)) he264 rfl (rn_ext rfl (he264.op rfl) rfl w262) ?_
              intro a265 he265
              clear he264 a264
              refine lW (.int .i64 0) he265 rfl (rn_ext rfl (he265.op rfl) rfl w262) ?_
              intro a266 he266
              clear he265 a265
              refine lW (.pointer (some ⟨pn, 0, none⟩)) he266 rfl (rn_asg rfl (he266.op rfl) w262) ?_
              intro a267 he267
              clear he266 a266
              refine lW (.int .i64 0) he267 rfl (rn_asg rfl (he267.op rfl) w262) ?_
              intro a268 he268
              clear he267 a267
              refine wpList_nil (then_ok ?_)
              have he269 : Env 228 [(7, .int .i64 0), (8, .pointer (some ⟨pn, 0, none⟩)), (5, .pointer (some ⟨p20, 0, none⟩)), (4, .pointer (some ⟨p18, 0, none⟩)), (3, .pointer (some ⟨p16, 0, none⟩)), (2, .pointer (some ⟨p14, 0, none⟩)), (1, .pointer (some ⟨p12, 0, none⟩)), (0, .bool false)] a268 := he268.mem ⟨rfl, rfl, rfl, rfl, rfl, rfl, rfl, rfl, trivial⟩
              clear he268
              as_aux_lemma =>
                refine wp_seq (wp_region_lit ?_)
                refine lW (.pointer (some ⟨pn, 0, none⟩)) he269 rfl (rn_mv rfl (he269.op rfl) w262) ?_
                intro a270 he270
                clear he269 a268
                refine lW (.bool true) he270 rfl (rn_nePr1 rfl (he270.op rfl) (fun _ => rfl) w262) ?_
                intro a271 he271
                clear he270 a270
                refine lW (.bool true) he271 rfl (rn_mv rfl (he271.op rfl) w262) ?_
                intro a272 he272
                clear he271 a271
                refine lV (.int .i64 0) he272 rfl rfl (he272.want rfl rfl rfl rfl rfl) (rn_mv rfl (he272.op rfl) w262) ?_
                intro a273 he273
                clear he272 a272
                refine lV (.bool true) he273 rfl rfl (he273.want rfl rfl rfl rfl rfl) (rn_eqE rfl (he273.op rfl) (he273.op rfl) (by rfl) w262) ?_
                intro a274 he274
                clear he273 a273
                refine lW (.bool true) he274 rfl (rn_pk rfl (he274.op rfl) (he274.op rfl) w262) ?_
                intro a275 he275
                clear he274 a274
                refine lW (.bool true) he275 rfl (rn_mv rfl (he275.op rfl) w262) ?_
                intro a276 he276
                clear he275 a275
                refine lV (.pointer (some ⟨pn, 0, none⟩)) he276 rfl rfl (he276.want rfl rfl rfl rfl rfl) (rn_mv rfl (he276.op rfl) w262) ?_
                intro a277 he277
                clear he276 a276
                refine lV (.agg #[.slice Aa 1 ca, .bool false]) he277 rfl rfl (he277.want rfl rfl rfl rfl rfl) (rn_ldp _ rfl (he277.op rfl) undL rfl infoL2 (hH262.at (i := 4) rfl) rfl) ?_
                intro a278 he278
                clear he277 a277
                have hps : (pushR (⟨0, 4, 0, []⟩ : RS) laK).1 = (⟨0, 4, 1, []⟩ : RS) := by rw [push_t oka]; kernel_rfl
                have hpv : (pushR (⟨0, 4, 0, []⟩ : RS) laK).2 = (0, 0) := by rw [push_t oka]; kernel_rfl
                replace hD := hD.pick 3 rfl
                replace hD := hD.pick 1 rfl
                obtain ⟨F_, G_, hsep, hrd_, hdj, hF, hstep⟩ := Dt.stepR (A := [ringD pn (⟨0, 4, 0, []⟩ : RS)]) (d := cellsD (.slice Aa 1 ca) [tc 97]) (D := [ringD ps (⟨1, 2, 5, [(0, [lcK])]⟩ : RS), cellsD (.slice Ac 1 cc) [tc 99], cellsD (.slice Ae 1 ce) [tc 101], cellsD (.slice Ad 1 cd) [tc 100], cellsD (.slice Ab 1 cb) [tc 98]]) hD
                refine lCx he278 rfl rfl Tryd.func17 (by kernel_rfl) rfl rfl (he278.want rfl rfl rfl rfl rfl) rfl ((hps ▸ pushes_b pn (⟨0, 4, 0, []⟩ : RS) _ laK.1 laK.2 0 0 F_ G_ w262 hsep.the (by decide +kernel) hpv (cells_f hrd_) hdj hF hD.tab)) ?_
                rintro _ w279 ⟨rfl, ht⟩
                obtain ⟨hD2, hHs⟩ := hstep _ _ ht
                have hH279 := hHs _ rfl hH262
                clear hHs hstep hsep hF hrd_ hdj
                replace hD := hD2
                clear hD2 ht
                refine ⟨_, rfl, ?_⟩
                intro a280 he280
                clear he278 a278 hH262
                clear hps hpv
                refine lW (.bool true) he280 rfl (rn_pk rfl (he280.op rfl) (he280.op rfl) w279) ?_
                intro a281 he281
                clear he280 a280
                refine lW (.bool true) he281 rfl (rn_mv rfl (he281.op rfl) w279) ?_
                intro a282 he282
                clear he281 a281
                refine lV (.pointer (some ⟨pn, 0, none⟩)) he282 rfl rfl (he282.want rfl rfl rfl rfl rfl) (rn_mv rfl (he282.op rfl) w279) ?_
                intro a283 he283
                clear he282 a282
                obtain ⟨Fs_, hs_⟩ := hD.get (i := 0) rfl
                refine lC he283 rfl rfl Tryd.func28 (by kernel_rfl) rfl rfl (he283.want rfl rfl rfl rfl rfl) rfl (rLen_d (R := (⟨0, 4, 1, []⟩ : RS)) hs_ hD.tab) ?_
                intro w284 a285 hn he285
                have hH284 := hH279.call hn
                replace hD := (hD).new hn
                clear he283 a283 hH279 hn
                clear hs_ Fs_
                refine lV (.bool true) he285 rfl rfl (he285.want rfl rfl rfl rfl rfl) (rn_eqI rfl (he285.op rfl) (he285.op rfl) (by rfl) w284) ?_
                intro a286 he286
                clear he285 a285
                refine lW (.bool true) he286 rfl (rn_pk rfl (he286.op rfl) (he286.op rfl) w284) ?_
                intro a287 he287
                clear he286 a286
                refine lW (.bool true) he287 rfl (rn_mv rfl (he287.op rfl) w284) ?_
                intro a288 he288
                clear he287 a287
                refine lV (.pointer (some ⟨pn, 0, none⟩)) he288 rfl rfl (he288.want rfl rfl rfl rfl rfl) (rn_mv rfl (he288.op rfl) w284) ?_
                intro a289 he289
                clear he288 a288
                obtain ⟨Fs_, hs_⟩ := hD.get (i := 0) rfl
                refine lC he289 rfl rfl Tryd.func20 (by kernel_rfl) rfl rfl (he289.want rfl rfl rfl rfl rfl) rfl (rNext_d (R := (⟨0, 4, 1, []⟩ : RS)) hs_ hD.tab) ?_
                intro w290 a291 hn he291
                have hH290 := hH284.call hn
                replace hD := (hD).new hn
                clear he289 a289 hH284 hn
                clear hs_ Fs_
                refine lV (.bool true) he291 rfl rfl (he291.want rfl rfl rfl rfl rfl) (rn_eqI rfl (he291.op rfl) (he291.op rfl) (by rfl) w290) ?_
                intro a292 he292
                clear he291 a291
                refine lW (.bool true) he292 rfl (rn_pk rfl (he292.op rfl) (he292.op rfl) w290) ?_
                intro a293 he293
                clear he292 a292
                refine lW (.bool true) he293 rfl (rn_mv rfl (he293.op rfl) w290) ?_
                intro a294 he294
                clear he293 a293
                refine lV (.pointer (some ⟨pn, 0, none⟩)) he294 rfl rfl (he294.want rfl rfl rfl rfl rfl) (rn_mv rfl (he294.op rfl) w290) ?_
                intro a295 he295
                clear he294 a294
                obtain ⟨Fs_, hs_⟩ := hD.get (i := 0) rfl
                refine lC he295 rfl rfl Tryd.func21 (by kernel_rfl) rfl rfl (he295.want rfl rfl rfl rfl rfl) rfl (rPages_d (R := (⟨0, 4, 1, []⟩ : RS)) hs_ hD.tab) ?_
                intro w296 a297 hn he297
                have hH296 := hH290.call hn
                replace hD := (hD).new hn
                clear he295 a295 hH290 hn
                clear hs_ Fs_
                refine lV (.bool true) he297 rfl rfl (he297.want rfl rfl rfl rfl rfl) (rn_eqI rfl (he297.op rfl) (he297.op rfl) (by rfl) w296) ?_
                intro a298 he298
                clear he297 a297
                refine lW (.bool true) he298 rfl (rn_pk rfl (he298.op rfl) (he298.op rfl) w296) ?_
                intro a299 he299
                clear he298 a298
                refine lW (.bool true) he299 rfl (rn_asg rfl (he299.op rfl) w296) ?_
                intro a300 he300
                clear he299 a299
                refine wpList_nil (then_ok ?_)
                refine wp_ret ?_
                try simp only [Exit.then, Exit.inBlock]
                exact ret_env rfl he300 rfl ⟨rfl, hD.fr⟩
end Go.Proofs.YtlpjhaghphmbeaaDoor
