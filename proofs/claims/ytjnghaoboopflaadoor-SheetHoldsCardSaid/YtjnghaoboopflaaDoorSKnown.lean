/-
  The examples of the chapter.
-/
import Derived.Test.YtjnghaoboopflaaDoorSDoes
namespace Go.Proofs.YtjnghaoboopflaaDoor
open Go.RowKit

theorem okx : okL [tc 120] = true := by decide +kernel
theorem oky : okL [tc 121] = true := by decide +kernel
theorem okz : okL [tc 122] = true := by decide +kernel
theorem ok0 : okL [zeroCe] = false := by decide +kernel
set_option linter.unusedSimpArgs false in
set_option maxRecDepth 100000 in
set_option maxHeartbeats 1600000 in
theorem known_any (w : World) (hT : Tab w) : Calls Tryd.prog 8 #[] w fun e w' => e = .returned (.bool true) ∧ New w w' := by
  refine calls_args (vl := []) 156 Tryd.func8 rfl Tryd.ntmps8 (by kernel_rfl) (fun a he => ?_)
  have he0 : Env 156 [] a := he
  clear he
  have hH := Hp.start w
  have hD := Dt.start hT
  refine wp_seq ?_
  refine wp_region_lit ?_
  refine lV (Value.bool false) he0 rfl rfl (wanted_plain rfl _) (rn_asg rfl (he0.op rfl) w) ?_
  intro a1 he1
  clear he0 a
  refine wpList_nil ?_
  refine then_ok ?_
  refine wp_seq ?_
  refine wp_region_lit ?_
  refine lCx he1 rfl rfl Tryd.func14 (by kernel_rfl) rfl rfl (wanted_plain rfl _) rfl (text_b 120 w) ?_
  rintro _ w2 ⟨Ax, cx, rfl, ht⟩
  have hD2 := hD.made ht
  have hH2 := hH.call ht.new
  clear hD
  have hD := hD2
  clear hD2 ht
  refine ⟨_, rfl, ?_⟩
  intro a3 he3
  clear he1 a1 hH
  refine lCx he3 rfl rfl Tryd.func14 (by kernel_rfl) rfl rfl (wanted_plain rfl _) rfl (text_b 121 w2) ?_
  rintro _ w4 ⟨Ay, cy, rfl, ht⟩
  have hD2 := hD.made ht
  have hH4 := hH2.call ht.new
  clear hD
  have hD := hD2
  clear hD2 ht
  refine ⟨_, rfl, ?_⟩
  intro a5 he5
  clear he3 a3 hH2
  refine lCx he5 rfl rfl Tryd.func14 (by kernel_rfl) rfl rfl (wanted_plain rfl _) rfl (text_b 122 w4) ?_
  rintro _ w6 ⟨Az, cz, rfl, ht⟩
  have hD2 := hD.made ht
  have hH6 := hH4.call ht.new
  clear hD
  have hD := hD2
  clear hD2 ht
  refine ⟨_, rfl, ?_⟩
  intro a7 he7
  clear he5 a5 hH4
  refine lNewP (fun p => .pointer (some ⟨p, 0, none⟩)) he7 hH6 rfl rfl (wanted_plain rfl _) (rn_allocL rfl w6) ?_
  intro p8 w8 a9 hp hn hH8 he9
  replace hD := hD.cons hn hp (hH8.at (i := 0) rfl).lt
  clear he7 a7 hH6 hn hp
  refine lNewP (fun p => .pointer (some ⟨p, 0, none⟩)) he9 hH8 rfl rfl (wanted_plain rfl _) (rn_allocL rfl w8) ?_
  intro p10 w10 a11 hp hn hH10 he11
  replace hD := hD.cons hn hp (hH10.at (i := 0) rfl).lt
  clear he9 a9 hH8 hn hp
  refine lNewP (fun p => .pointer (some ⟨p, 0, none⟩)) he11 hH10 rfl rfl (wanted_plain rfl _) (rn_allocL rfl w10) ?_
  intro p12 w12 a13 hp hn hH12 he13
  replace hD := hD.cons hn hp (hH12.at (i := 0) rfl).lt
  clear he11 a11 hH10 hn hp
  refine lSetF 2 #[Value.slice Ax 1 cx, Value.bool false] (cs := #[Value.slice Ax 1 cx, Value.bool false]) he13 hH12 rfl (wanted_plain rfl _) rfl rfl rfl rfl rfl (by kernel_rfl) (by kernel_rfl) (by kernel_rfl) rfl ?_
  intro w14 a15 hH14 hf he15
  replace hD := hD.setb (i := 2) rfl rfl hf
  replace hH14 : Hp w [⟨p12, 35, #[Value.slice none 0 0, Value.bool false]⟩, ⟨p10, 35, #[Value.slice none 0 0, Value.bool false]⟩, ⟨p8, 35, #[Value.slice Ax 1 cx, Value.bool false]⟩] w14 := hH14
  clear hf
  clear he13 a13 hH12
  refine lSetF 1 #[Value.slice Ay 1 cy, Value.bool false] (cs := #[Value.slice Ay 1 cy, Value.bool false]) he15 hH14 rfl (wanted_plain rfl _) rfl rfl rfl rfl rfl (by kernel_rfl) (by kernel_rfl) (by kernel_rfl) rfl ?_
  intro w16 a17 hH16 hf he17
  replace hD := hD.setb (i := 1) rfl rfl hf
  replace hH16 : Hp w [⟨p12, 35, #[Value.slice none 0 0, Value.bool false]⟩, ⟨p10, 35, #[Value.slice Ay 1 cy, Value.bool false]⟩, ⟨p8, 35, #[Value.slice Ax 1 cx, Value.bool false]⟩] w16 := hH16
  clear hf
  clear he15 a15 hH14
  refine lSetF 0 #[Value.slice Az 1 cz, Value.bool false] (cs := #[Value.slice Az 1 cz, Value.bool false]) he17 hH16 rfl (wanted_plain rfl _) rfl rfl rfl rfl rfl (by kernel_rfl) (by kernel_rfl) (by kernel_rfl) rfl ?_
  intro w18 a19 hH18 hf he19
  replace hD := hD.setb (i := 0) rfl rfl hf
  replace hH18 : Hp w [⟨p12, 35, #[Value.slice Az 1 cz, Value.bool false]⟩, ⟨p10, 35, #[Value.slice Ay 1 cy, Value.bool false]⟩, ⟨p8, 35, #[Value.slice Ax 1 cx, Value.bool false]⟩] w18 := hH18
  clear hf
  clear he17 a17 hH16
  refine wpList_nil ?_
  refine then_ok ?_
  have he20 : Env 156 [(3, Value.pointer (some ⟨p12, 0, none⟩)), (2, Value.pointer (some ⟨p10, 0, none⟩)), (1, Value.pointer (some ⟨p8, 0, none⟩)), (0, Value.bool false)] a19 := he19.mem ⟨rfl, rfl, rfl, rfl, trivial⟩
  clear he19
  as_aux_lemma =>
    refine wp_seq ?_
    refine wp_region_lit ?_
    refine lCx he20 rfl rfl Tryd.func9 (by kernel_rfl) rfl rfl (wanted_plain rfl _) rfl (new_ok 3 (by decide) (by decide) w18 hD.tab) ?_
    rintro _ w21 ⟨ps, rfl, ht⟩
    have hD2 := hD.made ht
    have hH21 := hH18.call ht.new
    clear hD
    have hD := hD2
    clear hD2 ht
    refine ⟨_, rfl, ?_⟩
    intro a22 he22
    clear he20 a19 hH18
    refine lV (Value.tuple #[Value.pointer (some ⟨ps, 0, none⟩), Value.int .i64 0]) he22 rfl rfl (wanted_plain rfl _) (rn_mv rfl (he22.op rfl) w21) ?_
    intro a23 he23
    clear he22 a22
    refine lV (Value.pointer (some ⟨ps, 0, none⟩)) he23 rfl rfl (wanted_plain rfl _) (rn_ext rfl (he23.op rfl) rfl w21) ?_
    intro a24 he24
    clear he23 a23
    refine lV (Value.int .i64 0) he24 rfl rfl (wanted_plain rfl _) (rn_ext rfl (he24.op rfl) rfl w21) ?_
    intro a25 he25
    clear he24 a24
    refine lV (Value.pointer (some ⟨ps, 0, none⟩)) he25 rfl rfl (wanted_plain rfl _) (rn_asg rfl (he25.op rfl) w21) ?_
    intro a26 he26
    clear he25 a25
    refine lV (Value.int .i64 0) he26 rfl rfl (wanted_plain rfl _) (rn_asg rfl (he26.op rfl) w21) ?_
    intro a27 he27
    clear he26 a26
    refine wpList_nil ?_
    refine then_ok ?_
    have he28 : Env 156 [(5, Value.int .i64 0), (4, Value.pointer (some ⟨ps, 0, none⟩)), (3, Value.pointer (some ⟨p12, 0, none⟩)), (2, Value.pointer (some ⟨p10, 0, none⟩)), (1, Value.pointer (some ⟨p8, 0, none⟩)), (0, Value.bool false)] a27 := he27.mem ⟨rfl, rfl, rfl, rfl, rfl, rfl, trivial⟩
    clear he27
    as_aux_lemma =>
      refine wp_seq ?_
      refine wp_seq ?_
      refine wp_region_held_drew (S := Hp w [⟨p12, 35, #[Value.slice Az 1 cz, Value.bool false]⟩, ⟨p10, 35, #[Value.slice Ay 1 cy, Value.bool false]⟩, ⟨p8, 35, #[Value.slice Ax 1 cx, Value.bool false]⟩]) (by kernel_rfl) (hH21.drew) (fun _ => ?_)
      have hn : New w21 (World.drew w21) := (Fr.refl _ _).drew
      replace hD := (hD).new hn
      clear hn
      have hH29 := hH21.drew
      clear hH21
      generalize World.drew w21 = w29 at *
      refine hV (fuel := 71) (i := 0) (Value.pointer (some ⟨ps, 0, none⟩)) he28 rfl rfl rfl (by kernel_rfl) (by kernel_rfl) (by kernel_rfl) (fun _ _ _ h => h) (wanted_plain rfl _) (fun w' _ => rn_mv rfl (he28.op rfl) w') hH29 ?_
      intro a30 he30
      clear he28 a27
      refine hV (fuel := 70) (i := 1) (Value.bool false) he30 rfl rfl rfl (by kernel_rfl) (by kernel_rfl) (by kernel_rfl) (fun _ _ _ h => h) (wanted_plain rfl _) (fun w' _ => rn_eqP1 rfl (he30.op rfl) (fun _ => rfl) w') hH29 ?_
      intro a31 he31
      clear he30 a30
      refine hV (fuel := 69) (i := 2) (Value.bool false) he31 rfl rfl rfl (by kernel_rfl) (by kernel_rfl) (by kernel_rfl) (fun _ _ _ h => h) (wanted_plain rfl _) (fun w' _ => rn_mv rfl (he31.op rfl) w') hH29 ?_
      intro a32 he32
      clear he31 a31
      refine hV (fuel := 68) (i := 3) (Value.int .i64 0) he32 rfl rfl rfl (by kernel_rfl) (by kernel_rfl) (by kernel_rfl) (fun _ _ _ h => h) (he32.want rfl rfl rfl rfl rfl) (fun w' _ => rn_mv rfl (he32.op rfl) w') hH29 ?_
      intro a33 he33
      clear he32 a32
      refine hV (fuel := 67) (i := 4) (Value.bool false) he33 rfl rfl rfl (by kernel_rfl) (by kernel_rfl) (by kernel_rfl) (fun _ _ _ h => h) (he33.want rfl rfl rfl rfl rfl) (fun w' _ => rn_neE rfl (he33.op rfl) (he33.op rfl) (by simp) w') hH29 ?_
      intro a34 he34
      clear he33 a33
      refine hV (fuel := 66) (i := 5) (Value.bool false) he34 rfl rfl rfl (by kernel_rfl) (by kernel_rfl) (by kernel_rfl) (fun _ _ _ h => h) (wanted_plain rfl _) (fun w' _ => rn_pk0 rfl (he34.op rfl) (he34.op rfl) w') hH29 ?_
      intro a35 he35
      clear he34 a34
      refine hV (fuel := 65) (i := 6) (Value.bool false) he35 rfl rfl rfl (by kernel_rfl) (by kernel_rfl) (by kernel_rfl) (fun _ _ _ h => h) (wanted_plain rfl _) (fun w' _ => rn_mv rfl (he35.op rfl) w') hH29 ?_
      intro a36 he36
      clear he35 a35
      refine hV (fuel := 64) (i := 7) (Value.pointer (some ⟨ps, 0, none⟩)) he36 rfl rfl rfl (by kernel_rfl) (by kernel_rfl) (by kernel_rfl) (fun _ _ _ h => h) (he36.want rfl rfl rfl rfl rfl) (fun w' _ => rn_mv rfl (he36.op rfl) w') hH29 ?_
      intro a37 he37
      clear he36 a36
      refine hV (fuel := 63) (i := 8) (Value.agg #[Value.slice Ax 1 cx, Value.bool false]) he37 rfl rfl rfl (by kernel_rfl) (by kernel_rfl) (by kernel_rfl) (fun _ _ _ h => h) (he37.want rfl rfl rfl rfl rfl) (fun w' hw' => rn_ldp [Value.slice Ax 1 cx, Value.bool false] rfl (he37.op rfl) undL rfl infoL2 (hw'.at (i := 2) rfl) rfl) hH29 ?_
      intro a38 he38
      clear he37 a37
      have hown := cells_sl (hD.get (i := 3) rfl).choose_spec
      have hps : pushS [] 3 0 ([tc 120], false) = ([([tc 120], false)], 0) := by simp [pushS, okx]
      obtain ⟨F_, hsep, hF, hstep⟩ := Dt.step (A := [shD ps [] 3 0]) (D := [cellsD (.slice Az 1 cz) [tc 122], cellsD (.slice Ay 1 cy) [tc 121], cellsD (.slice Ax 1 cx) [tc 120]]) hD
      refine hC (fuel := 62) (i := 9) he38 (by kernel_rfl) rfl rfl rfl Tryd.func13 (by kernel_rfl) rfl rfl (he38.want rfl rfl rfl rfl rfl) rfl ((hps ▸ push_b F_ ps 3 0 [] _ ([tc 120], false).1 ([tc 120], false).2 w29 hsep.the hF hD.tab hown)) ?_
      rintro _ w39 ⟨rfl, ht⟩
      obtain ⟨hD2, hHs⟩ := hstep _ _ ht
      have hH39 := hHs _ rfl hH29
      clear hHs hstep hsep hF
      clear hD
      have hD := hD2
      clear hD2 ht
      refine ⟨_, rfl, hH39, ?_⟩
      intro a40 he40
      clear he38 a38 hH29
      clear hown hps
      refine hV (fuel := 61) (i := 10) (Value.bool false) he40 rfl rfl rfl (by kernel_rfl) (by kernel_rfl) (by kernel_rfl) (fun _ _ _ h => h) (he40.want rfl rfl rfl rfl rfl) (fun w' _ => rn_neE rfl (he40.op rfl) (he40.op rfl) (by simp) w') hH39 ?_
      intro a41 he41
      clear he40 a40
      refine hV (fuel := 60) (i := 11) (Value.bool false) he41 rfl rfl rfl (by kernel_rfl) (by kernel_rfl) (by kernel_rfl) (fun _ _ _ h => h) (wanted_plain rfl _) (fun w' _ => rn_pk0 rfl (he41.op rfl) (he41.op rfl) w') hH39 ?_
      intro a42 he42
      clear he41 a41
      refine hV (fuel := 59) (i := 12) (Value.bool false) he42 rfl rfl rfl (by kernel_rfl) (by kernel_rfl) (by kernel_rfl) (fun _ _ _ h => h) (wanted_plain rfl _) (fun w' _ => rn_mv rfl (he42.op rfl) w') hH39 ?_
      intro a43 he43
      clear he42 a42
      refine hV (fuel := 58) (i := 13) (Value.pointer (some ⟨ps, 0, none⟩)) he43 rfl rfl rfl (by kernel_rfl) (by kernel_rfl) (by kernel_rfl) (fun _ _ _ h => h) (he43.want rfl rfl rfl rfl rfl) (fun w' _ => rn_mv rfl (he43.op rfl) w') hH39 ?_
      intro a44 he44
      clear he43 a43
      refine hV (fuel := 57) (i := 14) (Value.agg #[Value.slice Ay 1 cy, Value.bool false]) he44 rfl rfl rfl (by kernel_rfl) (by kernel_rfl) (by kernel_rfl) (fun _ _ _ h => h) (he44.want rfl rfl rfl rfl rfl) (fun w' hw' => rn_ldp [Value.slice Ay 1 cy, Value.bool false] rfl (he44.op rfl) undL rfl infoL2 (hw'.at (i := 1) rfl) rfl) hH39 ?_
      intro a45 he45
      clear he44 a44
      have hown := cells_sl (hD.get (i := 2) rfl).choose_spec
      have hps : pushS [([tc 120], false)] 3 0 ([tc 121], false) = ([([tc 120], false), ([tc 121], false)], 0) := by simp [pushS, oky]
      obtain ⟨F_, hsep, hF, hstep⟩ := Dt.step (A := [shD ps [([tc 120], false)] 3 0]) (D := [cellsD (.slice Az 1 cz) [tc 122], cellsD (.slice Ay 1 cy) [tc 121], cellsD (.slice Ax 1 cx) [tc 120]]) hD
      refine hC (fuel := 56) (i := 15) he45 (by kernel_rfl) rfl rfl rfl Tryd.func13 (by kernel_rfl) rfl rfl (he45.want rfl rfl rfl rfl rfl) rfl ((hps ▸ push_b F_ ps 3 0 [([tc 120], false)] _ ([tc 121], false).1 ([tc 121], false).2 w39 hsep.the hF hD.tab hown)) ?_
      rintro _ w46 ⟨rfl, ht⟩
      obtain ⟨hD2, hHs⟩ := hstep _ _ ht
      have hH46 := hHs _ rfl hH39
      clear hHs hstep hsep hF
      clear hD
      have hD := hD2
      clear hD2 ht
      refine ⟨_, rfl, hH46, ?_⟩
      intro a47 he47
      clear he45 a45 hH39
      clear hown hps
      refine hV (fuel := 55) (i := 16) (Value.bool false) he47 rfl rfl rfl (by kernel_rfl) (by kernel_rfl) (by kernel_rfl) (fun _ _ _ h => h) (he47.want rfl rfl rfl rfl rfl) (fun w' _ => rn_neE rfl (he47.op rfl) (he47.op rfl) (by simp) w') hH46 ?_
      intro a48 he48
      clear he47 a47
      refine hV (fuel := 54) (i := 17) (Value.bool false) he48 rfl rfl rfl (by kernel_rfl) (by kernel_rfl) (by kernel_rfl) (fun _ _ _ h => h) (wanted_plain rfl _) (fun w' _ => rn_pk0 rfl (he48.op rfl) (he48.op rfl) w') hH46 ?_
      intro a49 he49
      clear he48 a48
      refine hV (fuel := 53) (i := 18) (Value.bool false) he49 rfl rfl rfl (by kernel_rfl) (by kernel_rfl) (by kernel_rfl) (fun _ _ _ h => h) (wanted_plain rfl _) (fun w' _ => rn_mv rfl (he49.op rfl) w') hH46 ?_
      intro a50 he50
      clear he49 a49
      refine hV (fuel := 52) (i := 19) (Value.pointer (some ⟨ps, 0, none⟩)) he50 rfl rfl rfl (by kernel_rfl) (by kernel_rfl) (by kernel_rfl) (fun _ _ _ h => h) (he50.want rfl rfl rfl rfl rfl) (fun w' _ => rn_mv rfl (he50.op rfl) w') hH46 ?_
      intro a51 he51
      clear he50 a50
      have hps : dropS [([tc 120], false), ([tc 121], false)] 0 1 = ([([tc 121], false)], 1, 0) := by simp [dropS]
      obtain ⟨F_, hsep, hF, hstep⟩ := Dt.step (A := [shD ps [([tc 120], false), ([tc 121], false)] 3 0]) (D := [cellsD (.slice Az 1 cz) [tc 122], cellsD (.slice Ay 1 cy) [tc 121], cellsD (.slice Ax 1 cx) [tc 120]]) hD
      refine hC (fuel := 51) (i := 20) he51 (by kernel_rfl) rfl rfl rfl Tryd.func16 (by kernel_rfl) rfl rfl (he51.want rfl rfl rfl rfl rfl) rfl ((hps ▸ drop_b F_ ps 3 0 [([tc 120], false), ([tc 121], false)] 1 w46 hsep.the hF hD.tab)) ?_
      rintro _ w52 ⟨rfl, ht⟩
      obtain ⟨hD2, hHs⟩ := hstep _ _ ht
      have hH52 := hHs _ rfl hH46
      clear hHs hstep hsep hF
      clear hD
      have hD := hD2
      clear hD2 ht
      refine ⟨_, rfl, hH52, ?_⟩
      intro a53 he53
      clear he51 a51 hH46
      clear hps
      refine hV (fuel := 50) (i := 21) (Value.bool false) he53 rfl rfl rfl (by kernel_rfl) (by kernel_rfl) (by kernel_rfl) (fun _ _ _ h => h) (he53.want rfl rfl rfl rfl rfl) (fun w' _ => rn_neE rfl (he53.op rfl) (he53.op rfl) (by simp) w') hH52 ?_
      intro a54 he54
      clear he53 a53
      refine hV (fuel := 49) (i := 22) (Value.bool false) he54 rfl rfl rfl (by kernel_rfl) (by kernel_rfl) (by kernel_rfl) (fun _ _ _ h => h) (wanted_plain rfl _) (fun w' _ => rn_pk0 rfl (he54.op rfl) (he54.op rfl) w') hH52 ?_
      intro a55 he55
      clear he54 a54
      refine hV (fuel := 48) (i := 23) (Value.bool false) he55 rfl rfl rfl (by kernel_rfl) (by kernel_rfl) (by kernel_rfl) (fun _ _ _ h => h) (wanted_plain rfl _) (fun w' _ => rn_mv rfl (he55.op rfl) w') hH52 ?_
      intro a56 he56
      clear he55 a55
      refine hV (fuel := 47) (i := 24) (Value.pointer (some ⟨ps, 0, none⟩)) he56 rfl rfl rfl (by kernel_rfl) (by kernel_rfl) (by kernel_rfl) (fun _ _ _ h => h) (he56.want rfl rfl rfl rfl rfl) (fun w' _ => rn_mv rfl (he56.op rfl) w') hH52 ?_
      intro a57 he57
      clear he56 a56
      refine hV (fuel := 46) (i := 25) (Value.agg #[Value.slice Ay 1 cy, Value.bool false]) he57 rfl rfl rfl (by kernel_rfl) (by kernel_rfl) (by kernel_rfl) (fun _ _ _ h => h) (he57.want rfl rfl rfl rfl rfl) (fun w' hw' => rn_ldp [Value.slice Ay 1 cy, Value.bool false] rfl (he57.op rfl) undL rfl infoL2 (hw'.at (i := 1) rfl) rfl) hH52 ?_
      intro a58 he58
      clear he57 a57
      obtain ⟨Fs_, hs_⟩ := hD.get (i := 0) rfl
      refine hC (fuel := 45) (i := 26) he58 (by kernel_rfl) rfl rfl rfl Tryd.func20 (by kernel_rfl) rfl rfl (he58.want rfl rfl rfl rfl rfl) rfl (gets_b Fs_ ps 3 1 [([tc 121], false)] 0 _ ([tc 121], false).1 ([tc 121], false).2 0 true (by simp [getS]) w52 hs_ hD.tab (cells_sl (hD.get (i := 2) rfl).choose_spec) (by simp)) ?_
      rintro _ w59 ⟨rfl, hn⟩
      have hH59 := hH52.call hn
      replace hD := (hD).new hn
      refine ⟨_, rfl, hH59, ?_⟩
      intro a60 he60
      clear he58 a58 hH52 hn
      clear hs_ Fs_
      refine hV (fuel := 44) (i := 27) (Value.bool false) he60 rfl rfl rfl (by kernel_rfl) (by kernel_rfl) (by kernel_rfl) (fun _ _ _ h => h) (he60.want rfl rfl rfl rfl rfl) (fun w' _ => rn_not (b := true) rfl (he60.op rfl) w') hH59 ?_
      intro a61 he61
      clear he60 a60
      refine hV (fuel := 43) (i := 28) (Value.bool false) he61 rfl rfl rfl (by kernel_rfl) (by kernel_rfl) (by kernel_rfl) (fun _ _ _ h => h) (wanted_plain rfl _) (fun w' _ => rn_pk0 rfl (he61.op rfl) (he61.op rfl) w') hH59 ?_
      intro a62 he62
      clear he61 a61
      refine hV (fuel := 42) (i := 29) (Value.bool false) he62 rfl rfl rfl (by kernel_rfl) (by kernel_rfl) (by kernel_rfl) (fun _ _ _ h => h) (wanted_plain rfl _) (fun w' _ => rn_mv rfl (he62.op rfl) w') hH59 ?_
      intro a63 he63
      clear he62 a62
      refine hV (fuel := 41) (i := 30) (Value.pointer (some ⟨ps, 0, none⟩)) he63 rfl rfl rfl (by kernel_rfl) (by kernel_rfl) (by kernel_rfl) (fun _ _ _ h => h) (he63.want rfl rfl rfl rfl rfl) (fun w' _ => rn_mv rfl (he63.op rfl) w') hH59 ?_
      intro a64 he64
      clear he63 a63
      obtain ⟨Fs_, hs_⟩ := hD.get (i := 0) rfl
      refine hC (fuel := 40) (i := 31) he64 (by kernel_rfl) rfl rfl rfl Tryd.func15 (by kernel_rfl) rfl rfl (he64.want rfl rfl rfl rfl rfl) rfl (room_b ps 3 1 [([tc 121], false)] Fs_ w59 hs_ hD.tab) ?_
      rintro _ w65 ⟨rfl, hn⟩
      have hH65 := hH59.call hn
      replace hD := (hD).new hn
      refine ⟨_, rfl, hH65, ?_⟩
      intro a66 he66
      clear he64 a64 hH59 hn
      clear hs_ Fs_
      refine hV (fuel := 39) (i := 32) (Value.bool false) he66 rfl rfl rfl (by kernel_rfl) (by kernel_rfl) (by kernel_rfl) (fun _ _ _ h => h) (he66.want rfl rfl rfl rfl rfl) (fun w' _ => rn_neI rfl (he66.op rfl) (he66.op rfl) (by simp) w') hH65 ?_
      intro a67 he67
      clear he66 a66
      refine hV (fuel := 38) (i := 33) (Value.bool false) he67 rfl rfl rfl (by kernel_rfl) (by kernel_rfl) (by kernel_rfl) (fun _ _ _ h => h) (wanted_plain rfl _) (fun w' _ => rn_pk0 rfl (he67.op rfl) (he67.op rfl) w') hH65 ?_
      intro a68 he68
      clear he67 a67
      refine hV (fuel := 37) (i := 34) (Value.bool false) he68 rfl rfl rfl (by kernel_rfl) (by kernel_rfl) (by kernel_rfl) (fun _ _ _ h => h) (wanted_plain rfl _) (fun w' _ => rn_mv rfl (he68.op rfl) w') hH65 ?_
      intro a69 he69
      clear he68 a68
      refine hV (fuel := 36) (i := 35) (Value.pointer (some ⟨ps, 0, none⟩)) he69 rfl rfl rfl (by kernel_rfl) (by kernel_rfl) (by kernel_rfl) (fun _ _ _ h => h) (he69.want rfl rfl rfl rfl rfl) (fun w' _ => rn_mv rfl (he69.op rfl) w') hH65 ?_
      intro a70 he70
      clear he69 a69
      obtain ⟨Fs_, hs_⟩ := hD.get (i := 0) rfl
      refine hC (fuel := 35) (i := 36) he70 (by kernel_rfl) rfl rfl rfl Tryd.func19 (by kernel_rfl) rfl rfl (he70.want rfl rfl rfl rfl rfl) rfl (goneS_b Fs_ ps 3 1 [([tc 121], false)] w65 hs_ hD.tab) ?_
      rintro _ w71 ⟨rfl, hn⟩
      have hH71 := hH65.call hn
      replace hD := (hD).new hn
      refine ⟨_, rfl, hH71, ?_⟩
      intro a72 he72
      clear he70 a70 hH65 hn
      clear hs_ Fs_
      refine hV (fuel := 34) (i := 37) (Value.bool false) he72 rfl rfl rfl (by kernel_rfl) (by kernel_rfl) (by kernel_rfl) (fun _ _ _ h => h) (he72.want rfl rfl rfl rfl rfl) (fun w' _ => rn_neI rfl (he72.op rfl) (he72.op rfl) (by simp) w') hH71 ?_
      intro a73 he73
      clear he72 a72
      refine hV (fuel := 33) (i := 38) (Value.bool false) he73 rfl rfl rfl (by kernel_rfl) (by kernel_rfl) (by kernel_rfl) (fun _ _ _ h => h) (wanted_plain rfl _) (fun w' _ => rn_pk0 rfl (he73.op rfl) (he73.op rfl) w') hH71 ?_
      intro a74 he74
      clear he73 a73
      refine hV (fuel := 32) (i := 39) (Value.bool false) he74 rfl rfl rfl (by kernel_rfl) (by kernel_rfl) (by kernel_rfl) (fun _ _ _ h => h) (wanted_plain rfl _) (fun w' _ => rn_mv rfl (he74.op rfl) w') hH71 ?_
      intro a75 he75
      clear he74 a74
      refine hV (fuel := 31) (i := 40) (Value.pointer (some ⟨ps, 0, none⟩)) he75 rfl rfl rfl (by kernel_rfl) (by kernel_rfl) (by kernel_rfl) (fun _ _ _ h => h) (he75.want rfl rfl rfl rfl rfl) (fun w' _ => rn_mv rfl (he75.op rfl) w') hH71 ?_
      intro a76 he76
      clear he75 a75
      refine hV (fuel := 30) (i := 41) (Value.agg #[Value.slice Az 1 cz, Value.bool false]) he76 rfl rfl rfl (by kernel_rfl) (by kernel_rfl) (by kernel_rfl) (fun _ _ _ h => h) (he76.want rfl rfl rfl rfl rfl) (fun w' hw' => rn_ldp [Value.slice Az 1 cz, Value.bool false] rfl (he76.op rfl) undL rfl infoL2 (hw'.at (i := 0) rfl) rfl) hH71 ?_
      intro a77 he77
      clear he76 a76
      have hown := cells_sl (hD.get (i := 1) rfl).choose_spec
      have hps : pushS [([tc 121], false)] 3 1 ([tc 122], false) = ([([tc 121], false), ([tc 122], false)], 0) := by simp [pushS, okz]
      obtain ⟨F_, hsep, hF, hstep⟩ := Dt.step (A := [shD ps [([tc 121], false)] 3 1]) (D := [cellsD (.slice Az 1 cz) [tc 122], cellsD (.slice Ay 1 cy) [tc 121], cellsD (.slice Ax 1 cx) [tc 120]]) hD
      refine hC (fuel := 29) (i := 42) he77 (by kernel_rfl) rfl rfl rfl Tryd.func13 (by kernel_rfl) rfl rfl (he77.want rfl rfl rfl rfl rfl) rfl ((hps ▸ push_b F_ ps 3 1 [([tc 121], false)] _ ([tc 122], false).1 ([tc 122], false).2 w71 hsep.the hF hD.tab hown)) ?_
      rintro _ w78 ⟨rfl, ht⟩
      obtain ⟨hD2, hHs⟩ := hstep _ _ ht
      have hH78 := hHs _ rfl hH71
      clear hHs hstep hsep hF
      clear hD
      have hD := hD2
      clear hD2 ht
      refine ⟨_, rfl, hH78, ?_⟩
      intro a79 he79
      clear he77 a77 hH71
      clear hown hps
      refine hV (fuel := 28) (i := 43) (Value.bool false) he79 rfl rfl rfl (by kernel_rfl) (by kernel_rfl) (by kernel_rfl) (fun _ _ _ h => h) (he79.want rfl rfl rfl rfl rfl) (fun w' _ => rn_neE rfl (he79.op rfl) (he79.op rfl) (by simp) w') hH78 ?_
      intro a80 he80
      clear he79 a79
      refine hV (fuel := 27) (i := 44) (Value.bool false) he80 rfl rfl rfl (by kernel_rfl) (by kernel_rfl) (by kernel_rfl) (fun _ _ _ h => h) (wanted_plain rfl _) (fun w' _ => rn_pk0 rfl (he80.op rfl) (he80.op rfl) w') hH78 ?_
      intro a81 he81
      clear he80 a80
      refine hV (fuel := 26) (i := 45) (Value.bool false) he81 rfl rfl rfl (by kernel_rfl) (by kernel_rfl) (by kernel_rfl) (fun _ _ _ h => h) (wanted_plain rfl _) (fun w' _ => rn_mv rfl (he81.op rfl) w') hH78 ?_
      intro a82 he82
      clear he81 a81
      refine hV (fuel := 25) (i := 46) (Value.pointer (some ⟨ps, 0, none⟩)) he82 rfl rfl rfl (by kernel_rfl) (by kernel_rfl) (by kernel_rfl) (fun _ _ _ h => h) (he82.want rfl rfl rfl rfl rfl) (fun w' _ => rn_mv rfl (he82.op rfl) w') hH78 ?_
      intro a83 he83
      clear he82 a82
      refine hV (fuel := 24) (i := 47) (Value.agg #[Value.slice Ax 1 cx, Value.bool false]) he83 rfl rfl rfl (by kernel_rfl) (by kernel_rfl) (by kernel_rfl) (fun _ _ _ h => h) (he83.want rfl rfl rfl rfl rfl) (fun w' hw' => rn_ldp [Value.slice Ax 1 cx, Value.bool false] rfl (he83.op rfl) undL rfl infoL2 (hw'.at (i := 2) rfl) rfl) hH78 ?_
      intro a84 he84
      clear he83 a83
      have hown := cells_sl (hD.get (i := 3) rfl).choose_spec
      have hps : pushS [([tc 121], false), ([tc 122], false)] 3 1 ([tc 120], false) = ([([tc 121], false), ([tc 122], false)], 7) := by simp [pushS, okx]
      obtain ⟨F_, hsep, hF, hstep⟩ := Dt.step (A := [shD ps [([tc 121], false), ([tc 122], false)] 3 1]) (D := [cellsD (.slice Az 1 cz) [tc 122], cellsD (.slice Ay 1 cy) [tc 121], cellsD (.slice Ax 1 cx) [tc 120]]) hD
      refine hC (fuel := 23) (i := 48) he84 (by kernel_rfl) rfl rfl rfl Tryd.func13 (by kernel_rfl) rfl rfl (he84.want rfl rfl rfl rfl rfl) rfl ((hps ▸ push_b F_ ps 3 1 [([tc 121], false), ([tc 122], false)] _ ([tc 120], false).1 ([tc 120], false).2 w78 hsep.the hF hD.tab hown)) ?_
      rintro _ w85 ⟨rfl, ht⟩
      obtain ⟨hD2, hHs⟩ := hstep _ _ ht
      have hH85 := hHs _ rfl hH78
      clear hHs hstep hsep hF
      clear hD
      have hD := hD2
      clear hD2 ht
      refine ⟨_, rfl, hH85, ?_⟩
      intro a86 he86
      clear he84 a84 hH78
      clear hown hps
      refine hV (fuel := 22) (i := 49) (Value.bool false) he86 rfl rfl rfl (by kernel_rfl) (by kernel_rfl) (by kernel_rfl) (fun _ _ _ h => h) (he86.want rfl rfl rfl rfl rfl) (fun w' _ => rn_neE rfl (he86.op rfl) (he86.op rfl) (by simp) w') hH85 ?_
      intro a87 he87
      clear he86 a86
      refine hV (fuel := 21) (i := 50) (Value.bool false) he87 rfl rfl rfl (by kernel_rfl) (by kernel_rfl) (by kernel_rfl) (fun _ _ _ h => h) (wanted_plain rfl _) (fun w' _ => rn_pk0 rfl (he87.op rfl) (he87.op rfl) w') hH85 ?_
      intro a88 he88
      clear he87 a87
      refine hV (fuel := 20) (i := 51) (Value.bool false) he88 rfl rfl rfl (by kernel_rfl) (by kernel_rfl) (by kernel_rfl) (fun _ _ _ h => h) (wanted_plain rfl _) (fun w' _ => rn_mv rfl (he88.op rfl) w') hH85 ?_
      intro a89 he89
      clear he88 a88
      refine hV (fuel := 19) (i := 52) (Value.pointer (some ⟨ps, 0, none⟩)) he89 rfl rfl rfl (by kernel_rfl) (by kernel_rfl) (by kernel_rfl) (fun _ _ _ h => h) (he89.want rfl rfl rfl rfl rfl) (fun w' _ => rn_mv rfl (he89.op rfl) w') hH85 ?_
      intro a90 he90
      clear he89 a89
      refine hV (fuel := 18) (i := 53) (Value.agg #[Value.slice Az 1 cz, Value.bool false]) he90 rfl rfl rfl (by kernel_rfl) (by kernel_rfl) (by kernel_rfl) (fun _ _ _ h => h) (he90.want rfl rfl rfl rfl rfl) (fun w' hw' => rn_ldp [Value.slice Az 1 cz, Value.bool false] rfl (he90.op rfl) undL rfl infoL2 (hw'.at (i := 0) rfl) rfl) hH85 ?_
      intro a91 he91
      clear he90 a90
      have hps : (popS [([tc 121], false), ([tc 122], false)]).1 = [([tc 121], false)] := by simp [popS]
      replace hD := hD.pick 1 rfl
      replace hD := hD.pick 1 rfl
      obtain ⟨F_, G_, hsep, hrd_, hdj, hF, hstep⟩ := Dt.stepR (A := [shD ps [([tc 121], false), ([tc 122], false)] 3 1]) (d := cellsD (.slice Az 1 cz) [tc 122]) (D := [cellsD (.slice Ay 1 cy) [tc 121], cellsD (.slice Ax 1 cx) [tc 120]]) hD
      refine hC (fuel := 17) (i := 54) he91 (by kernel_rfl) rfl rfl rfl Tryd.func17 (by kernel_rfl) rfl rfl (he91.want rfl rfl rfl rfl rfl) rfl ((hps ▸ pops_b F_ ps 3 1 [([tc 121], false), ([tc 122], false)] _ ([tc 122], false).1 ([tc 122], false).2 0 true (by simp [popS]) w85 hsep.the hF hD.tab ((cells_f hrd_).up hdj) (by simp))) ?_
      rintro _ w92 ⟨rfl, ht⟩
      obtain ⟨hD2, hHs⟩ := hstep _ _ ht
      have hH92 := hHs _ rfl hH85
      clear hHs hstep hsep hF hrd_ hdj
      clear hD
      have hD := hD2
      clear hD2 ht
      refine ⟨_, rfl, hH92, ?_⟩
      intro a93 he93
      clear he91 a91 hH85
      clear hps
      refine hV (fuel := 16) (i := 55) (Value.bool false) he93 rfl rfl rfl (by kernel_rfl) (by kernel_rfl) (by kernel_rfl) (fun _ _ _ h => h) (he93.want rfl rfl rfl rfl rfl) (fun w' _ => rn_not (b := true) rfl (he93.op rfl) w') hH92 ?_
      intro a94 he94
      clear he93 a93
      refine hV (fuel := 15) (i := 56) (Value.bool false) he94 rfl rfl rfl (by kernel_rfl) (by kernel_rfl) (by kernel_rfl) (fun _ _ _ h => h) (wanted_plain rfl _) (fun w' _ => rn_pk0 rfl (he94.op rfl) (he94.op rfl) w') hH92 ?_
      intro a95 he95
      clear he94 a94
      refine hV (fuel := 14) (i := 57) (Value.bool false) he95 rfl rfl rfl (by kernel_rfl) (by kernel_rfl) (by kernel_rfl) (fun _ _ _ h => h) (wanted_plain rfl _) (fun w' _ => rn_mv rfl (he95.op rfl) w') hH92 ?_
      intro a96 he96
      clear he95 a95
      refine hV (fuel := 13) (i := 58) (Value.pointer (some ⟨ps, 0, none⟩)) he96 rfl rfl rfl (by kernel_rfl) (by kernel_rfl) (by kernel_rfl) (fun _ _ _ h => h) (he96.want rfl rfl rfl rfl rfl) (fun w' _ => rn_mv rfl (he96.op rfl) w') hH92 ?_
      intro a97 he97
      clear he96 a96
      refine hV (fuel := 12) (i := 59) (Value.agg #[Value.slice Ax 1 cx, Value.bool false]) he97 rfl rfl rfl (by kernel_rfl) (by kernel_rfl) (by kernel_rfl) (fun _ _ _ h => h) (he97.want rfl rfl rfl rfl rfl) (fun w' hw' => rn_ldp [Value.slice Ax 1 cx, Value.bool false] rfl (he97.op rfl) undL rfl infoL2 (hw'.at (i := 2) rfl) rfl) hH92 ?_
      intro a98 he98
      clear he97 a97
      have hown := cells_sl (hD.get (i := 3) rfl).choose_spec
      have hps : pushS [([tc 121], false)] 3 1 ([tc 120], false) = ([([tc 121], false), ([tc 120], false)], 0) := by simp [pushS, okx]
      obtain ⟨F_, hsep, hF, hstep⟩ := Dt.step (A := [shD ps [([tc 121], false)] 3 1]) (D := [cellsD (.slice Az 1 cz) [tc 122], cellsD (.slice Ay 1 cy) [tc 121], cellsD (.slice Ax 1 cx) [tc 120]]) hD
      refine hC (fuel := 11) (i := 60) he98 (by kernel_rfl) rfl rfl rfl Tryd.func13 (by kernel_rfl) rfl rfl (he98.want rfl rfl rfl rfl rfl) rfl ((hps ▸ push_b F_ ps 3 1 [([tc 121], false)] _ ([tc 120], false).1 ([tc 120], false).2 w92 hsep.the hF hD.tab hown)) ?_
      rintro _ w99 ⟨rfl, ht⟩
      obtain ⟨hD2, hHs⟩ := hstep _ _ ht
      have hH99 := hHs _ rfl hH92
      clear hHs hstep hsep hF
      clear hD
      have hD := hD2
      clear hD2 ht
      refine ⟨_, rfl, hH99, ?_⟩
      intro a100 he100
      clear he98 a98 hH92
      clear hown hps
      refine hV (fuel := 10) (i := 61) (Value.bool false) he100 rfl rfl rfl (by kernel_rfl) (by kernel_rfl) (by kernel_rfl) (fun _ _ _ h => h) (he100.want rfl rfl rfl rfl rfl) (fun w' _ => rn_neE rfl (he100.op rfl) (he100.op rfl) (by simp) w') hH99 ?_
      intro a101 he101
      clear he100 a100
      refine hV (fuel := 9) (i := 62) (Value.bool false) he101 rfl rfl rfl (by kernel_rfl) (by kernel_rfl) (by kernel_rfl) (fun _ _ _ h => h) (wanted_plain rfl _) (fun w' _ => rn_pk0 rfl (he101.op rfl) (he101.op rfl) w') hH99 ?_
      intro a102 he102
      clear he101 a101
      refine hV (fuel := 8) (i := 63) (Value.bool false) he102 rfl rfl rfl (by kernel_rfl) (by kernel_rfl) (by kernel_rfl) (fun _ _ _ h => h) (wanted_plain rfl _) (fun w' _ => rn_mv rfl (he102.op rfl) w') hH99 ?_
      intro a103 he103
      clear he102 a102
      refine hV (fuel := 7) (i := 64) (Value.pointer (some ⟨ps, 0, none⟩)) he103 rfl rfl rfl (by kernel_rfl) (by kernel_rfl) (by kernel_rfl) (fun _ _ _ h => h) (he103.want rfl rfl rfl rfl rfl) (fun w' _ => rn_mv rfl (he103.op rfl) w') hH99 ?_
      intro a104 he104
      clear he103 a103
      refine hV (fuel := 6) (i := 66) (Value.agg #[Value.slice Ay 1 cy, Value.bool false]) he104 rfl rfl rfl (by kernel_rfl) (by kernel_rfl) (by kernel_rfl) (fun _ _ _ h => h) (he104.want rfl rfl rfl rfl rfl) (fun w' hw' => rn_ldp [Value.slice Ay 1 cy, Value.bool false] rfl (he104.op rfl) undL rfl infoL2 (hw'.at (i := 1) rfl) rfl) hH99 ?_
      intro a105 he105
      clear he104 a104
      refine hV (fuel := 5) (i := 67) (Value.agg #[Value.slice Ax 1 cx, Value.bool false]) he105 rfl rfl rfl (by kernel_rfl) (by kernel_rfl) (by kernel_rfl) (fun _ _ _ h => h) (he105.want rfl rfl rfl rfl rfl) (fun w' hw' => rn_ldp [Value.slice Ax 1 cx, Value.bool false] rfl (he105.op rfl) undL rfl infoL2 (hw'.at (i := 2) rfl) rfl) hH99 ?_
      intro a106 he106
      clear he105 a105
      obtain ⟨Fs_, hs_⟩ := hD.get (i := 0) rfl
      refine hPair (fuel := 3) (i := 65) (j := 68) (fun aI wI => ∃ (A_ : Option Addr) (c_ q_ : Nat), Env 156 [(82, Value.slice (some ⟨q_, 0, none⟩) 2 2), (79, Value.slice A_ 2 c_), (81, Value.agg #[Value.slice Ax 1 cx, Value.bool false]), (80, Value.agg #[Value.slice Ay 1 cy, Value.bool false]), (78, Value.pointer (some ⟨ps, 0, none⟩)), (77, Value.bool false), (76, Value.bool false), (75, Value.bool false), (74, Value.int .i64 0), (73, Value.agg #[Value.slice Ax 1 cx, Value.bool false]), (72, Value.pointer (some ⟨ps, 0, none⟩)), (71, Value.bool false), (70, Value.bool false), (69, Value.bool false), (68, Value.bool true), (67, Value.agg #[Value.slice Az 1 cz, Value.bool false]), (66, Value.pointer (some ⟨ps, 0, none⟩)), (65, Value.bool false), (64, Value.bool false), (63, Value.bool false), (62, Value.int .i64 7), (61, Value.agg #[Value.slice Ax 1 cx, Value.bool false]), (60, Value.pointer (some ⟨ps, 0, none⟩)), (59, Value.bool false), (58, Value.bool false), (57, Value.bool false), (56, Value.int .i64 0), (55, Value.agg #[Value.slice Az 1 cz, Value.bool false]), (54, Value.pointer (some ⟨ps, 0, none⟩)), (53, Value.bool false), (52, Value.bool false), (51, Value.bool false), (50, Value.int .i64 1), (49, Value.pointer (some ⟨ps, 0, none⟩)), (48, Value.bool false), (47, Value.bool false), (46, Value.bool false), (45, Value.int .i64 1), (44, Value.pointer (some ⟨ps, 0, none⟩)), (43, Value.bool false), (42, Value.bool false), (41, Value.bool false), (40, Value.bool true), (39, Value.agg #[Value.slice Ay 1 cy, Value.bool false]), (38, Value.pointer (some ⟨ps, 0, none⟩)), (37, Value.bool false), (36, Value.bool false), (35, Value.bool false), (34, Value.int .i64 0), (33, Value.pointer (some ⟨ps, 0, none⟩)), (32, Value.bool false), (31, Value.bool false), (30, Value.bool false), (29, Value.int .i64 0), (28, Value.agg #[Value.slice Ay 1 cy, Value.bool false]), (27, Value.pointer (some ⟨ps, 0, none⟩)), (26, Value.bool false), (25, Value.bool false), (24, Value.bool false), (23, Value.int .i64 0), (22, Value.agg #[Value.slice Ax 1 cx, Value.bool false]), (21, Value.pointer (some ⟨ps, 0, none⟩)), (20, Value.bool false), (19, Value.bool false), (18, Value.bool false), (17, Value.int .i64 0), (16, Value.bool false), (15, Value.bool false), (14, Value.pointer (some ⟨ps, 0, none⟩)), (5, Value.int .i64 0), (4, Value.pointer (some ⟨ps, 0, none⟩)), (3, Value.pointer (some ⟨p12, 0, none⟩)), (2, Value.pointer (some ⟨p10, 0, none⟩)), (1, Value.pointer (some ⟨p8, 0, none⟩)), (0, Value.bool false)] aI ∧ Hp w [⟨q_, 35, #[Value.slice Ay 1 cy, Value.bool false, Value.slice Ax 1 cx, Value.bool false]⟩, ⟨p12, 35, #[Value.slice Az 1 cz, Value.bool false]⟩, ⟨p10, 35, #[Value.slice Ay 1 cy, Value.bool false]⟩, ⟨p8, 35, #[Value.slice Ax 1 cx, Value.bool false]⟩] wI ∧ Dt w w (fun _ => False) 0 [q_, p12, p10, p8] [linesD (.slice A_ 2 c_) [([tc 121], false), ([tc 120], false)], shD ps [([tc 121], false), ([tc 120], false)] 3 1, cellsD (.slice Az 1 cz) [tc 122], cellsD (.slice Ay 1 cy) [tc 121], cellsD (.slice Ax 1 cx) [tc 120]] wI) (by decide) (by kernel_rfl) (by kernel_rfl) (by kernel_rfl) ?_ ?_ ?_
      · skip
        refine kC (i := 65) he106 rfl rfl rfl Tryd.func23 (by kernel_rfl) rfl rfl (he106.want rfl rfl rfl rfl rfl) rfl (lines_b _ ps 3 1 [([tc 121], false), ([tc 120], false)] w99 (hD.get (i := 0) rfl).choose_spec hD.tab) ?_
        rintro _ w108 ⟨Al, cl, rfl, ht⟩
        have hD2 := hD.made ht
        have hH108 := hH99.call ht.new
        clear hD
        have hD := hD2
        clear hD2 ht
        refine ⟨_, rfl, ?_⟩
        intro a109 he109
        clear he106 a106 hH99
        refine ⟨hH108, ?_⟩
        refine kNewP (i := 68) (fun p => .slice (some ⟨p, 0, none⟩) 2 2) he109 hH108 rfl rfl rfl (he109.want rfl rfl rfl rfl rfl) (rn_bsL2 rfl (he109.op rfl) (he109.op rfl) w108) ?_
        intro p110 w110 a111 hp hn hH110 he111
        replace hD := hD.cons hn hp (hH110.at (i := 0) rfl).lt
        refine ⟨(hH110.drop1 0 rfl), ?_⟩
        clear he109 a109 hH108 hn hp
        exact ⟨Al, cl, p110, he111.mem ⟨rfl, rfl, rfl, rfl, rfl, rfl, rfl, rfl, rfl, rfl, rfl, rfl, rfl, rfl, rfl, rfl, rfl, rfl, rfl, rfl, rfl, rfl, rfl, rfl, rfl, rfl, rfl, rfl, rfl, rfl, rfl, rfl, rfl, rfl, rfl, rfl, rfl, rfl, rfl, rfl, rfl, rfl, rfl, rfl, rfl, rfl, rfl, rfl, rfl, rfl, rfl, rfl, rfl, rfl, rfl, rfl, rfl, rfl, rfl, rfl, rfl, rfl, rfl, rfl, rfl, rfl, rfl, rfl, rfl, rfl, rfl, rfl, rfl, rfl, rfl, trivial⟩, hH110, hD⟩
      · skip
        refine kNewP (i := 68) (fun p => .slice (some ⟨p, 0, none⟩) 2 2) he106 hH99 rfl rfl rfl (he106.want rfl rfl rfl rfl rfl) (rn_bsL2 rfl (he106.op rfl) (he106.op rfl) w99) ?_
        intro p112 w112 a113 hp hn hH112 he113
        replace hD := hD.cons hn hp (hH112.at (i := 0) rfl).lt
        refine ⟨(hH112.drop1 0 rfl), ?_⟩
        clear he106 a106 hH99 hn hp
        refine kC (i := 65) he113 rfl rfl rfl Tryd.func23 (by kernel_rfl) rfl rfl (he113.want rfl rfl rfl rfl rfl) rfl (lines_b _ ps 3 1 [([tc 121], false), ([tc 120], false)] w112 (hD.get (i := 0) rfl).choose_spec hD.tab) ?_
        rintro _ w114 ⟨Al, cl, rfl, ht⟩
        have hD2 := hD.made ht
        have hH114 := hH112.call ht.new
        clear hD
        have hD := hD2
        clear hD2 ht
        refine ⟨_, rfl, ?_⟩
        intro a115 he115
        clear he113 a113 hH112
        refine ⟨(hH114.drop1 0 rfl), ?_⟩
        exact ⟨Al, cl, p112, he115.mem ⟨rfl, rfl, rfl, rfl, rfl, rfl, rfl, rfl, rfl, rfl, rfl, rfl, rfl, rfl, rfl, rfl, rfl, rfl, rfl, rfl, rfl, rfl, rfl, rfl, rfl, rfl, rfl, rfl, rfl, rfl, rfl, rfl, rfl, rfl, rfl, rfl, rfl, rfl, rfl, rfl, rfl, rfl, rfl, rfl, rfl, rfl, rfl, rfl, rfl, rfl, rfl, rfl, rfl, rfl, rfl, rfl, rfl, rfl, rfl, rfl, rfl, rfl, rfl, rfl, rfl, rfl, rfl, rfl, rfl, rfl, rfl, rfl, rfl, rfl, rfl, trivial⟩, hH114, hD⟩
      · skip
        clear he106 hH99 hD
        rintro a107 w107 ⟨Al, cl, q107, he107, hH107, hD⟩
        have hq_ : LnsR w107 (.slice (some ⟨q107, 0, none⟩) 2 2) [([tc 121], false), ([tc 120], false)] := lns_two (xa := ⟨Ay, 1, cy, false⟩) (xb := ⟨Ax, 1, cx, false⟩) (hH107.at (i := 0) rfl) rfl rfl (cells_sl (hD.get (i := 3) rfl).choose_spec) (cells_sl (hD.get (i := 4) rfl).choose_spec)
        refine hC (fuel := 2) (i := 69) he107 (by kernel_rfl) rfl rfl rfl Tryd.func27 (by kernel_rfl) rfl rfl (he107.want rfl rfl rfl rfl rfl) rfl (all_b _ _ [([tc 121], false), ([tc 120], false)] [([tc 121], false), ([tc 120], false)] true (by simp) (by simp) (by simp) (by simp) (by simp) w107 (lines_lns (hD.get (i := 0) rfl).choose_spec).r hq_) ?_
        rintro _ w116 ⟨rfl, hn⟩
        have hH116 := hH107.call hn
        replace hD := (hD).new hn
        refine ⟨_, rfl, (hH116.drop1 0 rfl), ?_⟩
        intro a117 he117
        clear he107 a107 hH107 hn
        clear hq_
        replace hD := hD.drop
        refine hV (fuel := 1) (i := 70) (Value.bool false) he117 rfl rfl rfl (by kernel_rfl) (by kernel_rfl) (by kernel_rfl) (fun _ _ _ h => h) (he117.want rfl rfl rfl rfl rfl) (fun w' _ => rn_not (b := true) rfl (he117.op rfl) w') (hH116.drop1 0 rfl) ?_
        intro a118 he118
        clear he117 a117
        refine hV (fuel := 0) (i := 71) (Value.bool false) he118 rfl rfl rfl (by kernel_rfl) (by kernel_rfl) (by kernel_rfl) (fun _ _ _ h => h) (wanted_plain rfl _) (fun w' _ => rn_pk0 rfl (he118.op rfl) (he118.op rfl) w') (hH116.drop1 0 rfl) ?_
        intro a119 he119
        clear he118 a118
        refine wpAnyH_done (by kernel_rfl) ?_ _
        refine then_ok ?_
        refine wp_cond_false (he119.op rfl) ?_
        refine wp_skip ?_
        refine then_ok ?_
        have he120 : Env 156 [(5, Value.int .i64 0), (4, Value.pointer (some ⟨ps, 0, none⟩)), (3, Value.pointer (some ⟨p12, 0, none⟩)), (2, Value.pointer (some ⟨p10, 0, none⟩)), (1, Value.pointer (some ⟨p8, 0, none⟩)), (0, Value.bool false)] a119 := he119.mem ⟨rfl, rfl, rfl, rfl, rfl, rfl, trivial⟩
        clear he119
        as_aux_lemma =>
          have hH121 := hH116.tail rfl
          clear hH116
          replace hD := hD.tail
          refine wp_seq ?_
          refine wp_region_lit ?_
          refine lV (Ce.v zeroCe) he120 rfl rfl (wanted_plain rfl _) (rn_bC0 rfl w116) ?_
          intro a122 he122
          clear he120 a119
          refine lNewP (fun p => .slice (some ⟨p, 0, none⟩) 1 1) he122 hH121 rfl rfl (wanted_plain rfl _) (rn_bs1 rfl (he122.op rfl) w116) ?_
          intro p123 w123 a124 hp hn hH123 he124
          replace hD := hD.cons hn hp (hH123.at (i := 0) rfl).lt
          clear he122 a122 hH121 hn hp
          refine lV (Value.agg #[Value.slice (some ⟨p123, 0, none⟩) 1 1, Value.bool false]) he124 rfl rfl (wanted_plain rfl _) (rn_bL0 rfl (he124.op rfl) w123) ?_
          intro a125 he125
          clear he124 a124
          refine lNewP (fun p => .pointer (some ⟨p, 0, none⟩)) he125 hH123 rfl rfl (wanted_plain rfl _) (rn_allocL rfl w123) ?_
          intro p126 w126 a127 hp hn hH126 he127
          replace hD := hD.cons hn hp (hH126.at (i := 0) rfl).lt
          clear he125 a125 hH123 hn hp
          refine lSetF 0 #[Value.slice (some ⟨p123, 0, none⟩) 1 1, Value.bool false] (cs := #[Value.slice (some ⟨p123, 0, none⟩) 1 1, Value.bool false]) he127 hH126 rfl (wanted_plain rfl _) rfl rfl rfl rfl rfl (by kernel_rfl) (by kernel_rfl) (by kernel_rfl) rfl ?_
          intro w128 a129 hH128 hf he129
          replace hD := hD.setb (i := 0) rfl rfl hf
          replace hH128 : Hp w [⟨p126, 35, #[Value.slice (some ⟨p123, 0, none⟩) 1 1, Value.bool false]⟩, ⟨p123, 71, (Ce.cs zeroCe)⟩, ⟨p12, 35, #[Value.slice Az 1 cz, Value.bool false]⟩, ⟨p10, 35, #[Value.slice Ay 1 cy, Value.bool false]⟩, ⟨p8, 35, #[Value.slice Ax 1 cx, Value.bool false]⟩] w128 := hH128
          clear hf
          clear he127 a127 hH126
          refine wpList_nil ?_
          refine then_ok ?_
          have he130 : Env 156 [(6, Value.pointer (some ⟨p126, 0, none⟩)), (5, Value.int .i64 0), (4, Value.pointer (some ⟨ps, 0, none⟩)), (3, Value.pointer (some ⟨p12, 0, none⟩)), (2, Value.pointer (some ⟨p10, 0, none⟩)), (1, Value.pointer (some ⟨p8, 0, none⟩)), (0, Value.bool false)] a129 := he129.mem ⟨rfl, rfl, rfl, rfl, rfl, rfl, rfl, trivial⟩
          clear he129
          as_aux_lemma =>
            refine wp_seq ?_
            refine wp_seq ?_
            refine wp_region_held_drew (S := Hp w [⟨p126, 35, #[Value.slice (some ⟨p123, 0, none⟩) 1 1, Value.bool false]⟩, ⟨p123, 71, (Ce.cs zeroCe)⟩, ⟨p12, 35, #[Value.slice Az 1 cz, Value.bool false]⟩, ⟨p10, 35, #[Value.slice Ay 1 cy, Value.bool false]⟩, ⟨p8, 35, #[Value.slice Ax 1 cx, Value.bool false]⟩]) (by kernel_rfl) (hH128.drew) (fun _ => ?_)
            have hn : New w128 (World.drew w128) := (Fr.refl _ _).drew
            replace hD := (hD).new hn
            clear hn
            have hH131 := hH128.drew
            clear hH128
            generalize World.drew w128 = w131 at *
            refine hC (fuel := 43) (i := 0) he130 (by kernel_rfl) rfl rfl rfl Tryd.func7 (by kernel_rfl) rfl rfl (wanted_plain rfl _) rfl (none_b 0 (by decide) w131) ?_
            rintro _ w132 ⟨rfl, hn⟩
            have hH132 := hH131.call hn
            replace hD := (hD).new hn
            refine ⟨_, rfl, hH132, ?_⟩
            intro a133 he133
            clear he130 a129 hH131 hn
            refine hV (fuel := 42) (i := 1) (Value.bool false) he133 rfl rfl rfl (by kernel_rfl) (by kernel_rfl) (by kernel_rfl) (fun _ _ _ h => h) (wanted_plain rfl _) (fun w' _ => rn_not (b := true) rfl (he133.op rfl) w') hH132 ?_
            intro a134 he134
            clear he133 a133
            refine hV (fuel := 41) (i := 2) (Value.bool false) he134 rfl rfl rfl (by kernel_rfl) (by kernel_rfl) (by kernel_rfl) (fun _ _ _ h => h) (wanted_plain rfl _) (fun w' _ => rn_mv rfl (he134.op rfl) w') hH132 ?_
            intro a135 he135
            clear he134 a134
            refine hC (fuel := 40) (i := 3) he135 (by kernel_rfl) rfl rfl rfl Tryd.func7 (by kernel_rfl) rfl rfl (he135.want rfl rfl rfl rfl rfl) rfl (none_b 1025 (by decide) w132) ?_
            rintro _ w136 ⟨rfl, hn⟩
            have hH136 := hH132.call hn
            replace hD := (hD).new hn
            refine ⟨_, rfl, hH136, ?_⟩
            intro a137 he137
            clear he135 a135 hH132 hn
            refine hV (fuel := 39) (i := 4) (Value.bool false) he137 rfl rfl rfl (by kernel_rfl) (by kernel_rfl) (by kernel_rfl) (fun _ _ _ h => h) (he137.want rfl rfl rfl rfl rfl) (fun w' _ => rn_not (b := true) rfl (he137.op rfl) w') hH136 ?_
            intro a138 he138
            clear he137 a137
            refine hV (fuel := 38) (i := 5) (Value.bool false) he138 rfl rfl rfl (by kernel_rfl) (by kernel_rfl) (by kernel_rfl) (fun _ _ _ h => h) (wanted_plain rfl _) (fun w' _ => rn_pk0 rfl (he138.op rfl) (he138.op rfl) w') hH136 ?_
            intro a139 he139
            clear he138 a138
            refine hV (fuel := 37) (i := 6) (Value.bool false) he139 rfl rfl rfl (by kernel_rfl) (by kernel_rfl) (by kernel_rfl) (fun _ _ _ h => h) (wanted_plain rfl _) (fun w' _ => rn_mv rfl (he139.op rfl) w') hH136 ?_
            intro a140 he140
            clear he139 a139
            refine hV (fuel := 36) (i := 7) (Value.pointer (some ⟨ps, 0, none⟩)) he140 rfl rfl rfl (by kernel_rfl) (by kernel_rfl) (by kernel_rfl) (fun _ _ _ h => h) (he140.want rfl rfl rfl rfl rfl) (fun w' _ => rn_mv rfl (he140.op rfl) w') hH136 ?_
            intro a141 he141
            clear he140 a140
            refine hV (fuel := 35) (i := 8) (Value.agg #[Value.slice none 0 0, Value.bool false]) he141 rfl rfl rfl (by kernel_rfl) (by kernel_rfl) (by kernel_rfl) (fun _ _ _ h => h) (he141.want rfl rfl rfl rfl rfl) (fun w' _ => rn_bL rfl  w') hH136 ?_
            intro a142 he142
            clear he141 a141
            obtain ⟨Fs_, hs_⟩ := hD.get (i := 0) rfl
            refine hC (fuel := 34) (i := 9) he142 (by kernel_rfl) rfl rfl rfl Tryd.func20 (by kernel_rfl) rfl rfl (he142.want rfl rfl rfl rfl rfl) rfl (gets_b Fs_ ps 3 1 [([tc 121], false), ([tc 120], false)] 2 _ [] false 3 true (by simp [getS]) w136 hs_ hD.tab (SlC.nil _) (by simp)) ?_
            rintro _ w143 ⟨rfl, hn⟩
            have hH143 := hH136.call hn
            replace hD := (hD).new hn
            refine ⟨_, rfl, hH143, ?_⟩
            intro a144 he144
            clear he142 a142 hH136 hn
            clear hs_ Fs_
            refine hV (fuel := 33) (i := 10) (Value.bool false) he144 rfl rfl rfl (by kernel_rfl) (by kernel_rfl) (by kernel_rfl) (fun _ _ _ h => h) (he144.want rfl rfl rfl rfl rfl) (fun w' _ => rn_not (b := true) rfl (he144.op rfl) w') hH143 ?_
            intro a145 he145
            clear he144 a144
            refine hV (fuel := 32) (i := 11) (Value.bool false) he145 rfl rfl rfl (by kernel_rfl) (by kernel_rfl) (by kernel_rfl) (fun _ _ _ h => h) (wanted_plain rfl _) (fun w' _ => rn_pk0 rfl (he145.op rfl) (he145.op rfl) w') hH143 ?_
            intro a146 he146
            clear he145 a145
            refine hV (fuel := 31) (i := 12) (Value.bool false) he146 rfl rfl rfl (by kernel_rfl) (by kernel_rfl) (by kernel_rfl) (fun _ _ _ h => h) (wanted_plain rfl _) (fun w' _ => rn_mv rfl (he146.op rfl) w') hH143 ?_
            intro a147 he147
            clear he146 a146
            refine hV (fuel := 30) (i := 13) (Value.pointer (some ⟨ps, 0, none⟩)) he147 rfl rfl rfl (by kernel_rfl) (by kernel_rfl) (by kernel_rfl) (fun _ _ _ h => h) (he147.want rfl rfl rfl rfl rfl) (fun w' _ => rn_mv rfl (he147.op rfl) w') hH143 ?_
            intro a148 he148
            clear he147 a147
            refine hV (fuel := 29) (i := 14) (Value.agg #[Value.slice none 0 0, Value.bool false]) he148 rfl rfl rfl (by kernel_rfl) (by kernel_rfl) (by kernel_rfl) (fun _ _ _ h => h) (he148.want rfl rfl rfl rfl rfl) (fun w' _ => rn_bL rfl  w') hH143 ?_
            intro a149 he149
            clear he148 a148
            obtain ⟨Fs_, hs_⟩ := hD.get (i := 0) rfl
            refine hC (fuel := 28) (i := 15) he149 (by kernel_rfl) rfl rfl rfl Tryd.func20 (by kernel_rfl) rfl rfl (he149.want rfl rfl rfl rfl rfl) rfl (gets_b Fs_ ps 3 1 [([tc 121], false), ([tc 120], false)] (-1) _ [] false 3 true (by simp [getS]) w143 hs_ hD.tab (SlC.nil _) (by simp)) ?_
            rintro _ w150 ⟨rfl, hn⟩
            have hH150 := hH143.call hn
            replace hD := (hD).new hn
            refine ⟨_, rfl, hH150, ?_⟩
            intro a151 he151
            clear he149 a149 hH143 hn
            clear hs_ Fs_
            refine hV (fuel := 27) (i := 16) (Value.bool false) he151 rfl rfl rfl (by kernel_rfl) (by kernel_rfl) (by kernel_rfl) (fun _ _ _ h => h) (he151.want rfl rfl rfl rfl rfl) (fun w' _ => rn_not (b := true) rfl (he151.op rfl) w') hH150 ?_
            intro a152 he152
            clear he151 a151
            refine hV (fuel := 26) (i := 17) (Value.bool false) he152 rfl rfl rfl (by kernel_rfl) (by kernel_rfl) (by kernel_rfl) (fun _ _ _ h => h) (wanted_plain rfl _) (fun w' _ => rn_pk0 rfl (he152.op rfl) (he152.op rfl) w') hH150 ?_
            intro a153 he153
            clear he152 a152
            refine hV (fuel := 25) (i := 18) (Value.bool false) he153 rfl rfl rfl (by kernel_rfl) (by kernel_rfl) (by kernel_rfl) (fun _ _ _ h => h) (wanted_plain rfl _) (fun w' _ => rn_mv rfl (he153.op rfl) w') hH150 ?_
            intro a154 he154
            clear he153 a153
            refine hV (fuel := 24) (i := 19) (Value.pointer (some ⟨ps, 0, none⟩)) he154 rfl rfl rfl (by kernel_rfl) (by kernel_rfl) (by kernel_rfl) (fun _ _ _ h => h) (he154.want rfl rfl rfl rfl rfl) (fun w' _ => rn_mv rfl (he154.op rfl) w') hH150 ?_
            intro a155 he155
            clear he154 a154
            have hps : dropS [([tc 121], false), ([tc 120], false)] 1 3 = ([([tc 121], false), ([tc 120], false)], 1, 3) := by simp [dropS]
            obtain ⟨F_, hsep, hF, hstep⟩ := Dt.step (A := [shD ps [([tc 121], false), ([tc 120], false)] 3 1]) (D := [cellsD (.slice Az 1 cz) [tc 122], cellsD (.slice Ay 1 cy) [tc 121], cellsD (.slice Ax 1 cx) [tc 120]]) hD
            refine hC (fuel := 23) (i := 20) he155 (by kernel_rfl) rfl rfl rfl Tryd.func16 (by kernel_rfl) rfl rfl (he155.want rfl rfl rfl rfl rfl) rfl ((hps ▸ drop_b F_ ps 3 1 [([tc 121], false), ([tc 120], false)] 3 w150 hsep.the hF hD.tab)) ?_
            rintro _ w156 ⟨rfl, ht⟩
            obtain ⟨hD2, hHs⟩ := hstep _ _ ht
            have hH156 := hHs _ rfl hH150
            clear hHs hstep hsep hF
            clear hD
            have hD := hD2
            clear hD2 ht
            refine ⟨_, rfl, hH156, ?_⟩
            intro a157 he157
            clear he155 a155 hH150
            clear hps
            refine hV (fuel := 22) (i := 21) (Value.bool false) he157 rfl rfl rfl (by kernel_rfl) (by kernel_rfl) (by kernel_rfl) (fun _ _ _ h => h) (he157.want rfl rfl rfl rfl rfl) (fun w' _ => rn_neE rfl (he157.op rfl) (he157.op rfl) (by simp) w') hH156 ?_
            intro a158 he158
            clear he157 a157
            refine hV (fuel := 21) (i := 22) (Value.bool false) he158 rfl rfl rfl (by kernel_rfl) (by kernel_rfl) (by kernel_rfl) (fun _ _ _ h => h) (wanted_plain rfl _) (fun w' _ => rn_pk0 rfl (he158.op rfl) (he158.op rfl) w') hH156 ?_
            intro a159 he159
            clear he158 a158
            refine hV (fuel := 20) (i := 23) (Value.bool false) he159 rfl rfl rfl (by kernel_rfl) (by kernel_rfl) (by kernel_rfl) (fun _ _ _ h => h) (wanted_plain rfl _) (fun w' _ => rn_mv rfl (he159.op rfl) w') hH156 ?_
            intro a160 he160
            clear he159 a159
            refine hV (fuel := 19) (i := 24) (Value.pointer (some ⟨ps, 0, none⟩)) he160 rfl rfl rfl (by kernel_rfl) (by kernel_rfl) (by kernel_rfl) (fun _ _ _ h => h) (he160.want rfl rfl rfl rfl rfl) (fun w' _ => rn_mv rfl (he160.op rfl) w') hH156 ?_
            intro a161 he161
            clear he160 a160
            refine hV (fuel := 18) (i := 25) (Value.agg #[Value.slice Az 1 cz, Value.bool false]) he161 rfl rfl rfl (by kernel_rfl) (by kernel_rfl) (by kernel_rfl) (fun _ _ _ h => h) (he161.want rfl rfl rfl rfl rfl) (fun w' hw' => rn_ldp [Value.slice Az 1 cz, Value.bool false] rfl (he161.op rfl) undL rfl infoL2 (hw'.at (i := 2) rfl) rfl) hH156 ?_
            intro a162 he162
            clear he161 a161
            have hown := cells_sl (hD.get (i := 1) rfl).choose_spec
            have hps : setS [([tc 121], false), ([tc 120], false)] 1 ([tc 122], false) = ([([tc 121], false), ([tc 122], false)], 0) := by simp [setS, okz]
            obtain ⟨F_, hsep, hF, hstep⟩ := Dt.step (A := [shD ps [([tc 121], false), ([tc 120], false)] 3 1]) (D := [cellsD (.slice Az 1 cz) [tc 122], cellsD (.slice Ay 1 cy) [tc 121], cellsD (.slice Ax 1 cx) [tc 120]]) hD
            refine hC (fuel := 17) (i := 26) he162 (by kernel_rfl) rfl rfl rfl Tryd.func21 (by kernel_rfl) rfl rfl (he162.want rfl rfl rfl rfl rfl) rfl ((hps ▸ set_b F_ ps 3 1 [([tc 121], false), ([tc 120], false)] 1 _ ([tc 122], false).1 ([tc 122], false).2 w156 hsep.the hF hD.tab hown)) ?_
            rintro _ w163 ⟨rfl, ht⟩
            obtain ⟨hD2, hHs⟩ := hstep _ _ ht
            have hH163 := hHs _ rfl hH156
            clear hHs hstep hsep hF
            clear hD
            have hD := hD2
            clear hD2 ht
            refine ⟨_, rfl, hH163, ?_⟩
            intro a164 he164
            clear he162 a162 hH156
            clear hown hps
            refine hV (fuel := 16) (i := 27) (Value.bool false) he164 rfl rfl rfl (by kernel_rfl) (by kernel_rfl) (by kernel_rfl) (fun _ _ _ h => h) (he164.want rfl rfl rfl rfl rfl) (fun w' _ => rn_neE rfl (he164.op rfl) (he164.op rfl) (by simp) w') hH163 ?_
            intro a165 he165
            clear he164 a164
            refine hV (fuel := 15) (i := 28) (Value.bool false) he165 rfl rfl rfl (by kernel_rfl) (by kernel_rfl) (by kernel_rfl) (fun _ _ _ h => h) (wanted_plain rfl _) (fun w' _ => rn_pk0 rfl (he165.op rfl) (he165.op rfl) w') hH163 ?_
            intro a166 he166
            clear he165 a165
            refine hV (fuel := 14) (i := 29) (Value.bool false) he166 rfl rfl rfl (by kernel_rfl) (by kernel_rfl) (by kernel_rfl) (fun _ _ _ h => h) (wanted_plain rfl _) (fun w' _ => rn_mv rfl (he166.op rfl) w') hH163 ?_
            intro a167 he167
            clear he166 a166
            refine hV (fuel := 13) (i := 30) (Value.pointer (some ⟨ps, 0, none⟩)) he167 rfl rfl rfl (by kernel_rfl) (by kernel_rfl) (by kernel_rfl) (fun _ _ _ h => h) (he167.want rfl rfl rfl rfl rfl) (fun w' _ => rn_mv rfl (he167.op rfl) w') hH163 ?_
            intro a168 he168
            clear he167 a167
            refine hV (fuel := 12) (i := 32) (Value.agg #[Value.slice Ay 1 cy, Value.bool false]) he168 rfl rfl rfl (by kernel_rfl) (by kernel_rfl) (by kernel_rfl) (fun _ _ _ h => h) (he168.want rfl rfl rfl rfl rfl) (fun w' hw' => rn_ldp [Value.slice Ay 1 cy, Value.bool false] rfl (he168.op rfl) undL rfl infoL2 (hw'.at (i := 3) rfl) rfl) hH163 ?_
            intro a169 he169
            clear he168 a168
            refine hV (fuel := 11) (i := 33) (Value.agg #[Value.slice Az 1 cz, Value.bool false]) he169 rfl rfl rfl (by kernel_rfl) (by kernel_rfl) (by kernel_rfl) (fun _ _ _ h => h) (he169.want rfl rfl rfl rfl rfl) (fun w' hw' => rn_ldp [Value.slice Az 1 cz, Value.bool false] rfl (he169.op rfl) undL rfl infoL2 (hw'.at (i := 2) rfl) rfl) hH163 ?_
            intro a170 he170
            clear he169 a169
            obtain ⟨Fs_, hs_⟩ := hD.get (i := 0) rfl
            refine hPair (fuel := 9) (i := 31) (j := 34) (fun aI wI => ∃ (A_ : Option Addr) (c_ q_ : Nat), Env 156 [(123, Value.slice (some ⟨q_, 0, none⟩) 2 2), (120, Value.slice A_ 2 c_), (122, Value.agg #[Value.slice Az 1 cz, Value.bool false]), (121, Value.agg #[Value.slice Ay 1 cy, Value.bool false]), (119, Value.pointer (some ⟨ps, 0, none⟩)), (118, Value.bool false), (117, Value.bool false), (116, Value.bool false), (115, Value.int .i64 0), (114, Value.agg #[Value.slice Az 1 cz, Value.bool false]), (113, Value.pointer (some ⟨ps, 0, none⟩)), (112, Value.bool false), (111, Value.bool false), (110, Value.bool false), (109, Value.int .i64 3), (108, Value.pointer (some ⟨ps, 0, none⟩)), (107, Value.bool false), (106, Value.bool false), (105, Value.bool false), (104, Value.bool true), (103, Value.agg #[Value.slice none 0 0, Value.bool false]), (102, Value.pointer (some ⟨ps, 0, none⟩)), (101, Value.bool false), (100, Value.bool false), (99, Value.bool false), (98, Value.bool true), (97, Value.agg #[Value.slice none 0 0, Value.bool false]), (96, Value.pointer (some ⟨ps, 0, none⟩)), (95, Value.bool false), (94, Value.bool false), (93, Value.bool false), (92, Value.bool true), (91, Value.bool false), (90, Value.bool false), (89, Value.bool true), (6, Value.pointer (some ⟨p126, 0, none⟩)), (5, Value.int .i64 0), (4, Value.pointer (some ⟨ps, 0, none⟩)), (3, Value.pointer (some ⟨p12, 0, none⟩)), (2, Value.pointer (some ⟨p10, 0, none⟩)), (1, Value.pointer (some ⟨p8, 0, none⟩)), (0, Value.bool false)] aI ∧ Hp w [⟨q_, 35, #[Value.slice Ay 1 cy, Value.bool false, Value.slice Az 1 cz, Value.bool false]⟩, ⟨p126, 35, #[Value.slice (some ⟨p123, 0, none⟩) 1 1, Value.bool false]⟩, ⟨p123, 71, (Ce.cs zeroCe)⟩, ⟨p12, 35, #[Value.slice Az 1 cz, Value.bool false]⟩, ⟨p10, 35, #[Value.slice Ay 1 cy, Value.bool false]⟩, ⟨p8, 35, #[Value.slice Ax 1 cx, Value.bool false]⟩] wI ∧ Dt w w (fun _ => False) 0 [q_, p126, p123, p12, p10, p8] [linesD (.slice A_ 2 c_) [([tc 121], false), ([tc 122], false)], shD ps [([tc 121], false), ([tc 122], false)] 3 1, cellsD (.slice Az 1 cz) [tc 122], cellsD (.slice Ay 1 cy) [tc 121], cellsD (.slice Ax 1 cx) [tc 120]] wI) (by decide) (by kernel_rfl) (by kernel_rfl) (by kernel_rfl) ?_ ?_ ?_
            · skip
              refine kC (i := 31) he170 rfl rfl rfl Tryd.func23 (by kernel_rfl) rfl rfl (he170.want rfl rfl rfl rfl rfl) rfl (lines_b _ ps 3 1 [([tc 121], false), ([tc 122], false)] w163 (hD.get (i := 0) rfl).choose_spec hD.tab) ?_
              rintro _ w172 ⟨Am, cm, rfl, ht⟩
              have hD2 := hD.made ht
              have hH172 := hH163.call ht.new
              clear hD
              have hD := hD2
              clear hD2 ht
              refine ⟨_, rfl, ?_⟩
              intro a173 he173
              clear he170 a170 hH163
              refine ⟨hH172, ?_⟩
              refine kNewP (i := 34) (fun p => .slice (some ⟨p, 0, none⟩) 2 2) he173 hH172 rfl rfl rfl (he173.want rfl rfl rfl rfl rfl) (rn_bsL2 rfl (he173.op rfl) (he173.op rfl) w172) ?_
              intro p174 w174 a175 hp hn hH174 he175
              replace hD := hD.cons hn hp (hH174.at (i := 0) rfl).lt
              refine ⟨(hH174.drop1 0 rfl), ?_⟩
              clear he173 a173 hH172 hn hp
              exact ⟨Am, cm, p174, he175.mem ⟨rfl, rfl, rfl, rfl, rfl, rfl, rfl, rfl, rfl, rfl, rfl, rfl, rfl, rfl, rfl, rfl, rfl, rfl, rfl, rfl, rfl, rfl, rfl, rfl, rfl, rfl, rfl, rfl, rfl, rfl, rfl, rfl, rfl, rfl, rfl, rfl, rfl, rfl, rfl, rfl, rfl, rfl, trivial⟩, hH174, hD⟩
            · skip
              refine kNewP (i := 34) (fun p => .slice (some ⟨p, 0, none⟩) 2 2) he170 hH163 rfl rfl rfl (he170.want rfl rfl rfl rfl rfl) (rn_bsL2 rfl (he170.op rfl) (he170.op rfl) w163) ?_
              intro p176 w176 a177 hp hn hH176 he177
              replace hD := hD.cons hn hp (hH176.at (i := 0) rfl).lt
              refine ⟨(hH176.drop1 0 rfl), ?_⟩
              clear he170 a170 hH163 hn hp
              refine kC (i := 31) he177 rfl rfl rfl Tryd.func23 (by kernel_rfl) rfl rfl (he177.want rfl rfl rfl rfl rfl) rfl (lines_b _ ps 3 1 [([tc 121], false), ([tc 122], false)] w176 (hD.get (i := 0) rfl).choose_spec hD.tab) ?_
              rintro _ w178 ⟨Am, cm, rfl, ht⟩
              have hD2 := hD.made ht
              have hH178 := hH176.call ht.new
              clear hD
              have hD := hD2
              clear hD2 ht
              refine ⟨_, rfl, ?_⟩
              intro a179 he179
              clear he177 a177 hH176
              refine ⟨(hH178.drop1 0 rfl), ?_⟩
              exact ⟨Am, cm, p176, he179.mem ⟨rfl, rfl, rfl, rfl, rfl, rfl, rfl, rfl, rfl, rfl, rfl, rfl, rfl, rfl, rfl, rfl, rfl, rfl, rfl, rfl, rfl, rfl, rfl, rfl, rfl, rfl, rfl, rfl, rfl, rfl, rfl, rfl, rfl, rfl, rfl, rfl, rfl, rfl, rfl, rfl, rfl, rfl, trivial⟩, hH178, hD⟩
            · skip
              clear he170 hH163 hD
              rintro a171 w171 ⟨Am, cm, q171, he171, hH171, hD⟩
              have hq_ : LnsR w171 (.slice (some ⟨q171, 0, none⟩) 2 2) [([tc 121], false), ([tc 122], false)] := lns_two (xa := ⟨Ay, 1, cy, false⟩) (xb := ⟨Az, 1, cz, false⟩) (hH171.at (i := 0) rfl) rfl rfl (cells_sl (hD.get (i := 3) rfl).choose_spec) (cells_sl (hD.get (i := 2) rfl).choose_spec)
              refine hC (fuel := 8) (i := 35) he171 (by kernel_rfl) rfl rfl rfl Tryd.func27 (by kernel_rfl) rfl rfl (he171.want rfl rfl rfl rfl rfl) rfl (all_b _ _ [([tc 121], false), ([tc 122], false)] [([tc 121], false), ([tc 122], false)] true (by simp) (by simp) (by simp) (by simp) (by simp) w171 (lines_lns (hD.get (i := 0) rfl).choose_spec).r hq_) ?_
              rintro _ w180 ⟨rfl, hn⟩
              have hH180 := hH171.call hn
              replace hD := (hD).new hn
              refine ⟨_, rfl, (hH180.drop1 0 rfl), ?_⟩
              intro a181 he181
              clear he171 a171 hH171 hn
              clear hq_
              replace hD := hD.drop
              refine hV (fuel := 7) (i := 36) (Value.bool false) he181 rfl rfl rfl (by kernel_rfl) (by kernel_rfl) (by kernel_rfl) (fun _ _ _ h => h) (he181.want rfl rfl rfl rfl rfl) (fun w' _ => rn_not (b := true) rfl (he181.op rfl) w') (hH180.drop1 0 rfl) ?_
              intro a182 he182
              clear he181 a181
              refine hV (fuel := 6) (i := 37) (Value.bool false) he182 rfl rfl rfl (by kernel_rfl) (by kernel_rfl) (by kernel_rfl) (fun _ _ _ h => h) (wanted_plain rfl _) (fun w' _ => rn_pk0 rfl (he182.op rfl) (he182.op rfl) w') (hH180.drop1 0 rfl) ?_
              intro a183 he183
              clear he182 a182
              refine hV (fuel := 5) (i := 38) (Value.bool false) he183 rfl rfl rfl (by kernel_rfl) (by kernel_rfl) (by kernel_rfl) (fun _ _ _ h => h) (wanted_plain rfl _) (fun w' _ => rn_mv rfl (he183.op rfl) w') (hH180.drop1 0 rfl) ?_
              intro a184 he184
              clear he183 a183
              refine hV (fuel := 4) (i := 39) (Value.pointer (some ⟨ps, 0, none⟩)) he184 rfl rfl rfl (by kernel_rfl) (by kernel_rfl) (by kernel_rfl) (fun _ _ _ h => h) (he184.want rfl rfl rfl rfl rfl) (fun w' _ => rn_mv rfl (he184.op rfl) w') (hH180.drop1 0 rfl) ?_
              intro a185 he185
              clear he184 a184
              refine hV (fuel := 3) (i := 40) (Value.agg #[Value.slice (some ⟨p123, 0, none⟩) 1 1, Value.bool false]) he185 rfl rfl rfl (by kernel_rfl) (by kernel_rfl) (by kernel_rfl) (fun _ _ _ h => h) (he185.want rfl rfl rfl rfl rfl) (fun w' hw' => rn_ldp [Value.slice (some ⟨p123, 0, none⟩) 1 1, Value.bool false] rfl (he185.op rfl) undL rfl infoL2 (hw'.at (i := 0) rfl) rfl) (hH180.drop1 0 rfl) ?_
              intro a186 he186
              clear he185 a185
              have hown : SlC w180 (.slice (some ⟨p123, 0, none⟩) 1 1) [zeroCe] := SlC.mk (rdc_of (rdg_blk (R := rC) (l := [zeroCe]) (hH180.at (i := 2) rfl) rfl rfl)) (Nat.le_refl _)
              have hps : pushS [([tc 121], false), ([tc 122], false)] 3 1 ([zeroCe], false) = ([([tc 121], false), ([tc 122], false)], 2) := by simp [pushS, ok0]
              obtain ⟨F_, hsep, hF, hstep⟩ := Dt.step (A := [shD ps [([tc 121], false), ([tc 122], false)] 3 1]) (D := [cellsD (.slice Az 1 cz) [tc 122], cellsD (.slice Ay 1 cy) [tc 121], cellsD (.slice Ax 1 cx) [tc 120]]) hD
              refine hC (fuel := 2) (i := 41) he186 (by kernel_rfl) rfl rfl rfl Tryd.func13 (by kernel_rfl) rfl rfl (he186.want rfl rfl rfl rfl rfl) rfl ((hps ▸ push_b F_ ps 3 1 [([tc 121], false), ([tc 122], false)] _ [zeroCe] false w180 hsep.the hF hD.tab hown)) ?_
              rintro _ w187 ⟨rfl, ht⟩
              obtain ⟨hD2, hHs⟩ := hstep _ _ ht
              have hH187 := hHs _ rfl hH180
              clear hHs hstep hsep hF
              clear hD
              have hD := hD2
              clear hD2 ht
              refine ⟨_, rfl, (hH187.drop1 0 rfl), ?_⟩
              intro a188 he188
              clear he186 a186 hH180
              clear hown hps
              refine hV (fuel := 1) (i := 42) (Value.bool false) he188 rfl rfl rfl (by kernel_rfl) (by kernel_rfl) (by kernel_rfl) (fun _ _ _ h => h) (he188.want rfl rfl rfl rfl rfl) (fun w' _ => rn_neE rfl (he188.op rfl) (he188.op rfl) (by simp) w') (hH187.drop1 0 rfl) ?_
              intro a189 he189
              clear he188 a188
              refine hV (fuel := 0) (i := 43) (Value.bool false) he189 rfl rfl rfl (by kernel_rfl) (by kernel_rfl) (by kernel_rfl) (fun _ _ _ h => h) (wanted_plain rfl _) (fun w' _ => rn_pk0 rfl (he189.op rfl) (he189.op rfl) w') (hH187.drop1 0 rfl) ?_
              intro a190 he190
              clear he189 a189
              refine wpAnyH_done (by kernel_rfl) ?_ _
              refine then_ok ?_
              refine wp_cond_false (he190.op rfl) ?_
              refine wp_skip ?_
              refine then_ok ?_
              have he191 : Env 156 [(6, Value.pointer (some ⟨p126, 0, none⟩)), (5, Value.int .i64 0), (4, Value.pointer (some ⟨ps, 0, none⟩)), (3, Value.pointer (some ⟨p12, 0, none⟩)), (2, Value.pointer (some ⟨p10, 0, none⟩)), (1, Value.pointer (some ⟨p8, 0, none⟩)), (0, Value.bool false)] a190 := he190.mem ⟨rfl, rfl, rfl, rfl, rfl, rfl, rfl, trivial⟩
              clear he190
              as_aux_lemma =>
                refine wp_seq ?_
                refine wp_region_lit ?_
                refine lV (Value.pointer (some ⟨ps, 0, none⟩)) he191 rfl rfl (wanted_plain rfl _) (rn_mv rfl (he191.op rfl) w187) ?_
                intro a192 he192
                clear he191 a190
                have hps : dropS [([tc 121], false), ([tc 122], false)] 1 2 = ([], 3, 0) := by simp [dropS]
                obtain ⟨F_, hsep, hF, hstep⟩ := Dt.step (A := [shD ps [([tc 121], false), ([tc 122], false)] 3 1]) (D := [cellsD (.slice Az 1 cz) [tc 122], cellsD (.slice Ay 1 cy) [tc 121], cellsD (.slice Ax 1 cx) [tc 120]]) hD
                refine lCx he192 rfl rfl Tryd.func16 (by kernel_rfl) rfl rfl (wanted_plain rfl _) rfl ((hps ▸ drop_b F_ ps 3 1 [([tc 121], false), ([tc 122], false)] 2 w187 hsep.the hF hD.tab)) ?_
                rintro _ w193 ⟨rfl, ht⟩
                obtain ⟨hD2, hHs⟩ := hstep _ _ ht
                have hH193 := hHs _ rfl hH187
                clear hHs hstep hsep hF
                clear hD
                have hD := hD2
                clear hD2 ht
                refine ⟨_, rfl, ?_⟩
                intro a194 he194
                clear he192 a192 hH187
                clear hps
                refine lV (Value.bool true) he194 rfl rfl (wanted_plain rfl _) (rn_eqE rfl (he194.op rfl) (he194.op rfl) (by simp) w193) ?_
                intro a195 he195
                clear he194 a194
                refine lV (Value.bool true) he195 rfl rfl (wanted_plain rfl _) (rn_mv rfl (he195.op rfl) w193) ?_
                intro a196 he196
                clear he195 a195
                refine lV (Value.pointer (some ⟨ps, 0, none⟩)) he196 rfl rfl (he196.want rfl rfl rfl rfl rfl) (rn_mv rfl (he196.op rfl) w193) ?_
                intro a197 he197
                clear he196 a196
                obtain ⟨Fs_, hs_⟩ := hD.get (i := 0) rfl
                refine lC he197 rfl rfl Tryd.func18 (by kernel_rfl) rfl rfl (he197.want rfl rfl rfl rfl rfl) rfl (lenS_b Fs_ ps 3 3 [] w193 hs_ hD.tab) ?_
                intro w198 a199 hn he199
                have hH198 := hH193.call hn
                replace hD := (hD).new hn
                clear he197 a197 hH193 hn
                clear hs_ Fs_
                refine lV (Value.bool true) he199 rfl rfl (he199.want rfl rfl rfl rfl rfl) (rn_eqI rfl (he199.op rfl) (he199.op rfl) (by simp) w198) ?_
                intro a200 he200
                clear he199 a199
                refine lV (Value.bool true) he200 rfl rfl (wanted_plain rfl _) (rn_pk rfl (he200.op rfl) (he200.op rfl) w198) ?_
                intro a201 he201
                clear he200 a200
                refine lV (Value.bool true) he201 rfl rfl (wanted_plain rfl _) (rn_mv rfl (he201.op rfl) w198) ?_
                intro a202 he202
                clear he201 a201
                refine lV (Value.pointer (some ⟨ps, 0, none⟩)) he202 rfl rfl (he202.want rfl rfl rfl rfl rfl) (rn_mv rfl (he202.op rfl) w198) ?_
                intro a203 he203
                clear he202 a202
                obtain ⟨Fs_, hs_⟩ := hD.get (i := 0) rfl
                refine lC he203 rfl rfl Tryd.func15 (by kernel_rfl) rfl rfl (he203.want rfl rfl rfl rfl rfl) rfl (room_b ps 3 3 [] Fs_ w198 hs_ hD.tab) ?_
                intro w204 a205 hn he205
                have hH204 := hH198.call hn
                replace hD := (hD).new hn
                clear he203 a203 hH198 hn
                clear hs_ Fs_
                refine lV (Value.bool true) he205 rfl rfl (he205.want rfl rfl rfl rfl rfl) (rn_eqI rfl (he205.op rfl) (he205.op rfl) (by simp) w204) ?_
                intro a206 he206
                clear he205 a205
                refine lV (Value.bool true) he206 rfl rfl (wanted_plain rfl _) (rn_pk rfl (he206.op rfl) (he206.op rfl) w204) ?_
                intro a207 he207
                clear he206 a206
                refine lV (Value.bool true) he207 rfl rfl (wanted_plain rfl _) (rn_mv rfl (he207.op rfl) w204) ?_
                intro a208 he208
                clear he207 a207
                refine lV (Value.pointer (some ⟨ps, 0, none⟩)) he208 rfl rfl (he208.want rfl rfl rfl rfl rfl) (rn_mv rfl (he208.op rfl) w204) ?_
                intro a209 he209
                clear he208 a208
                refine lV (Value.agg #[Value.slice none 0 0, Value.bool false]) he209 rfl rfl (he209.want rfl rfl rfl rfl rfl) (rn_bL rfl  w204) ?_
                intro a210 he210
                clear he209 a209
                have hps : (popS []).1 = [] := by simp [popS]
                obtain ⟨F_, hsep, hF, hstep⟩ := Dt.step (A := [shD ps [] 3 3]) (D := [cellsD (.slice Az 1 cz) [tc 122], cellsD (.slice Ay 1 cy) [tc 121], cellsD (.slice Ax 1 cx) [tc 120]]) hD
                refine lCx he210 rfl rfl Tryd.func17 (by kernel_rfl) rfl rfl (he210.want rfl rfl rfl rfl rfl) rfl ((hps ▸ pops_b F_ ps 3 3 [] _ [] false 9 true (by simp [popS]) w204 hsep.the hF hD.tab ⟨none, 0, 0, rfl, Nat.le_refl _, RdC.nil _ _ _, fun h => absurd h (by simp)⟩ (by simp))) ?_
                rintro _ w211 ⟨rfl, ht⟩
                obtain ⟨hD2, hHs⟩ := hstep _ _ ht
                have hH211 := hHs _ rfl hH204
                clear hHs hstep hsep hF
                clear hD
                have hD := hD2
                clear hD2 ht
                refine ⟨_, rfl, ?_⟩
                intro a212 he212
                clear he210 a210 hH204
                clear hps
                refine lV (Value.bool true) he212 rfl rfl (wanted_plain rfl _) (rn_pk rfl (he212.op rfl) (he212.op rfl) w211) ?_
                intro a213 he213
                clear he212 a212
                refine lV (Value.bool true) he213 rfl rfl (wanted_plain rfl _) (rn_mv rfl (he213.op rfl) w211) ?_
                intro a214 he214
                clear he213 a213
                refine lV (Value.pointer (some ⟨ps, 0, none⟩)) he214 rfl rfl (he214.want rfl rfl rfl rfl rfl) (rn_mv rfl (he214.op rfl) w211) ?_
                intro a215 he215
                clear he214 a214
                obtain ⟨Fs_, hs_⟩ := hD.get (i := 0) rfl
                refine lC he215 rfl rfl Tryd.func22 (by kernel_rfl) rfl rfl (he215.want rfl rfl rfl rfl rfl) rfl (capS_b Fs_ ps 3 3 [] w211 hs_ hD.tab) ?_
                intro w216 a217 hn he217
                have hH216 := hH211.call hn
                replace hD := (hD).new hn
                clear he215 a215 hH211 hn
                clear hs_ Fs_
                refine lV (Value.bool true) he217 rfl rfl (he217.want rfl rfl rfl rfl rfl) (rn_eqI rfl (he217.op rfl) (he217.op rfl) (by simp) w216) ?_
                intro a218 he218
                clear he217 a217
                refine lV (Value.bool true) he218 rfl rfl (wanted_plain rfl _) (rn_pk rfl (he218.op rfl) (he218.op rfl) w216) ?_
                intro a219 he219
                clear he218 a218
                refine lV (Value.bool true) he219 rfl rfl (wanted_plain rfl _) (rn_asg rfl (he219.op rfl) w216) ?_
                intro a220 he220
                clear he219 a219
                refine wpList_nil ?_
                refine then_ok ?_
                refine wp_ret ?_
                try simp only [Exit.then, Exit.inBlock]
                exact ret_env rfl he220 rfl ⟨rfl, hD.fr⟩
end Go.Proofs.YtjnghaoboopflaaDoor
