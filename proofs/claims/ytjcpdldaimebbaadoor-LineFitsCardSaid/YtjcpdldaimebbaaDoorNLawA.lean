/-
  LineLooks, LineFits, LinePuts.
-/
import Derived.Test.YtjcpdldaimebbaaDoorNStain
namespace Go.Proofs.YtjcpdldaimebbaaDoor
open Go.RowKit

set_option linter.unusedSimpArgs false in
set_option maxRecDepth 100000 in
set_option maxHeartbeats 1600000 in
theorem lineLooks_walk (x y : Value) (la lb : List Ce) (sa sb : Bool) (w : World) (hx : SlC w x la) (hy : SlC w y lb) (hT : Tab w) :
    Calls Tryd.prog 4 #[.agg #[x, .bool sa], .agg #[y, .bool sb]] w fun e w' => e = .returned (.bool true) ∧ Below w.heap.size w w' := by
  obtain ⟨A, ca, ba, e_, hca, ha⟩ := id hx
  subst e_
  obtain ⟨B, cb, bb, e_, hcb, hb⟩ := id hy
  subst e_
  refine calls_args (vl := [Value.agg #[Value.slice A la.length ca, Value.bool sa], Value.agg #[Value.slice B lb.length cb, Value.bool sb]]) 60 Tryd.func4 rfl Tryd.ntmps4 (by kernel_rfl) (fun a he => ?_)
  have he0 : Env 60 [(0, Value.agg #[Value.slice A la.length ca, Value.bool sa]), (1, Value.agg #[Value.slice B lb.length cb, Value.bool sb])] a := he
  clear he
  have hH := Hp.start w
  refine wp_seq ?_
  refine wp_region_lit ?_
  refine lNew (fun p => .pointer (some ⟨p, 0, none⟩)) he0 hH rfl rfl (wanted_plain rfl _) (rn_boxL rfl (he0.op rfl) w) ?_
  intro p1 w1 a2 hn hH1 he2
  clear he0 a hH hn
  refine lNew (fun p => .pointer (some ⟨p, 0, none⟩)) he2 hH1 rfl rfl (wanted_plain rfl _) (rn_boxL rfl (he2.op rfl) w1) ?_
  intro p3 w3 a4 hn hH3 he4
  clear he2 a2 hH1 hn
  refine lV (Value.bool false) he4 rfl rfl (wanted_plain rfl _) (rn_asg rfl (he4.op rfl) w3) ?_
  intro a5 he5
  clear he4 a4
  refine wpList_nil ?_
  refine then_ok ?_
  by_cases h1 : la.length ≤ 40
  · skip
    by_cases h2 : lb.length ≤ 40
    · skip
      refine wp_seq ?_
      refine wp_seq ?_
      refine wp_region_lit ?_
      refine lV (Value.agg #[Value.slice A la.length ca, Value.bool sa]) he5 rfl rfl (wanted_plain rfl _) (rn_ldp [Value.slice A la.length ca, Value.bool sa] rfl (he5.op rfl) undL rfl infoL2 (hH3.at (i := 1) rfl) rfl) ?_
      intro a6 he6
      clear he5 a5
      refine lC he6 rfl rfl Tryd.func19 (by kernel_rfl) rfl rfl (wanted_plain rfl _) rfl (small_s _ la sa true (decide_eq_true h1) w3 (hx.new hH3.new)) ?_
      intro w7 a8 hn he8
      have hH7 := hH3.call hn
      clear he6 a6 hH3 hn
      refine lV (Value.bool false) he8 rfl rfl (wanted_plain rfl _) (rn_not (b := true) rfl (he8.op rfl) w7) ?_
      intro a9 he9
      clear he8 a8
      refine lV (Value.bool false) he9 rfl rfl (wanted_plain rfl _) (rn_mv rfl (he9.op rfl) w7) ?_
      intro a10 he10
      clear he9 a9
      refine lV (Value.agg #[Value.slice B lb.length cb, Value.bool sb]) he10 rfl rfl (he10.want rfl rfl rfl rfl rfl) (rn_ldp [Value.slice B lb.length cb, Value.bool sb] rfl (he10.op rfl) undL rfl infoL2 (hH7.at (i := 0) rfl) rfl) ?_
      intro a11 he11
      clear he10 a10
      refine lC he11 rfl rfl Tryd.func19 (by kernel_rfl) rfl rfl (he11.want rfl rfl rfl rfl rfl) rfl (small_s _ lb sb true (decide_eq_true h2) w7 (hy.new hH7.new)) ?_
      intro w12 a13 hn he13
      have hH12 := hH7.call hn
      clear he11 a11 hH7 hn
      refine lV (Value.bool false) he13 rfl rfl (he13.want rfl rfl rfl rfl rfl) (rn_not (b := true) rfl (he13.op rfl) w12) ?_
      intro a14 he14
      clear he13 a13
      refine lV (Value.bool false) he14 rfl rfl (wanted_plain rfl _) (rn_pk0 rfl (he14.op rfl) (he14.op rfl) w12) ?_
      intro a15 he15
      clear he14 a14
      refine wpList_nil ?_
      refine then_ok ?_
      refine wp_cond_false (he15.op rfl) ?_
      refine wp_skip ?_
      refine then_ok ?_
      have he16 : Env 60 [(3, Value.pointer (some ⟨p3, 0, none⟩)), (2, Value.pointer (some ⟨p1, 0, none⟩)), (0, Value.agg #[Value.slice A la.length ca, Value.bool sa]), (1, Value.agg #[Value.slice B lb.length cb, Value.bool sb])] a15 := he15.mem ⟨rfl, rfl, rfl, rfl, trivial⟩
      clear he15
      as_aux_lemma =>
        obtain ⟨t, ht⟩ : ∃ t, runesBytes (textsC (la.take (usedN la))) = t := ⟨_, rfl⟩
        obtain ⟨q, hq⟩ : ∃ q, ((sa == sb) && decide (la = lb)) = q := ⟨_, rfl⟩
        refine wp_seq ?_
        refine wp_seq ?_
        refine wp_region_held_drew (S := Hp w [⟨p3, 27, #[Value.slice B lb.length cb, Value.bool sb]⟩, ⟨p1, 27, #[Value.slice A la.length ca, Value.bool sa]⟩]) (by kernel_rfl) (hH12.drew) (fun _ => ?_)
        have hn : New w12 (World.drew w12) := (Fr.refl _ _).drew
        clear hn
        have hH17 := hH12.drew
        clear hH12
        generalize World.drew w12 = w17 at *
        refine hV (fuel := 26) (i := 0) (Value.agg #[Value.slice A la.length ca, Value.bool sa]) he16 rfl rfl rfl (by kernel_rfl) (by kernel_rfl) (by kernel_rfl) (fun _ _ _ h => h) (wanted_plain rfl _) (fun w' hw' => rn_ldp [Value.slice A la.length ca, Value.bool sa] rfl (he16.op rfl) undL rfl infoL2 (hw'.at (i := 1) rfl) rfl) hH17 ?_
        intro a18 he18
        clear he16 a15
        refine hV (fuel := 25) (i := 2) (Value.agg #[Value.slice A la.length ca, Value.bool sa]) he18 rfl rfl rfl (by kernel_rfl) (by kernel_rfl) (by kernel_rfl) (fun _ _ _ h => h) (wanted_plain rfl _) (fun w' hw' => rn_ldp [Value.slice A la.length ca, Value.bool sa] rfl (he18.op rfl) undL rfl infoL2 (hw'.at (i := 1) rfl) rfl) hH17 ?_
        intro a19 he19
        clear he18 a18
        refine hC (fuel := 24) (i := 1) he19 (by kernel_rfl) rfl rfl rfl Tryd.func20 (by kernel_rfl) rfl rfl (wanted_plain rfl _) rfl (used_s _ la sa _ rfl (by omega) w17 (hx.new hH17.new)) ?_
        rintro _ w20 ⟨rfl, hn⟩
        have hH20 := hH17.call hn
        refine ⟨_, rfl, hH20, ?_⟩
        intro a21 he21
        clear he19 a19 hH17 hn
        refine hC (fuel := 23) (i := 3) he21 (by kernel_rfl) rfl rfl rfl Tryd.func21 (by kernel_rfl) rfl rfl (wanted_plain rfl _) rfl (rused_s _ la sa _ rfl (by omega) w20 (hx.new hH20.new)) ?_
        rintro _ w22 ⟨rfl, hn⟩
        have hH22 := hH20.call hn
        refine ⟨_, rfl, hH22, ?_⟩
        intro a23 he23
        clear he21 a21 hH20 hn
        refine hV (fuel := 22) (i := 4) (Value.bool false) he23 rfl rfl rfl (by kernel_rfl) (by kernel_rfl) (by kernel_rfl) (fun _ _ _ h => h) (wanted_plain rfl _) (fun w' _ => rn_neI rfl (he23.op rfl) (he23.op rfl) (by simp) w') hH22 ?_
        intro a24 he24
        clear he23 a23
        refine hV (fuel := 21) (i := 5) (Value.bool false) he24 rfl rfl rfl (by kernel_rfl) (by kernel_rfl) (by kernel_rfl) (fun _ _ _ h => h) (wanted_plain rfl _) (fun w' _ => rn_mv rfl (he24.op rfl) w') hH22 ?_
        intro a25 he25
        clear he24 a24
        refine hV (fuel := 20) (i := 6) (Value.agg #[Value.slice A la.length ca, Value.bool sa]) he25 rfl rfl rfl (by kernel_rfl) (by kernel_rfl) (by kernel_rfl) (fun _ _ _ h => h) (he25.want rfl rfl rfl rfl rfl) (fun w' hw' => rn_ldp [Value.slice A la.length ca, Value.bool sa] rfl (he25.op rfl) undL rfl infoL2 (hw'.at (i := 1) rfl) rfl) hH22 ?_
        intro a26 he26
        clear he25 a25
        refine hV (fuel := 19) (i := 8) (Value.agg #[Value.slice A la.length ca, Value.bool sa]) he26 rfl rfl rfl (by kernel_rfl) (by kernel_rfl) (by kernel_rfl) (fun _ _ _ h => h) (he26.want rfl rfl rfl rfl rfl) (fun w' hw' => rn_ldp [Value.slice A la.length ca, Value.bool sa] rfl (he26.op rfl) undL rfl infoL2 (hw'.at (i := 1) rfl) rfl) hH22 ?_
        intro a27 he27
        clear he26 a26
        refine hC (fuel := 18) (i := 7) he27 (by kernel_rfl) rfl rfl rfl Tryd.func22 (by kernel_rfl) rfl rfl (he27.want rfl rfl rfl rfl rfl) rfl (text_s _ la sa t ht (by omega) w22 (hx.new hH22.new)) ?_
        rintro _ w28 ⟨rfl, hn⟩
        have hH28 := hH22.call hn
        refine ⟨_, rfl, hH28, ?_⟩
        intro a29 he29
        clear he27 a27 hH22 hn
        refine hC (fuel := 17) (i := 9) he29 (by kernel_rfl) rfl rfl rfl Tryd.func23 (by kernel_rfl) rfl rfl (he29.want rfl rfl rfl rfl rfl) rfl (rtext_s _ la sa t ht (by omega) w28 (hx.new hH28.new)) ?_
        rintro _ w30 ⟨rfl, hn⟩
        have hH30 := hH28.call hn
        refine ⟨_, rfl, hH30, ?_⟩
        intro a31 he31
        clear he29 a29 hH28 hn
        refine hV (fuel := 16) (i := 10) (Value.bool false) he31 rfl rfl rfl (by kernel_rfl) (by kernel_rfl) (by kernel_rfl) (fun _ _ _ h => h) (he31.want rfl rfl rfl rfl rfl) (fun w' _ => rn_neq rfl (he31.op rfl) (he31.op rfl) w') hH30 ?_
        intro a32 he32
        clear he31 a31
        refine hV (fuel := 15) (i := 11) (Value.bool false) he32 rfl rfl rfl (by kernel_rfl) (by kernel_rfl) (by kernel_rfl) (fun _ _ _ h => h) (wanted_plain rfl _) (fun w' _ => rn_pk0 rfl (he32.op rfl) (he32.op rfl) w') hH30 ?_
        intro a33 he33
        clear he32 a32
        refine hV (fuel := 14) (i := 12) (Value.bool false) he33 rfl rfl rfl (by kernel_rfl) (by kernel_rfl) (by kernel_rfl) (fun _ _ _ h => h) (wanted_plain rfl _) (fun w' _ => rn_mv rfl (he33.op rfl) w') hH30 ?_
        intro a34 he34
        clear he33 a33
        refine hV (fuel := 13) (i := 13) (Value.agg #[Value.slice A la.length ca, Value.bool sa]) he34 rfl rfl rfl (by kernel_rfl) (by kernel_rfl) (by kernel_rfl) (fun _ _ _ h => h) (he34.want rfl rfl rfl rfl rfl) (fun w' hw' => rn_ldp [Value.slice A la.length ca, Value.bool sa] rfl (he34.op rfl) undL rfl infoL2 (hw'.at (i := 1) rfl) rfl) hH30 ?_
        intro a35 he35
        clear he34 a34
        refine hV (fuel := 12) (i := 14) (Value.agg #[Value.slice B lb.length cb, Value.bool sb]) he35 rfl rfl rfl (by kernel_rfl) (by kernel_rfl) (by kernel_rfl) (fun _ _ _ h => h) (he35.want rfl rfl rfl rfl rfl) (fun w' hw' => rn_ldp [Value.slice B lb.length cb, Value.bool sb] rfl (he35.op rfl) undL rfl infoL2 (hw'.at (i := 0) rfl) rfl) hH30 ?_
        intro a36 he36
        clear he35 a35
        refine hV (fuel := 11) (i := 16) (Value.agg #[Value.slice A la.length ca, Value.bool sa]) he36 rfl rfl rfl (by kernel_rfl) (by kernel_rfl) (by kernel_rfl) (fun _ _ _ h => h) (he36.want rfl rfl rfl rfl rfl) (fun w' hw' => rn_ldp [Value.slice A la.length ca, Value.bool sa] rfl (he36.op rfl) undL rfl infoL2 (hw'.at (i := 1) rfl) rfl) hH30 ?_
        intro a37 he37
        clear he36 a36
        refine hV (fuel := 10) (i := 17) (Value.agg #[Value.slice B lb.length cb, Value.bool sb]) he37 rfl rfl rfl (by kernel_rfl) (by kernel_rfl) (by kernel_rfl) (fun _ _ _ h => h) (he37.want rfl rfl rfl rfl rfl) (fun w' hw' => rn_ldp [Value.slice B lb.length cb, Value.bool sb] rfl (he37.op rfl) undL rfl infoL2 (hw'.at (i := 0) rfl) rfl) hH30 ?_
        intro a38 he38
        clear he37 a37
        refine hC (fuel := 9) (i := 15) he38 (by kernel_rfl) rfl rfl rfl Tryd.func24 (by kernel_rfl) rfl rfl (he38.want rfl rfl rfl rfl rfl) rfl (equal_s _ la sa _ lb sb q hq (by omega) (by omega) w30 (hx.new hH30.new) (hy.new hH30.new)) ?_
        rintro _ w39 ⟨rfl, hn⟩
        have hH39 := hH30.call hn
        refine ⟨_, rfl, hH39, ?_⟩
        intro a40 he40
        clear he38 a38 hH30 hn
        refine hC (fuel := 8) (i := 18) he40 (by kernel_rfl) rfl rfl rfl Tryd.func25 (by kernel_rfl) rfl rfl (he40.want rfl rfl rfl rfl rfl) rfl (same_s _ la sa _ lb sb q hq (by omega) (by omega) w39 (hx.new hH39.new) (hy.new hH39.new)) ?_
        rintro _ w41 ⟨rfl, hn⟩
        have hH41 := hH39.call hn
        refine ⟨_, rfl, hH41, ?_⟩
        intro a42 he42
        clear he40 a40 hH39 hn
        refine hV (fuel := 7) (i := 19) (Value.bool false) he42 rfl rfl rfl (by kernel_rfl) (by kernel_rfl) (by kernel_rfl) (fun _ _ _ h => h) (he42.want rfl rfl rfl rfl rfl) (fun w' _ => rn_neB rfl (he42.op rfl) (he42.op rfl) (by simp) w') hH41 ?_
        intro a43 he43
        clear he42 a42
        refine hV (fuel := 6) (i := 20) (Value.bool false) he43 rfl rfl rfl (by kernel_rfl) (by kernel_rfl) (by kernel_rfl) (fun _ _ _ h => h) (wanted_plain rfl _) (fun w' _ => rn_pk0 rfl (he43.op rfl) (he43.op rfl) w') hH41 ?_
        intro a44 he44
        clear he43 a43
        refine hV (fuel := 5) (i := 21) (Value.bool false) he44 rfl rfl rfl (by kernel_rfl) (by kernel_rfl) (by kernel_rfl) (fun _ _ _ h => h) (wanted_plain rfl _) (fun w' _ => rn_mv rfl (he44.op rfl) w') hH41 ?_
        intro a45 he45
        clear he44 a44
        refine hV (fuel := 4) (i := 22) (Value.agg #[Value.slice A la.length ca, Value.bool sa]) he45 rfl rfl rfl (by kernel_rfl) (by kernel_rfl) (by kernel_rfl) (fun _ _ _ h => h) (he45.want rfl rfl rfl rfl rfl) (fun w' hw' => rn_ldp [Value.slice A la.length ca, Value.bool sa] rfl (he45.op rfl) undL rfl infoL2 (hw'.at (i := 1) rfl) rfl) hH41 ?_
        intro a46 he46
        clear he45 a45
        refine hV (fuel := 3) (i := 23) (Value.agg #[Value.slice A la.length ca, Value.bool sa]) he46 rfl rfl rfl (by kernel_rfl) (by kernel_rfl) (by kernel_rfl) (fun _ _ _ h => h) (he46.want rfl rfl rfl rfl rfl) (fun w' hw' => rn_ldp [Value.slice A la.length ca, Value.bool sa] rfl (he46.op rfl) undL rfl infoL2 (hw'.at (i := 1) rfl) rfl) hH41 ?_
        intro a47 he47
        clear he46 a46
        refine hC (fuel := 2) (i := 24) he47 (by kernel_rfl) rfl rfl rfl Tryd.func24 (by kernel_rfl) rfl rfl (he47.want rfl rfl rfl rfl rfl) rfl (equal_s _ la sa _ la sa true (by simp) (by omega) (by omega) w41 (hx.new hH41.new) (hx.new hH41.new)) ?_
        rintro _ w48 ⟨rfl, hn⟩
        have hH48 := hH41.call hn
        refine ⟨_, rfl, hH48, ?_⟩
        intro a49 he49
        clear he47 a47 hH41 hn
        refine hV (fuel := 1) (i := 25) (Value.bool false) he49 rfl rfl rfl (by kernel_rfl) (by kernel_rfl) (by kernel_rfl) (fun _ _ _ h => h) (he49.want rfl rfl rfl rfl rfl) (fun w' _ => rn_not (b := true) rfl (he49.op rfl) w') hH48 ?_
        intro a50 he50
        clear he49 a49
        refine hV (fuel := 0) (i := 26) (Value.bool false) he50 rfl rfl rfl (by kernel_rfl) (by kernel_rfl) (by kernel_rfl) (fun _ _ _ h => h) (wanted_plain rfl _) (fun w' _ => rn_pk0 rfl (he50.op rfl) (he50.op rfl) w') hH48 ?_
        intro a51 he51
        clear he50 a50
        refine wpAnyH_done (by kernel_rfl) ?_ _
        refine then_ok ?_
        refine wp_cond_false (he51.op rfl) ?_
        refine wp_skip ?_
        refine then_ok ?_
        have he52 : Env 60 [(3, Value.pointer (some ⟨p3, 0, none⟩)), (2, Value.pointer (some ⟨p1, 0, none⟩)), (0, Value.agg #[Value.slice A la.length ca, Value.bool sa]), (1, Value.agg #[Value.slice B lb.length cb, Value.bool sb])] a51 := he51.mem ⟨rfl, rfl, rfl, rfl, trivial⟩
        clear he51
        as_aux_lemma =>
          refine wp_seq ?_
          refine wp_region_lit ?_
          refine lV (Value.agg #[Value.slice A la.length ca, Value.bool sa]) he52 rfl rfl (wanted_plain rfl _) (rn_ldp [Value.slice A la.length ca, Value.bool sa] rfl (he52.op rfl) undL rfl infoL2 (hH48.at (i := 1) rfl) rfl) ?_
          intro a53 he53
          clear he52 a51
          have hzhoW := hH48.new.size
          refine lCx he53 rfl rfl Tryd.func26 (by kernel_rfl) rfl rfl (wanted_plain rfl _) rfl (rcopy_l _ la sa (by omega) w48 (hx.new hH48.new)) ?_
          rintro _ w54 ⟨⟨Aw, cw, rfl, hoW⟩, hn⟩
          replace hoW := own_base hoW (fun k_ hk_ => Nat.le_trans hzhoW (own_blk hoW k_ hk_))
          clear hzhoW
          refine ⟨_, rfl, ?_⟩
          intro a55 he55
          have hH54 := hH48.call hn
          clear he53 a53 hH48
          clear hn
          refine lNew (fun p => .pointer (some ⟨p, 0, none⟩)) he55 hH54 rfl rfl (wanted_plain rfl _) (rn_allocL rfl w54) ?_
          intro p56 w56 a57 hn hH56 he57
          replace hoW := own_fr hoW hn (fun _ _ h => h)
          clear he55 a55 hH54 hn
          refine lSetF 0 #[Value.slice Aw la.length cw, Value.bool sa] (cs := #[Value.slice Aw la.length cw, Value.bool sa]) he57 hH56 rfl (wanted_plain rfl _) rfl rfl rfl rfl rfl (by kernel_rfl) (by kernel_rfl) (by kernel_rfl) rfl ?_
          intro w58 a59 hH58 hf he59
          replace hoW := own_fr hoW hf (fun k_ hk_ e_ => own_far hoW (hH56.at (i := 0) rfl) (show 60 ≠ 27 from by decide) (hk_.trans (congrArg some e_)))
          replace hH58 : Hp w [⟨p56, 27, #[Value.slice Aw la.length cw, Value.bool sa]⟩, ⟨p3, 27, #[Value.slice B lb.length cb, Value.bool sb]⟩, ⟨p1, 27, #[Value.slice A la.length ca, Value.bool sa]⟩] w58 := hH58
          clear hf
          clear he57 a57 hH56
          refine wpList_nil ?_
          refine then_ok ?_
          have he60 : Env 60 [(5, Value.pointer (some ⟨p56, 0, none⟩)), (3, Value.pointer (some ⟨p3, 0, none⟩)), (2, Value.pointer (some ⟨p1, 0, none⟩)), (0, Value.agg #[Value.slice A la.length ca, Value.bool sa]), (1, Value.agg #[Value.slice B lb.length cb, Value.bool sb])] a59 := he59.mem ⟨rfl, rfl, rfl, rfl, rfl, trivial⟩
          clear he59
          refine wp_seq ?_
          refine wp_region_lit ?_
          refine lV (Value.agg #[Value.slice A la.length ca, Value.bool sa]) he60 rfl rfl (wanted_plain rfl _) (rn_ldp [Value.slice A la.length ca, Value.bool sa] rfl (he60.op rfl) undL rfl infoL2 (hH58.at (i := 2) rfl) rfl) ?_
          intro a61 he61
          clear he60 a59
          have hzhoX := hH58.new.size
          refine lCx he61 rfl rfl Tryd.func27 (by kernel_rfl) rfl rfl (wanted_plain rfl _) rfl (copy_l _ la sa (by omega) w58 (hx.new hH58.new)) ?_
          rintro _ w62 ⟨⟨Ax, cx, rfl, hoX⟩, hn⟩
          have hnehoXhoW := rows_apart hoW hoX
          replace hoX := own_base hoX (fun k_ hk_ => Nat.le_trans hzhoX (own_blk hoX k_ hk_))
          clear hzhoX
          refine ⟨_, rfl, ?_⟩
          intro a63 he63
          have hH62 := hH58.call hn
          replace hoW := own_fr hoW hn (fun _ _ h => h)
          clear he61 a61 hH58
          clear hn
          refine lNew (fun p => .pointer (some ⟨p, 0, none⟩)) he63 hH62 rfl rfl (wanted_plain rfl _) (rn_allocL rfl w62) ?_
          intro p64 w64 a65 hn hH64 he65
          replace hoW := own_fr hoW hn (fun _ _ h => h)
          replace hoX := own_fr hoX hn (fun _ _ h => h)
          clear he63 a63 hH62 hn
          refine lSetF 0 #[Value.slice Ax la.length cx, Value.bool sa] (cs := #[Value.slice Ax la.length cx, Value.bool sa]) he65 hH64 rfl (wanted_plain rfl _) rfl rfl rfl rfl rfl (by kernel_rfl) (by kernel_rfl) (by kernel_rfl) rfl ?_
          intro w66 a67 hH66 hf he67
          replace hoW := own_fr hoW hf (fun k_ hk_ e_ => own_far hoW (hH64.at (i := 0) rfl) (show 60 ≠ 27 from by decide) (hk_.trans (congrArg some e_)))
          replace hoX := own_fr hoX hf (fun k_ hk_ e_ => own_far hoX (hH64.at (i := 0) rfl) (show 60 ≠ 27 from by decide) (hk_.trans (congrArg some e_)))
          replace hH66 : Hp w [⟨p64, 27, #[Value.slice Ax la.length cx, Value.bool sa]⟩, ⟨p56, 27, #[Value.slice Aw la.length cw, Value.bool sa]⟩, ⟨p3, 27, #[Value.slice B lb.length cb, Value.bool sb]⟩, ⟨p1, 27, #[Value.slice A la.length ca, Value.bool sa]⟩] w66 := hH66
          clear hf
          clear he65 a65 hH64
          refine wpList_nil ?_
          refine then_ok ?_
          have he68 : Env 60 [(6, Value.pointer (some ⟨p64, 0, none⟩)), (5, Value.pointer (some ⟨p56, 0, none⟩)), (3, Value.pointer (some ⟨p3, 0, none⟩)), (2, Value.pointer (some ⟨p1, 0, none⟩)), (0, Value.agg #[Value.slice A la.length ca, Value.bool sa]), (1, Value.agg #[Value.slice B lb.length cb, Value.bool sb])] a67 := he67.mem ⟨rfl, rfl, rfl, rfl, rfl, rfl, trivial⟩
          clear he67
          as_aux_lemma =>
            refine wp_seq ?_
            refine wp_seq ?_
            refine wp_region_lit ?_
            refine lV (Value.agg #[Value.slice Ax la.length cx, Value.bool sa]) he68 rfl rfl (wanted_plain rfl _) (rn_ldp [Value.slice Ax la.length cx, Value.bool sa] rfl (he68.op rfl) undL rfl infoL2 (hH66.at (i := 0) rfl) rfl) ?_
            intro a69 he69
            clear he68 a67
            refine lV (Value.agg #[Value.slice Aw la.length cw, Value.bool sa]) he69 rfl rfl (wanted_plain rfl _) (rn_ldp [Value.slice Aw la.length cw, Value.bool sa] rfl (he69.op rfl) undL rfl infoL2 (hH66.at (i := 1) rfl) rfl) ?_
            intro a70 he70
            clear he69 a69
            refine lC he70 rfl rfl Tryd.func25 (by kernel_rfl) rfl rfl (wanted_plain rfl _) rfl (same_s _ la sa _ la sa true (by simp) (by omega) (by omega) w66 (SlC.own hoX) (SlC.own hoW)) ?_
            intro w71 a72 hn he72
            have hH71 := hH66.call hn
            replace hoW := own_fr hoW hn (fun _ _ h => h)
            replace hoX := own_fr hoX hn (fun _ _ h => h)
            clear he70 a70 hH66 hn
            refine lV (Value.bool false) he72 rfl rfl (wanted_plain rfl _) (rn_not (b := true) rfl (he72.op rfl) w71) ?_
            intro a73 he73
            clear he72 a72
            refine wpList_nil ?_
            refine then_ok ?_
            refine wp_cond_false (he73.op rfl) ?_
            refine wp_skip ?_
            refine then_ok ?_
            refine wp_seq ?_
            refine wp_region_lit ?_
            refine lV (Value.pointer (some ⟨p64, 0, none⟩)) he73 rfl rfl (wanted_plain rfl _) (rn_faL0 rfl (he73.op rfl) rfl w71) ?_
            intro a74 he74
            clear he73 a73
            refine lV (Value.slice Ax la.length cx) he74 rfl rfl (wanted_plain rfl _) (rn_ldS rfl (he74.op rfl) (hH71.at (i := 0) rfl) rfl) ?_
            intro a75 he75
            clear he74 a74
            refine lCx he75 rfl rfl Tryd.func17 (by kernel_rfl) rfl rfl (wanted_plain rfl _) rfl (stainP hoX (by omega)) ?_
            rintro _ w76 ⟨rfl, hf⟩
            have hH76 := hH71.ownV hoX hf (Nat.le_refl _) (by kernel_rfl)
            replace hoW := own_fr hoW hf (fun k_ h1_ h2_ => by first | exact hnehoXhoW k_ h1_ h2_ | exact hnehoWhoX k_ h2_ h1_)
            refine ⟨_, rfl, ?_⟩
            intro a77 he77
            clear he75 a75 hH71 hf hoX
            refine wpList_nil ?_
            refine then_ok ?_
            have he78 : Env 60 [(5, Value.pointer (some ⟨p56, 0, none⟩)), (2, Value.pointer (some ⟨p1, 0, none⟩))] a77 := he77.mem ⟨rfl, rfl, trivial⟩
            clear he77
            refine wp_seq ?_
            refine wp_region_lit ?_
            refine lV (Value.agg #[Value.slice A la.length ca, Value.bool sa]) he78 rfl rfl (wanted_plain rfl _) (rn_ldp [Value.slice A la.length ca, Value.bool sa] rfl (he78.op rfl) undL rfl infoL2 (hH76.at (i := 3) rfl) rfl) ?_
            intro a79 he79
            clear he78 a77
            refine lV (Value.agg #[Value.slice Aw la.length cw, Value.bool sa]) he79 rfl rfl (wanted_plain rfl _) (rn_ldp [Value.slice Aw la.length cw, Value.bool sa] rfl (he79.op rfl) undL rfl infoL2 (hH76.at (i := 1) rfl) rfl) ?_
            intro a80 he80
            clear he79 a79
            refine lC he80 rfl rfl Tryd.func25 (by kernel_rfl) rfl rfl (wanted_plain rfl _) rfl (same_s _ la sa _ la sa true (by simp) (by omega) (by omega) w76 (hx.new hH76.new) (SlC.own hoW)) ?_
            intro w81 a82 hn he82
            have hH81 := hH76.call hn
            replace hoW := own_fr hoW hn (fun _ _ h => h)
            clear he80 a80 hH76 hn
            refine lV (Value.bool true) he82 rfl rfl (wanted_plain rfl _) (rn_mv rfl (he82.op rfl) w81) ?_
            intro a83 he83
            clear he82 a82
            refine lC he83 rfl rfl Tryd.func9 (by kernel_rfl) rfl rfl (he83.want rfl rfl rfl rfl rfl) rfl (known_any w81 (hT.new hH81.new)) ?_
            intro w84 a85 hn he85
            have hH84 := hH81.call hn
            replace hoW := own_fr hoW hn (fun _ _ h => h)
            clear he83 a83 hH81 hn
            refine lV (Value.bool true) he85 rfl rfl (wanted_plain rfl _) (rn_pk rfl (he85.op rfl) (he85.op rfl) w84) ?_
            intro a86 he86
            clear he85 a85
            refine lV (Value.bool true) he86 rfl rfl (wanted_plain rfl _) (rn_asg rfl (he86.op rfl) w84) ?_
            intro a87 he87
            clear he86 a86
            refine wpList_nil ?_
            refine then_ok ?_
            refine wp_ret ?_
            try simp only [Exit.then, Exit.inBlock]
            exact ret_env rfl he87 rfl ⟨rfl, hH84.new.new_below⟩
    · skip
      refine wp_seq ?_
      refine wp_seq ?_
      refine wp_region_lit ?_
      refine lV (Value.agg #[Value.slice A la.length ca, Value.bool sa]) he5 rfl rfl (wanted_plain rfl _) (rn_ldp [Value.slice A la.length ca, Value.bool sa] rfl (he5.op rfl) undL rfl infoL2 (hH3.at (i := 1) rfl) rfl) ?_
      intro a88 he88
      clear he5 a5
      refine lC he88 rfl rfl Tryd.func19 (by kernel_rfl) rfl rfl (wanted_plain rfl _) rfl (small_s _ la sa true (decide_eq_true h1) w3 (hx.new hH3.new)) ?_
      intro w89 a90 hn he90
      have hH89 := hH3.call hn
      clear he88 a88 hH3 hn
      refine lV (Value.bool false) he90 rfl rfl (wanted_plain rfl _) (rn_not (b := true) rfl (he90.op rfl) w89) ?_
      intro a91 he91
      clear he90 a90
      refine lV (Value.bool false) he91 rfl rfl (wanted_plain rfl _) (rn_mv rfl (he91.op rfl) w89) ?_
      intro a92 he92
      clear he91 a91
      refine lV (Value.agg #[Value.slice B lb.length cb, Value.bool sb]) he92 rfl rfl (he92.want rfl rfl rfl rfl rfl) (rn_ldp [Value.slice B lb.length cb, Value.bool sb] rfl (he92.op rfl) undL rfl infoL2 (hH89.at (i := 0) rfl) rfl) ?_
      intro a93 he93
      clear he92 a92
      refine lC he93 rfl rfl Tryd.func19 (by kernel_rfl) rfl rfl (he93.want rfl rfl rfl rfl rfl) rfl (small_s _ lb sb false (decide_eq_false h2) w89 (hy.new hH89.new)) ?_
      intro w94 a95 hn he95
      have hH94 := hH89.call hn
      clear he93 a93 hH89 hn
      refine lV (Value.bool true) he95 rfl rfl (he95.want rfl rfl rfl rfl rfl) (rn_not (b := false) rfl (he95.op rfl) w94) ?_
      intro a96 he96
      clear he95 a95
      refine lV (Value.bool true) he96 rfl rfl (wanted_plain rfl _) (rn_pk0 rfl (he96.op rfl) (he96.op rfl) w94) ?_
      intro a97 he97
      clear he96 a96
      refine wpList_nil ?_
      refine then_ok ?_
      refine wp_cond_true (he97.op rfl) ?_
      refine wp_seq ?_
      refine wp_region_lit ?_
      refine lC he97 rfl rfl Tryd.func9 (by kernel_rfl) rfl rfl (wanted_plain rfl _) rfl (known_any w94 (hT.new hH94.new)) ?_
      intro w98 a99 hn he99
      have hH98 := hH94.call hn
      clear he97 a97 hH94 hn
      refine lV (Value.bool true) he99 rfl rfl (wanted_plain rfl _) (rn_asg rfl (he99.op rfl) w98) ?_
      intro a100 he100
      clear he99 a99
      refine wpList_nil ?_
      refine then_ok ?_
      refine wp_ret ?_
      try simp only [Exit.then, Exit.inBlock]
      exact ret_env rfl he100 rfl ⟨rfl, hH98.new.new_below⟩
  · skip
    by_cases h2 : lb.length ≤ 40
    · skip
      refine wp_seq ?_
      refine wp_seq ?_
      refine wp_region_lit ?_
      refine lV (Value.agg #[Value.slice A la.length ca, Value.bool sa]) he5 rfl rfl (wanted_plain rfl _) (rn_ldp [Value.slice A la.length ca, Value.bool sa] rfl (he5.op rfl) undL rfl infoL2 (hH3.at (i := 1) rfl) rfl) ?_
      intro a101 he101
      clear he5 a5
      refine lC he101 rfl rfl Tryd.func19 (by kernel_rfl) rfl rfl (wanted_plain rfl _) rfl (small_s _ la sa false (decide_eq_false h1) w3 (hx.new hH3.new)) ?_
      intro w102 a103 hn he103
      have hH102 := hH3.call hn
      clear he101 a101 hH3 hn
      refine lV (Value.bool true) he103 rfl rfl (wanted_plain rfl _) (rn_not (b := false) rfl (he103.op rfl) w102) ?_
      intro a104 he104
      clear he103 a103
      refine lV (Value.bool true) he104 rfl rfl (wanted_plain rfl _) (rn_mv rfl (he104.op rfl) w102) ?_
      intro a105 he105
      clear he104 a104
      refine lSkip he105 rfl rfl (he105.wantNot rfl rfl rfl rfl rfl rfl) ?_
      intro a106 he106
      clear he105 a105
      refine lSkip he106 rfl rfl (he106.wantNot rfl rfl rfl rfl rfl rfl) ?_
      intro a107 he107
      clear he106 a106
      refine lSkip he107 rfl rfl (he107.wantNot rfl rfl rfl rfl rfl rfl) ?_
      intro a108 he108
      clear he107 a107
      refine lV (Value.bool true) he108 rfl rfl (wanted_plain rfl _) (rn_pk rfl (he108.op rfl) (he108.op rfl) w102) ?_
      intro a109 he109
      clear he108 a108
      refine wpList_nil ?_
      refine then_ok ?_
      refine wp_cond_true (he109.op rfl) ?_
      refine wp_seq ?_
      refine wp_region_lit ?_
      refine lC he109 rfl rfl Tryd.func9 (by kernel_rfl) rfl rfl (wanted_plain rfl _) rfl (known_any w102 (hT.new hH102.new)) ?_
      intro w110 a111 hn he111
      have hH110 := hH102.call hn
      clear he109 a109 hH102 hn
      refine lV (Value.bool true) he111 rfl rfl (wanted_plain rfl _) (rn_asg rfl (he111.op rfl) w110) ?_
      intro a112 he112
      clear he111 a111
      refine wpList_nil ?_
      refine then_ok ?_
      refine wp_ret ?_
      try simp only [Exit.then, Exit.inBlock]
      exact ret_env rfl he112 rfl ⟨rfl, hH110.new.new_below⟩
    · skip
      refine wp_seq ?_
      refine wp_seq ?_
      refine wp_region_lit ?_
      refine lV (Value.agg #[Value.slice A la.length ca, Value.bool sa]) he5 rfl rfl (wanted_plain rfl _) (rn_ldp [Value.slice A la.length ca, Value.bool sa] rfl (he5.op rfl) undL rfl infoL2 (hH3.at (i := 1) rfl) rfl) ?_
      intro a113 he113
      clear he5 a5
      refine lC he113 rfl rfl Tryd.func19 (by kernel_rfl) rfl rfl (wanted_plain rfl _) rfl (small_s _ la sa false (decide_eq_false h1) w3 (hx.new hH3.new)) ?_
      intro w114 a115 hn he115
      have hH114 := hH3.call hn
      clear he113 a113 hH3 hn
      refine lV (Value.bool true) he115 rfl rfl (wanted_plain rfl _) (rn_not (b := false) rfl (he115.op rfl) w114) ?_
      intro a116 he116
      clear he115 a115
      refine lV (Value.bool true) he116 rfl rfl (wanted_plain rfl _) (rn_mv rfl (he116.op rfl) w114) ?_
      intro a117 he117
      clear he116 a116
      refine lSkip he117 rfl rfl (he117.wantNot rfl rfl rfl rfl rfl rfl) ?_
      intro a118 he118
      clear he117 a117
      refine lSkip he118 rfl rfl (he118.wantNot rfl rfl rfl rfl rfl rfl) ?_
      intro a119 he119
      clear he118 a118
      refine lSkip he119 rfl rfl (he119.wantNot rfl rfl rfl rfl rfl rfl) ?_
      intro a120 he120
      clear he119 a119
      refine lV (Value.bool true) he120 rfl rfl (wanted_plain rfl _) (rn_pk rfl (he120.op rfl) (he120.op rfl) w114) ?_
      intro a121 he121
      clear he120 a120
      refine wpList_nil ?_
      refine then_ok ?_
      refine wp_cond_true (he121.op rfl) ?_
      refine wp_seq ?_
      refine wp_region_lit ?_
      refine lC he121 rfl rfl Tryd.func9 (by kernel_rfl) rfl rfl (wanted_plain rfl _) rfl (known_any w114 (hT.new hH114.new)) ?_
      intro w122 a123 hn he123
      have hH122 := hH114.call hn
      clear he121 a121 hH114 hn
      refine lV (Value.bool true) he123 rfl rfl (wanted_plain rfl _) (rn_asg rfl (he123.op rfl) w122) ?_
      intro a124 he124
      clear he123 a123
      refine wpList_nil ?_
      refine then_ok ?_
      refine wp_ret ?_
      try simp only [Exit.then, Exit.inBlock]
      exact ret_env rfl he124 rfl ⟨rfl, hH122.new.new_below⟩

set_option linter.unusedSimpArgs false in
set_option maxRecDepth 100000 in
set_option maxHeartbeats 1600000 in
theorem lineFits_walk (x : Value) (l : List Ce) (so : Bool) (col : Int) (w : World) (hx : SlC w x l) (hT : Tab w) :
    Calls Tryd.prog 5 #[.agg #[x, .bool so], .int .i64 col] w fun e w' => e = .returned (.bool true) ∧ Below w.heap.size w w' := by
  obtain ⟨A, cap, b, e_, hc, hr⟩ := id hx
  subst e_
  refine calls_args (vl := [Value.agg #[Value.slice A l.length cap, Value.bool so], Value.int .i64 col]) 75 Tryd.func5 rfl Tryd.ntmps5 (by kernel_rfl) (fun a he => ?_)
  have he0 : Env 75 [(0, Value.agg #[Value.slice A l.length cap, Value.bool so]), (1, Value.int .i64 col)] a := he
  clear he
  have hH := Hp.start w
  refine wp_seq ?_
  refine wp_region_lit ?_
  refine lNew (fun p => .pointer (some ⟨p, 0, none⟩)) he0 hH rfl rfl (wanted_plain rfl _) (rn_boxL rfl (he0.op rfl) w) ?_
  intro p1 w1 a2 hn hH1 he2
  clear he0 a hH hn
  refine lV (Value.bool false) he2 rfl rfl (wanted_plain rfl _) (rn_asg rfl (he2.op rfl) w1) ?_
  intro a3 he3
  clear he2 a2
  refine wpList_nil ?_
  refine then_ok ?_
  by_cases h1 : l.length ≤ 40
  · skip
    refine wp_seq ?_
    refine wp_seq ?_
    refine wp_region_lit ?_
    refine lV (Value.agg #[Value.slice A l.length cap, Value.bool so]) he3 rfl rfl (wanted_plain rfl _) (rn_ldp [Value.slice A l.length cap, Value.bool so] rfl (he3.op rfl) undL rfl infoL2 (hH1.at (i := 0) rfl) rfl) ?_
    intro a4 he4
    clear he3 a3
    refine lC he4 rfl rfl Tryd.func19 (by kernel_rfl) rfl rfl (wanted_plain rfl _) rfl (small_s _ l so true (decide_eq_true h1) w1 (hx.new hH1.new)) ?_
    intro w5 a6 hn he6
    have hH5 := hH1.call hn
    clear he4 a4 hH1 hn
    refine lV (Value.bool false) he6 rfl rfl (wanted_plain rfl _) (rn_not (b := true) rfl (he6.op rfl) w5) ?_
    intro a7 he7
    clear he6 a6
    refine wpList_nil ?_
    refine then_ok ?_
    refine wp_cond_false (he7.op rfl) ?_
    refine wp_skip ?_
    refine then_ok ?_
    refine wp_seq ?_
    refine wp_region_lit ?_
    refine lV (Value.agg #[Value.slice A l.length cap, Value.bool so]) he7 rfl rfl (wanted_plain rfl _) (rn_ldp [Value.slice A l.length cap, Value.bool so] rfl (he7.op rfl) undL rfl infoL2 (hH5.at (i := 0) rfl) rfl) ?_
    intro a8 he8
    clear he7 a7
    have hzhoO := hH5.new.size
    refine lCx he8 rfl rfl Tryd.func26 (by kernel_rfl) rfl rfl (wanted_plain rfl _) rfl (rcopy_l _ l so (by omega) w5 (hx.new hH5.new)) ?_
    rintro _ w9 ⟨⟨Ao, co, rfl, hoO⟩, hn⟩
    replace hoO := own_base hoO (fun k_ hk_ => Nat.le_trans hzhoO (own_blk hoO k_ hk_))
    clear hzhoO
    refine ⟨_, rfl, ?_⟩
    intro a10 he10
    have hH9 := hH5.call hn
    clear he8 a8 hH5
    clear hn
    refine lNew (fun p => .pointer (some ⟨p, 0, none⟩)) he10 hH9 rfl rfl (wanted_plain rfl _) (rn_allocL rfl w9) ?_
    intro p11 w11 a12 hn hH11 he12
    replace hoO := own_fr hoO hn (fun _ _ h => h)
    clear he10 a10 hH9 hn
    refine lSetF 0 #[Value.slice Ao l.length co, Value.bool so] (cs := #[Value.slice Ao l.length co, Value.bool so]) he12 hH11 rfl (wanted_plain rfl _) rfl rfl rfl rfl rfl (by kernel_rfl) (by kernel_rfl) (by kernel_rfl) rfl ?_
    intro w13 a14 hH13 hf he14
    replace hoO := own_fr hoO hf (fun k_ hk_ e_ => own_far hoO (hH11.at (i := 0) rfl) (show 60 ≠ 27 from by decide) (hk_.trans (congrArg some e_)))
    replace hH13 : Hp w [⟨p11, 27, #[Value.slice Ao l.length co, Value.bool so]⟩, ⟨p1, 27, #[Value.slice A l.length cap, Value.bool so]⟩] w13 := hH13
    clear hf
    clear he12 a12 hH11
    refine wpList_nil ?_
    refine then_ok ?_
    have he15 : Env 75 [(5, Value.pointer (some ⟨p11, 0, none⟩)), (2, Value.pointer (some ⟨p1, 0, none⟩)), (1, Value.int .i64 col)] a14 := he14.mem ⟨rfl, rfl, rfl, trivial⟩
    clear he14
    as_aux_lemma =>
      obtain ⟨v, hv⟩ : ∃ v, okL l = v := ⟨_, rfl⟩
      cases v with
      | false =>
        refine wp_seq ?_
        refine wp_seq ?_
        refine wp_region_lit ?_
        refine lV (Value.agg #[Value.slice A l.length cap, Value.bool so]) he15 rfl rfl (wanted_plain rfl _) (rn_ldp [Value.slice A l.length cap, Value.bool so] rfl (he15.op rfl) undL rfl infoL2 (hH13.at (i := 1) rfl) rfl) ?_
        intro a16 he16
        clear he15 a14
        refine lC he16 rfl rfl Tryd.func14 (by kernel_rfl) rfl rfl (wanted_plain rfl _) rfl (rvalid_s _ l so false hv w13 (hx.new hH13.new)) ?_
        intro w17 a18 hn he18
        have hH17 := hH13.call hn
        replace hoO := own_fr hoO hn (fun _ _ h => h)
        clear he16 a16 hH13 hn
        refine lV (Value.bool true) he18 rfl rfl (wanted_plain rfl _) (rn_not (b := false) rfl (he18.op rfl) w17) ?_
        intro a19 he19
        clear he18 a18
        refine wpList_nil ?_
        refine then_ok ?_
        refine wp_cond_true (he19.op rfl) ?_
        refine wp_seq ?_
        refine wp_region_lit ?_
        refine lV (Value.agg #[Value.slice Ao l.length co, Value.bool so]) he19 rfl rfl (wanted_plain rfl _) (rn_ldp [Value.slice Ao l.length co, Value.bool so] rfl (he19.op rfl) undL rfl infoL2 (hH17.at (i := 0) rfl) rfl) ?_
        intro a20 he20
        clear he19 a19
        refine lV (Value.agg #[Value.slice none 0 0, Value.bool false]) he20 rfl rfl (wanted_plain rfl _) (rn_bL rfl  w17) ?_
        intro a21 he21
        clear he20 a20
        refine lC he21 rfl rfl Tryd.func28 (by kernel_rfl) rfl rfl (wanted_plain rfl _) rfl (trims_s _ l so _ [] false 2 true (by rw [trimR_no hv]; rfl) (by omega) (by decide) w17 (SlC.own hoO) (SlC.nil _) (hT.new hH17.new)) ?_
        intro w22 a23 hn he23
        have hH22 := hH17.call hn
        replace hoO := own_fr hoO hn (fun _ _ h => h)
        clear he21 a21 hH17 hn
        refine lV (Value.bool true) he23 rfl rfl (wanted_plain rfl _) (rn_mv rfl (he23.op rfl) w22) ?_
        intro a24 he24
        clear he23 a23
        refine lV (Value.agg #[Value.slice Ao l.length co, Value.bool so]) he24 rfl rfl (he24.want rfl rfl rfl rfl rfl) (rn_ldp [Value.slice Ao l.length co, Value.bool so] rfl (he24.op rfl) undL rfl infoL2 (hH22.at (i := 0) rfl) rfl) ?_
        intro a25 he25
        clear he24 a24
        refine lV (Value.int .i64 col) he25 rfl rfl (he25.want rfl rfl rfl rfl rfl) (rn_mv rfl (he25.op rfl) w22) ?_
        intro a26 he26
        clear he25 a25
        refine lV (Value.agg #[Value.slice none 0 0, Value.bool false]) he26 rfl rfl (he26.want rfl rfl rfl rfl rfl) (rn_bL rfl  w22) ?_
        intro a27 he27
        clear he26 a26
        refine lC he27 rfl rfl Tryd.func29 (by kernel_rfl) rfl rfl (he27.want rfl rfl rfl rfl rfl) rfl (fits_s _ l so col _ [] false 2 true (by rw [fitR_no (by rw [hv, Bool.and_false])]; rfl) (by decide) w22 (SlC.own hoO) (SlC.nil _) (hT.new hH22.new)) ?_
        intro w28 a29 hn he29
        have hH28 := hH22.call hn
        replace hoO := own_fr hoO hn (fun _ _ h => h)
        clear he27 a27 hH22 hn
        refine lV (Value.bool true) he29 rfl rfl (wanted_plain rfl _) (rn_pk rfl (he29.op rfl) (he29.op rfl) w28) ?_
        intro a30 he30
        clear he29 a29
        refine lV (Value.bool true) he30 rfl rfl (wanted_plain rfl _) (rn_mv rfl (he30.op rfl) w28) ?_
        intro a31 he31
        clear he30 a30
        refine lC he31 rfl rfl Tryd.func9 (by kernel_rfl) rfl rfl (he31.want rfl rfl rfl rfl rfl) rfl (known_any w28 (hT.new hH28.new)) ?_
        intro w32 a33 hn he33
        have hH32 := hH28.call hn
        replace hoO := own_fr hoO hn (fun _ _ h => h)
        clear he31 a31 hH28 hn
        refine lV (Value.bool true) he33 rfl rfl (wanted_plain rfl _) (rn_pk rfl (he33.op rfl) (he33.op rfl) w32) ?_
        intro a34 he34
        clear he33 a33
        refine lV (Value.bool true) he34 rfl rfl (wanted_plain rfl _) (rn_asg rfl (he34.op rfl) w32) ?_
        intro a35 he35
        clear he34 a34
        refine wpList_nil ?_
        refine then_ok ?_
        refine wp_ret ?_
        try simp only [Exit.then, Exit.inBlock]
        exact ret_env rfl he35 rfl ⟨rfl, hH32.new.new_below⟩
      | true =>
        refine wp_seq ?_
        refine wp_seq ?_
        refine wp_region_lit ?_
        refine lV (Value.agg #[Value.slice A l.length cap, Value.bool so]) he15 rfl rfl (wanted_plain rfl _) (rn_ldp [Value.slice A l.length cap, Value.bool so] rfl (he15.op rfl) undL rfl infoL2 (hH13.at (i := 1) rfl) rfl) ?_
        intro a36 he36
        clear he15 a14
        refine lC he36 rfl rfl Tryd.func14 (by kernel_rfl) rfl rfl (wanted_plain rfl _) rfl (rvalid_s _ l so true hv w13 (hx.new hH13.new)) ?_
        intro w37 a38 hn he38
        have hH37 := hH13.call hn
        replace hoO := own_fr hoO hn (fun _ _ h => h)
        clear he36 a36 hH13 hn
        refine lV (Value.bool false) he38 rfl rfl (wanted_plain rfl _) (rn_not (b := true) rfl (he38.op rfl) w37) ?_
        intro a39 he39
        clear he38 a38
        refine wpList_nil ?_
        refine then_ok ?_
        refine wp_cond_false (he39.op rfl) ?_
        refine wp_skip ?_
        refine then_ok ?_
        have hu := used_le l
        refine wp_seq ?_
        refine wp_region_lit ?_
        refine lV (Value.agg #[Value.slice Ao l.length co, Value.bool so]) he39 rfl rfl (wanted_plain rfl _) (rn_ldp [Value.slice Ao l.length co, Value.bool so] rfl (he39.op rfl) undL rfl infoL2 (hH37.at (i := 0) rfl) rfl) ?_
        intro a40 he40
        clear he39 a39
        have hzhoX := hH37.new.size
        refine lCx he40 rfl rfl Tryd.func30 (by kernel_rfl) rfl rfl (wanted_plain rfl _) rfl (trim_l _ l so (by omega) w37 (SlC.own hoO) (hT.new hH37.new)) ?_
        rintro _ w41 ⟨⟨Ax, cx, rfl, hoX⟩, hn⟩
        have hnehoXhoO := rows_apart hoO hoX
        replace hoX := own_base hoX (fun k_ hk_ => Nat.le_trans hzhoX (own_blk hoX k_ hk_))
        clear hzhoX
        refine ⟨_, rfl, ?_⟩
        intro a42 he42
        have hH41 := hH37.call hn
        replace hoO := own_fr hoO hn (fun _ _ h => h)
        clear he40 a40 hH37
        clear hn
        refine lV (Value.tuple #[Value.agg #[Value.slice Ax ((trimR l so).L).length cx, Value.bool ((trimR l so).s)], Value.int .i64 ((trimR l so).e)]) he42 rfl rfl (wanted_plain rfl _) (rn_mv rfl (he42.op rfl) w41) ?_
        intro a43 he43
        clear he42 a42
        refine lV (Value.agg #[Value.slice Ax ((trimR l so).L).length cx, Value.bool ((trimR l so).s)]) he43 rfl rfl (wanted_plain rfl _) (rn_ext rfl (he43.op rfl) rfl w41) ?_
        intro a44 he44
        clear he43 a43
        refine lV (Value.int .i64 ((trimR l so).e)) he44 rfl rfl (wanted_plain rfl _) (rn_ext rfl (he44.op rfl) rfl w41) ?_
        intro a45 he45
        clear he44 a44
        refine lNew (fun p => .pointer (some ⟨p, 0, none⟩)) he45 hH41 rfl rfl (wanted_plain rfl _) (rn_allocL rfl w41) ?_
        intro p46 w46 a47 hn hH46 he47
        replace hoO := own_fr hoO hn (fun _ _ h => h)
        replace hoX := own_fr hoX hn (fun _ _ h => h)
        clear he45 a45 hH41 hn
        refine lSetF 0 #[Value.slice Ax ((trimR l so).L).length cx, Value.bool ((trimR l so).s)] (cs := #[Value.slice Ax ((trimR l so).L).length cx, Value.bool ((trimR l so).s)]) he47 hH46 rfl (wanted_plain rfl _) rfl rfl rfl rfl rfl (by kernel_rfl) (by kernel_rfl) (by kernel_rfl) rfl ?_
        intro w48 a49 hH48 hf he49
        replace hoO := own_fr hoO hf (fun k_ hk_ e_ => own_far hoO (hH46.at (i := 0) rfl) (show 60 ≠ 27 from by decide) (hk_.trans (congrArg some e_)))
        replace hoX := own_fr hoX hf (fun k_ hk_ e_ => own_far hoX (hH46.at (i := 0) rfl) (show 60 ≠ 27 from by decide) (hk_.trans (congrArg some e_)))
        replace hH48 : Hp w [⟨p46, 27, #[Value.slice Ax ((trimR l so).L).length cx, Value.bool ((trimR l so).s)]⟩, ⟨p11, 27, #[Value.slice Ao l.length co, Value.bool so]⟩, ⟨p1, 27, #[Value.slice A l.length cap, Value.bool so]⟩] w48 := hH48
        clear hf
        clear he47 a47 hH46
        refine lV (Value.int .i64 ((trimR l so).e)) he49 rfl rfl (wanted_plain rfl _) (rn_asg rfl (he49.op rfl) w48) ?_
        intro a50 he50
        clear he49 a49
        refine wpList_nil ?_
        refine then_ok ?_
        have he51 : Env 75 [(7, Value.int .i64 ((trimR l so).e)), (6, Value.pointer (some ⟨p46, 0, none⟩)), (5, Value.pointer (some ⟨p11, 0, none⟩)), (2, Value.pointer (some ⟨p1, 0, none⟩)), (1, Value.int .i64 col)] a50 := he50.mem ⟨rfl, rfl, rfl, rfl, rfl, trivial⟩
        clear he50
        as_aux_lemma =>
          have hxl : (trimR l so).L.length ≤ 1000000 := by have := fitR_len l so (usedN l); unfold trimR; omega
          have hz : (l.take (usedN l)).length ≤ 1000000 := by rw [List.length_take]; omega
          refine wp_seq ?_
          refine wp_seq ?_
          refine wp_region_held_drew (S := Hp w [⟨p46, 27, #[Value.slice Ax ((trimR l so).L).length cx, Value.bool ((trimR l so).s)]⟩, ⟨p11, 27, #[Value.slice Ao l.length co, Value.bool so]⟩, ⟨p1, 27, #[Value.slice A l.length cap, Value.bool so]⟩]) (by kernel_rfl) (hH48.drew) (fun _ => ?_)
          have hn : New w48 (World.drew w48) := (Fr.refl _ _).drew
          replace hoO := own_fr hoO hn (fun _ _ h => h)
          replace hoX := own_fr hoX hn (fun _ _ h => h)
          clear hn
          have hH52 := hH48.drew
          clear hH48
          generalize World.drew w48 = w52 at *
          refine hV (fuel := 5) (i := 0) (Value.agg #[Value.slice Ax ((trimR l so).L).length cx, Value.bool ((trimR l so).s)]) he51 rfl rfl rfl (by kernel_rfl) (by kernel_rfl) (by kernel_rfl) (fun _ _ _ h => h) (wanted_plain rfl _) (fun w' hw' => rn_ldp [Value.slice Ax ((trimR l so).L).length cx, Value.bool ((trimR l so).s)] rfl (he51.op rfl) undL rfl infoL2 (hw'.at (i := 0) rfl) rfl) hH52 ?_
          intro a53 he53
          clear he51 a50
          refine hV (fuel := 4) (i := 1) (Value.int .i64 ((trimR l so).e)) he53 rfl rfl rfl (by kernel_rfl) (by kernel_rfl) (by kernel_rfl) (fun _ _ _ h => h) (wanted_plain rfl _) (fun w' _ => rn_mv rfl (he53.op rfl) w') hH52 ?_
          intro a54 he54
          clear he53 a53
          refine hV (fuel := 3) (i := 2) (Value.agg #[Value.slice A l.length cap, Value.bool so]) he54 rfl rfl rfl (by kernel_rfl) (by kernel_rfl) (by kernel_rfl) (fun _ _ _ h => h) (wanted_plain rfl _) (fun w' hw' => rn_ldp [Value.slice A l.length cap, Value.bool so] rfl (he54.op rfl) undL rfl infoL2 (hw'.at (i := 2) rfl) rfl) hH52 ?_
          intro a55 he55
          clear he54 a54
          have hzhoT := hH52.new.size
          refine hC (fuel := 2) (i := 3) he55 (by kernel_rfl) rfl rfl rfl Tryd.func31 (by kernel_rfl) rfl rfl (wanted_plain rfl _) rfl (rtrim_l _ l so (by omega) w52 (hx.new hH52.new)) ?_
          rintro _ w56 ⟨⟨At, ct, rfl, hoT⟩, hn⟩
          replace hoT := own_base hoT (fun k_ hk_ => Nat.le_trans hzhoT (own_blk hoT k_ hk_))
          clear hzhoT
          have hH56 := hH52.call hn
          replace hoO := own_fr hoO hn (fun _ _ h => h)
          replace hoX := own_fr hoX hn (fun _ _ h => h)
          refine ⟨_, rfl, hH56, ?_⟩
          intro a57 he57
          clear he55 a55 hH52 hn
          refine hC (fuel := 1) (i := 4) he57 (by kernel_rfl) rfl rfl rfl Tryd.func18 (by kernel_rfl) rfl rfl (wanted_plain rfl _) rfl (is_s _ (trimR l so).L (trimR l so).s (trimR l so).e _ (l.take (usedN l)) so 0 true (by rw [trimR_ok hv]; simp [isB]) hxl hz w56 (SlC.own hoX) (SlC.own hoT)) ?_
          rintro _ w58 ⟨rfl, hn⟩
          have hH58 := hH56.call hn
          replace hoO := own_fr hoO hn (fun _ _ h => h)
          replace hoX := own_fr hoX hn (fun _ _ h => h)
          replace hoT := own_fr hoT hn (fun _ _ h => h)
          refine ⟨_, rfl, hH58, ?_⟩
          intro a59 he59
          clear he57 a57 hH56 hn
          refine hV (fuel := 0) (i := 5) (Value.bool false) he59 rfl rfl rfl (by kernel_rfl) (by kernel_rfl) (by kernel_rfl) (fun _ _ _ h => h) (wanted_plain rfl _) (fun w' _ => rn_not (b := true) rfl (he59.op rfl) w') hH58 ?_
          intro a60 he60
          clear he59 a59
          refine wpAnyH_done (by kernel_rfl) ?_ _
          refine then_ok ?_
          refine wp_cond_false (he60.op rfl) ?_
          refine wp_skip ?_
          refine then_ok ?_
          clear hoT
          have he61 : Env 75 [(7, Value.int .i64 ((trimR l so).e)), (6, Value.pointer (some ⟨p46, 0, none⟩)), (5, Value.pointer (some ⟨p11, 0, none⟩)), (2, Value.pointer (some ⟨p1, 0, none⟩)), (1, Value.int .i64 col)] a60 := he60.mem ⟨rfl, rfl, rfl, rfl, rfl, trivial⟩
          clear he60
          as_aux_lemma =>
            refine wp_seq ?_
            refine wp_region_lit ?_
            refine lV (Value.pointer (some ⟨p46, 0, none⟩)) he61 rfl rfl (wanted_plain rfl _) (rn_faL0 rfl (he61.op rfl) rfl w58) ?_
            intro a62 he62
            clear he61 a60
            refine lV (Value.slice Ax ((trimR l so).L).length cx) he62 rfl rfl (wanted_plain rfl _) (rn_ldS rfl (he62.op rfl) (hH58.at (i := 0) rfl) rfl) ?_
            intro a63 he63
            clear he62 a62
            refine lCx he63 rfl rfl Tryd.func17 (by kernel_rfl) rfl rfl (wanted_plain rfl _) rfl (stainP hoX hxl) ?_
            rintro _ w64 ⟨rfl, hf⟩
            have hH64 := hH58.ownV hoX hf (Nat.le_refl _) (by kernel_rfl)
            replace hoO := own_fr hoO hf (fun k_ h1_ h2_ => by first | exact hnehoXhoO k_ h1_ h2_ | exact hnehoOhoX k_ h2_ h1_)
            refine ⟨_, rfl, ?_⟩
            intro a65 he65
            clear he63 a63 hH58 hf hoX
            refine wpList_nil ?_
            refine then_ok ?_
            have he66 : Env 75 [(6, Value.pointer (some ⟨p46, 0, none⟩)), (5, Value.pointer (some ⟨p11, 0, none⟩)), (2, Value.pointer (some ⟨p1, 0, none⟩)), (1, Value.int .i64 col)] a65 := he65.mem ⟨rfl, rfl, rfl, rfl, trivial⟩
            clear he65
            as_aux_lemma =>
              obtain ⟨u, hcu⟩ : ∃ u, (decide (0 ≤ col) && decide (col ≤ 1000)) = u := ⟨_, rfl⟩
              cases u with
              | false =>
                refine wp_seq ?_
                refine wp_seq ?_
                refine wp_region_lit ?_
                refine lV (Value.int .i64 col) he66 rfl rfl (wanted_plain rfl _) (rn_mv rfl (he66.op rfl) w64) ?_
                intro a67 he67
                clear he66 a65
                refine lC he67 rfl rfl Tryd.func10 (by kernel_rfl) rfl rfl (wanted_plain rfl _) rfl (RColumns_b col false hcu w64) ?_
                intro w68 a69 hn he69
                have hH68 := hH64.call hn
                replace hoO := own_fr hoO hn (fun _ _ h => h)
                clear he67 a67 hH64 hn
                refine lV (Value.bool true) he69 rfl rfl (wanted_plain rfl _) (rn_not (b := false) rfl (he69.op rfl) w68) ?_
                intro a70 he70
                clear he69 a69
                refine wpList_nil ?_
                refine then_ok ?_
                refine wp_cond_true (he70.op rfl) ?_
                refine wp_seq ?_
                refine wp_region_lit ?_
                refine lV (Value.agg #[Value.slice Ao l.length co, Value.bool so]) he70 rfl rfl (wanted_plain rfl _) (rn_ldp [Value.slice Ao l.length co, Value.bool so] rfl (he70.op rfl) undL rfl infoL2 (hH68.at (i := 1) rfl) rfl) ?_
                intro a71 he71
                clear he70 a70
                refine lV (Value.int .i64 col) he71 rfl rfl (wanted_plain rfl _) (rn_mv rfl (he71.op rfl) w68) ?_
                intro a72 he72
                clear he71 a71
                refine lV (Value.agg #[Value.slice none 0 0, Value.bool false]) he72 rfl rfl (wanted_plain rfl _) (rn_bL rfl  w68) ?_
                intro a73 he73
                clear he72 a72
                refine lC he73 rfl rfl Tryd.func29 (by kernel_rfl) rfl rfl (wanted_plain rfl _) rfl (fits_s _ l so col _ [] false 2 true (by rw [fitR_no (by rw [hcu]; rfl)]; rfl) (by decide) w68 (SlC.own hoO) (SlC.nil _) (hT.new hH68.new)) ?_
                intro w74 a75 hn he75
                have hH74 := hH68.call hn
                replace hoO := own_fr hoO hn (fun _ _ h => h)
                clear he73 a73 hH68 hn
                refine lV (Value.bool true) he75 rfl rfl (wanted_plain rfl _) (rn_mv rfl (he75.op rfl) w74) ?_
                intro a76 he76
                clear he75 a75
                refine lC he76 rfl rfl Tryd.func9 (by kernel_rfl) rfl rfl (he76.want rfl rfl rfl rfl rfl) rfl (known_any w74 (hT.new hH74.new)) ?_
                intro w77 a78 hn he78
                have hH77 := hH74.call hn
                replace hoO := own_fr hoO hn (fun _ _ h => h)
                clear he76 a76 hH74 hn
                refine lV (Value.bool true) he78 rfl rfl (wanted_plain rfl _) (rn_pk rfl (he78.op rfl) (he78.op rfl) w77) ?_
                intro a79 he79
                clear he78 a78
                refine lV (Value.bool true) he79 rfl rfl (wanted_plain rfl _) (rn_asg rfl (he79.op rfl) w77) ?_
                intro a80 he80
                clear he79 a79
                refine wpList_nil ?_
                refine then_ok ?_
                refine wp_ret ?_
                try simp only [Exit.then, Exit.inBlock]
                exact ret_env rfl he80 rfl ⟨rfl, hH77.new.new_below⟩
              | true =>
                refine wp_seq ?_
                refine wp_seq ?_
                refine wp_region_lit ?_
                refine lV (Value.int .i64 col) he66 rfl rfl (wanted_plain rfl _) (rn_mv rfl (he66.op rfl) w64) ?_
                intro a81 he81
                clear he66 a65
                refine lC he81 rfl rfl Tryd.func10 (by kernel_rfl) rfl rfl (wanted_plain rfl _) rfl (RColumns_b col true hcu w64) ?_
                intro w82 a83 hn he83
                have hH82 := hH64.call hn
                replace hoO := own_fr hoO hn (fun _ _ h => h)
                clear he81 a81 hH64 hn
                refine lV (Value.bool false) he83 rfl rfl (wanted_plain rfl _) (rn_not (b := true) rfl (he83.op rfl) w82) ?_
                intro a84 he84
                clear he83 a83
                refine wpList_nil ?_
                refine then_ok ?_
                refine wp_cond_false (he84.op rfl) ?_
                refine wp_skip ?_
                refine then_ok ?_
                simp only [Bool.and_eq_true, decide_eq_true_eq] at hcu
                obtain ⟨k, rfl⟩ : ∃ k : Nat, col = k := ⟨col.toNat, by omega⟩
                refine wp_seq ?_
                refine wp_region_lit ?_
                refine lV (Value.agg #[Value.slice Ao l.length co, Value.bool so]) he84 rfl rfl (wanted_plain rfl _) (rn_ldp [Value.slice Ao l.length co, Value.bool so] rfl (he84.op rfl) undL rfl infoL2 (hH82.at (i := 1) rfl) rfl) ?_
                intro a85 he85
                clear he84 a84
                refine lV (Value.int .i64 (k : Int)) he85 rfl rfl (wanted_plain rfl _) (rn_mv rfl (he85.op rfl) w82) ?_
                intro a86 he86
                clear he85 a85
                have hzhoY := hH82.new.size
                refine lCx he86 rfl rfl Tryd.func32 (by kernel_rfl) rfl rfl (wanted_plain rfl _) rfl (fit_l _ l so k w82 (SlC.own hoO) (hT.new hH82.new)) ?_
                rintro _ w87 ⟨⟨Ay, cy, rfl, hoY⟩, hn⟩
                have hnehoYhoO := rows_apart hoO hoY
                replace hoY := own_base hoY (fun k_ hk_ => Nat.le_trans hzhoY (own_blk hoY k_ hk_))
                clear hzhoY
                refine ⟨_, rfl, ?_⟩
                intro a88 he88
                have hH87 := hH82.call hn
                replace hoO := own_fr hoO hn (fun _ _ h => h)
                clear he86 a86 hH82
                clear hn
                refine lV (Value.tuple #[Value.agg #[Value.slice Ay ((fitR l so k).L).length cy, Value.bool ((fitR l so k).s)], Value.int .i64 ((fitR l so k).e)]) he88 rfl rfl (wanted_plain rfl _) (rn_mv rfl (he88.op rfl) w87) ?_
                intro a89 he89
                clear he88 a88
                refine lV (Value.agg #[Value.slice Ay ((fitR l so k).L).length cy, Value.bool ((fitR l so k).s)]) he89 rfl rfl (wanted_plain rfl _) (rn_ext rfl (he89.op rfl) rfl w87) ?_
                intro a90 he90
                clear he89 a89
                refine lV (Value.int .i64 ((fitR l so k).e)) he90 rfl rfl (wanted_plain rfl _) (rn_ext rfl (he90.op rfl) rfl w87) ?_
                intro a91 he91
                clear he90 a90
                refine lSetF 0 #[Value.slice Ay ((fitR l so k).L).length cy, Value.bool ((fitR l so k).s)] (cs := #[Value.slice Ay ((fitR l so k).L).length cy, Value.bool ((fitR l so k).s)]) he91 hH87 rfl (wanted_plain rfl _) rfl rfl rfl rfl rfl (by kernel_rfl) (by kernel_rfl) (by kernel_rfl) rfl ?_
                intro w92 a93 hH92 hf he93
                replace hoO := own_fr hoO hf (fun k_ hk_ e_ => own_far hoO (hH87.at (i := 0) rfl) (show 60 ≠ 27 from by decide) (hk_.trans (congrArg some e_)))
                replace hoY := own_fr hoY hf (fun k_ hk_ e_ => own_far hoY (hH87.at (i := 0) rfl) (show 60 ≠ 27 from by decide) (hk_.trans (congrArg some e_)))
                replace hH92 : Hp w [⟨p46, 27, #[Value.slice Ay ((fitR l so k).L).length cy, Value.bool ((fitR l so k).s)]⟩, ⟨p11, 27, #[Value.slice Ao l.length co, Value.bool so]⟩, ⟨p1, 27, #[Value.slice A l.length cap, Value.bool so]⟩] w92 := hH92
                clear hf
                clear he91 a91 hH87
                refine lV (Value.int .i64 ((fitR l so k).e)) he93 rfl rfl (wanted_plain rfl _) (rn_asg rfl (he93.op rfl) w92) ?_
                intro a94 he94
                clear he93 a93
                refine wpList_nil ?_
                refine then_ok ?_
                have he95 : Env 75 [(7, Value.int .i64 ((fitR l so k).e)), (6, Value.pointer (some ⟨p46, 0, none⟩)), (5, Value.pointer (some ⟨p11, 0, none⟩)), (2, Value.pointer (some ⟨p1, 0, none⟩)), (1, Value.int .i64 (k : Int))] a94 := he94.mem ⟨rfl, rfl, rfl, rfl, rfl, trivial⟩
                clear he94
                as_aux_lemma =>
                  have hyl : (fitR l so k).L.length ≤ 1000000 := by have := fitR_len l so k; omega
                  have hz2 : (fitL l k).length ≤ 1000000 := by rw [fitL_len]; omega
                  refine wp_seq ?_
                  refine wp_seq ?_
                  refine wp_region_held_drew (S := Hp w [⟨p46, 27, #[Value.slice Ay ((fitR l so k).L).length cy, Value.bool ((fitR l so k).s)]⟩, ⟨p11, 27, #[Value.slice Ao l.length co, Value.bool so]⟩, ⟨p1, 27, #[Value.slice A l.length cap, Value.bool so]⟩]) (by kernel_rfl) (hH92.drew) (fun _ => ?_)
                  have hn : New w92 (World.drew w92) := (Fr.refl _ _).drew
                  replace hoO := own_fr hoO hn (fun _ _ h => h)
                  replace hoY := own_fr hoY hn (fun _ _ h => h)
                  clear hn
                  have hH96 := hH92.drew
                  clear hH92
                  generalize World.drew w92 = w96 at *
                  refine hV (fuel := 6) (i := 0) (Value.agg #[Value.slice Ay ((fitR l so k).L).length cy, Value.bool ((fitR l so k).s)]) he95 rfl rfl rfl (by kernel_rfl) (by kernel_rfl) (by kernel_rfl) (fun _ _ _ h => h) (wanted_plain rfl _) (fun w' hw' => rn_ldp [Value.slice Ay ((fitR l so k).L).length cy, Value.bool ((fitR l so k).s)] rfl (he95.op rfl) undL rfl infoL2 (hw'.at (i := 0) rfl) rfl) hH96 ?_
                  intro a97 he97
                  clear he95 a94
                  refine hV (fuel := 5) (i := 1) (Value.int .i64 ((fitR l so k).e)) he97 rfl rfl rfl (by kernel_rfl) (by kernel_rfl) (by kernel_rfl) (fun _ _ _ h => h) (wanted_plain rfl _) (fun w' _ => rn_mv rfl (he97.op rfl) w') hH96 ?_
                  intro a98 he98
                  clear he97 a97
                  refine hV (fuel := 4) (i := 2) (Value.agg #[Value.slice A l.length cap, Value.bool so]) he98 rfl rfl rfl (by kernel_rfl) (by kernel_rfl) (by kernel_rfl) (fun _ _ _ h => h) (wanted_plain rfl _) (fun w' hw' => rn_ldp [Value.slice A l.length cap, Value.bool so] rfl (he98.op rfl) undL rfl infoL2 (hw'.at (i := 2) rfl) rfl) hH96 ?_
                  intro a99 he99
                  clear he98 a98
                  refine hV (fuel := 3) (i := 3) (Value.int .i64 (k : Int)) he99 rfl rfl rfl (by kernel_rfl) (by kernel_rfl) (by kernel_rfl) (fun _ _ _ h => h) (wanted_plain rfl _) (fun w' _ => rn_mv rfl (he99.op rfl) w') hH96 ?_
                  intro a100 he100
                  clear he99 a99
                  have hzhoT := hH96.new.size
                  refine hC (fuel := 2) (i := 4) he100 (by kernel_rfl) rfl rfl rfl Tryd.func33 (by kernel_rfl) rfl rfl (wanted_plain rfl _) rfl (rfit_l _ l so k (by omega) (by omega) w96 (hx.new hH96.new)) ?_
                  rintro _ w101 ⟨⟨At, ct, rfl, hoT⟩, hn⟩
                  replace hoT := own_base hoT (fun k_ hk_ => Nat.le_trans hzhoT (own_blk hoT k_ hk_))
                  clear hzhoT
                  have hH101 := hH96.call hn
                  replace hoO := own_fr hoO hn (fun _ _ h => h)
                  replace hoY := own_fr hoY hn (fun _ _ h => h)
                  refine ⟨_, rfl, hH101, ?_⟩
                  intro a102 he102
                  clear he100 a100 hH96 hn
                  refine hC (fuel := 1) (i := 5) he102 (by kernel_rfl) rfl rfl rfl Tryd.func18 (by kernel_rfl) rfl rfl (wanted_plain rfl _) rfl (is_s _ (fitR l so k).L (fitR l so k).s (fitR l so k).e _ (fitL l k) so 0 true (by rw [fitR_ok hv hcu.1 hcu.2, Int.toNat_natCast]; simp [isB]) hyl hz2 w101 (SlC.own hoY) (SlC.own hoT)) ?_
                  rintro _ w103 ⟨rfl, hn⟩
                  have hH103 := hH101.call hn
                  replace hoO := own_fr hoO hn (fun _ _ h => h)
                  replace hoY := own_fr hoY hn (fun _ _ h => h)
                  replace hoT := own_fr hoT hn (fun _ _ h => h)
                  refine ⟨_, rfl, hH103, ?_⟩
                  intro a104 he104
                  clear he102 a102 hH101 hn
                  refine hV (fuel := 0) (i := 6) (Value.bool false) he104 rfl rfl rfl (by kernel_rfl) (by kernel_rfl) (by kernel_rfl) (fun _ _ _ h => h) (wanted_plain rfl _) (fun w' _ => rn_not (b := true) rfl (he104.op rfl) w') hH103 ?_
                  intro a105 he105
                  clear he104 a104
                  refine wpAnyH_done (by kernel_rfl) ?_ _
                  refine then_ok ?_
                  refine wp_cond_false (he105.op rfl) ?_
                  refine wp_skip ?_
                  refine then_ok ?_
                  clear hoT
                  have he106 : Env 75 [(7, Value.int .i64 ((fitR l so k).e)), (6, Value.pointer (some ⟨p46, 0, none⟩)), (5, Value.pointer (some ⟨p11, 0, none⟩)), (2, Value.pointer (some ⟨p1, 0, none⟩)), (1, Value.int .i64 (k : Int))] a105 := he105.mem ⟨rfl, rfl, rfl, rfl, rfl, trivial⟩
                  clear he105
                  as_aux_lemma =>
                    refine wp_seq ?_
                    refine wp_region_lit ?_
                    refine lV (Value.pointer (some ⟨p46, 0, none⟩)) he106 rfl rfl (wanted_plain rfl _) (rn_faL0 rfl (he106.op rfl) rfl w103) ?_
                    intro a107 he107
                    clear he106 a105
                    refine lV (Value.slice Ay ((fitR l so k).L).length cy) he107 rfl rfl (wanted_plain rfl _) (rn_ldS rfl (he107.op rfl) (hH103.at (i := 0) rfl) rfl) ?_
                    intro a108 he108
                    clear he107 a107
                    refine lCx he108 rfl rfl Tryd.func17 (by kernel_rfl) rfl rfl (wanted_plain rfl _) rfl (stainP hoY hyl) ?_
                    rintro _ w109 ⟨rfl, hf⟩
                    have hH109 := hH103.ownV hoY hf (Nat.le_refl _) (by kernel_rfl)
                    replace hoO := own_fr hoO hf (fun k_ h1_ h2_ => by first | exact hnehoYhoO k_ h1_ h2_ | exact hnehoOhoY k_ h2_ h1_)
                    refine ⟨_, rfl, ?_⟩
                    intro a110 he110
                    clear he108 a108 hH103 hf hoY
                    refine wpList_nil ?_
                    refine then_ok ?_
                    have he111 : Env 75 [(5, Value.pointer (some ⟨p11, 0, none⟩)), (2, Value.pointer (some ⟨p1, 0, none⟩)), (1, Value.int .i64 (k : Int))] a110 := he110.mem ⟨rfl, rfl, rfl, trivial⟩
                    clear he110
                    refine wp_seq ?_
                    refine wp_region_lit ?_
                    refine lV (Value.agg #[Value.slice Ao l.length co, Value.bool so]) he111 rfl rfl (wanted_plain rfl _) (rn_ldp [Value.slice Ao l.length co, Value.bool so] rfl (he111.op rfl) undL rfl infoL2 (hH109.at (i := 1) rfl) rfl) ?_
                    intro a112 he112
                    clear he111 a110
                    refine lV (Value.agg #[Value.slice A l.length cap, Value.bool so]) he112 rfl rfl (wanted_plain rfl _) (rn_ldp [Value.slice A l.length cap, Value.bool so] rfl (he112.op rfl) undL rfl infoL2 (hH109.at (i := 2) rfl) rfl) ?_
                    intro a113 he113
                    clear he112 a112
                    refine lC he113 rfl rfl Tryd.func25 (by kernel_rfl) rfl rfl (wanted_plain rfl _) rfl (same_s _ l so _ l so true (by simp) (by omega) (by omega) w109 (SlC.own hoO) (hx.new hH109.new)) ?_
                    intro w114 a115 hn he115
                    have hH114 := hH109.call hn
                    replace hoO := own_fr hoO hn (fun _ _ h => h)
                    clear he113 a113 hH109 hn
                    refine lV (Value.bool true) he115 rfl rfl (wanted_plain rfl _) (rn_mv rfl (he115.op rfl) w114) ?_
                    intro a116 he116
                    clear he115 a115
                    refine lC he116 rfl rfl Tryd.func9 (by kernel_rfl) rfl rfl (he116.want rfl rfl rfl rfl rfl) rfl (known_any w114 (hT.new hH114.new)) ?_
                    intro w117 a118 hn he118
                    have hH117 := hH114.call hn
                    replace hoO := own_fr hoO hn (fun _ _ h => h)
                    clear he116 a116 hH114 hn
                    refine lV (Value.bool true) he118 rfl rfl (wanted_plain rfl _) (rn_pk rfl (he118.op rfl) (he118.op rfl) w117) ?_
                    intro a119 he119
                    clear he118 a118
                    refine lV (Value.bool true) he119 rfl rfl (wanted_plain rfl _) (rn_asg rfl (he119.op rfl) w117) ?_
                    intro a120 he120
                    clear he119 a119
                    refine wpList_nil ?_
                    refine then_ok ?_
                    refine wp_ret ?_
                    try simp only [Exit.then, Exit.inBlock]
                    exact ret_env rfl he120 rfl ⟨rfl, hH117.new.new_below⟩
  · skip
    refine wp_seq ?_
    refine wp_seq ?_
    refine wp_region_lit ?_
    refine lV (Value.agg #[Value.slice A l.length cap, Value.bool so]) he3 rfl rfl (wanted_plain rfl _) (rn_ldp [Value.slice A l.length cap, Value.bool so] rfl (he3.op rfl) undL rfl infoL2 (hH1.at (i := 0) rfl) rfl) ?_
    intro a121 he121
    clear he3 a3
    refine lC he121 rfl rfl Tryd.func19 (by kernel_rfl) rfl rfl (wanted_plain rfl _) rfl (small_s _ l so false (decide_eq_false h1) w1 (hx.new hH1.new)) ?_
    intro w122 a123 hn he123
    have hH122 := hH1.call hn
    clear he121 a121 hH1 hn
    refine lV (Value.bool true) he123 rfl rfl (wanted_plain rfl _) (rn_not (b := false) rfl (he123.op rfl) w122) ?_
    intro a124 he124
    clear he123 a123
    refine wpList_nil ?_
    refine then_ok ?_
    refine wp_cond_true (he124.op rfl) ?_
    refine wp_seq ?_
    refine wp_region_lit ?_
    refine lC he124 rfl rfl Tryd.func9 (by kernel_rfl) rfl rfl (wanted_plain rfl _) rfl (known_any w122 (hT.new hH122.new)) ?_
    intro w125 a126 hn he126
    have hH125 := hH122.call hn
    clear he124 a124 hH122 hn
    refine lV (Value.bool true) he126 rfl rfl (wanted_plain rfl _) (rn_asg rfl (he126.op rfl) w125) ?_
    intro a127 he127
    clear he126 a126
    refine wpList_nil ?_
    refine then_ok ?_
    refine wp_ret ?_
    try simp only [Exit.then, Exit.inBlock]
    exact ret_env rfl he127 rfl ⟨rfl, hH125.new.new_below⟩

set_option linter.unusedSimpArgs false in
set_option maxRecDepth 100000 in
set_option maxHeartbeats 1600000 in
theorem linePuts_walk (x : Value) (l : List Ce) (so : Bool) (at_ : Int) (h0 : -9223372036854775808 ≤ at_) (h9 : at_ ≤ 9223372036854775807) (z : Value) (d : List Ce) (w : World) (hx : SlC w x l) (hz : SlC w z d) (hT : Tab w) :
    Calls Tryd.prog 6 #[.agg #[x, .bool so], .int .i64 at_, z] w fun e w' => e = .returned (.bool true) ∧ Below w.heap.size w w' := by
  obtain ⟨A, cap, b, e_, hc, hr⟩ := id hx
  subst e_
  obtain ⟨D, cd, bd, e_, hcd, hd⟩ := id hz
  subst e_
  refine calls_args (vl := [Value.agg #[Value.slice A l.length cap, Value.bool so], Value.int .i64 at_, Value.slice D d.length cd]) 60 Tryd.func6 rfl Tryd.ntmps6 (by kernel_rfl) (fun a he => ?_)
  have he0 : Env 60 [(0, Value.agg #[Value.slice A l.length cap, Value.bool so]), (1, Value.int .i64 at_), (2, Value.slice D d.length cd)] a := he
  clear he
  have hH := Hp.start w
  refine wp_seq ?_
  refine wp_region_lit ?_
  refine lNew (fun p => .pointer (some ⟨p, 0, none⟩)) he0 hH rfl rfl (wanted_plain rfl _) (rn_boxL rfl (he0.op rfl) w) ?_
  intro p1 w1 a2 hn hH1 he2
  clear he0 a hH hn
  refine lV (Value.bool false) he2 rfl rfl (wanted_plain rfl _) (rn_asg rfl (he2.op rfl) w1) ?_
  intro a3 he3
  clear he2 a2
  refine wpList_nil ?_
  refine then_ok ?_
  by_cases h1 : l.length ≤ 40
  · skip
    by_cases h2 : d.length ≤ 40
    · skip
      refine wp_seq ?_
      refine wp_seq ?_
      refine wp_region_lit ?_
      refine lV (Value.agg #[Value.slice A l.length cap, Value.bool so]) he3 rfl rfl (wanted_plain rfl _) (rn_ldp [Value.slice A l.length cap, Value.bool so] rfl (he3.op rfl) undL rfl infoL2 (hH1.at (i := 0) rfl) rfl) ?_
      intro a4 he4
      clear he3 a3
      refine lC he4 rfl rfl Tryd.func19 (by kernel_rfl) rfl rfl (wanted_plain rfl _) rfl (small_s _ l so true (decide_eq_true h1) w1 (hx.new hH1.new)) ?_
      intro w5 a6 hn he6
      have hH5 := hH1.call hn
      clear he4 a4 hH1 hn
      refine lV (Value.bool false) he6 rfl rfl (wanted_plain rfl _) (rn_not (b := true) rfl (he6.op rfl) w5) ?_
      intro a7 he7
      clear he6 a6
      refine lV (Value.bool false) he7 rfl rfl (wanted_plain rfl _) (rn_mv rfl (he7.op rfl) w5) ?_
      intro a8 he8
      clear he7 a7
      refine lV (Value.slice D d.length cd) he8 rfl rfl (he8.want rfl rfl rfl rfl rfl) (rn_mv rfl (he8.op rfl) w5) ?_
      intro a9 he9
      clear he8 a8
      refine lV (Value.int .i64 (d.length : Nat)) he9 rfl rfl (he9.want rfl rfl rfl rfl rfl) (rn_lenC rfl (he9.op rfl) w5) ?_
      intro a10 he10
      clear he9 a9
      refine lV (Value.bool false) he10 rfl rfl (he10.want rfl rfl rfl rfl rfl) (rn_gtr rfl (he10.op rfl) (he10.op rfl) (decide_eq_false (by omega)) w5) ?_
      intro a11 he11
      clear he10 a10
      refine lV (Value.bool false) he11 rfl rfl (wanted_plain rfl _) (rn_pk0 rfl (he11.op rfl) (he11.op rfl) w5) ?_
      intro a12 he12
      clear he11 a11
      refine wpList_nil ?_
      refine then_ok ?_
      refine wp_cond_false (he12.op rfl) ?_
      refine wp_skip ?_
      refine then_ok ?_
      have he13 : Env 60 [(3, Value.pointer (some ⟨p1, 0, none⟩)), (1, Value.int .i64 at_), (2, Value.slice D d.length cd)] a12 := he12.mem ⟨rfl, rfl, rfl, trivial⟩
      clear he12
      as_aux_lemma =>
        refine wp_seq ?_
        refine wp_region_lit ?_
        refine lV (Value.agg #[Value.slice A l.length cap, Value.bool so]) he13 rfl rfl (wanted_plain rfl _) (rn_ldp [Value.slice A l.length cap, Value.bool so] rfl (he13.op rfl) undL rfl infoL2 (hH5.at (i := 0) rfl) rfl) ?_
        intro a14 he14
        clear he13 a12
        have hzhoO := hH5.new.size
        refine lCx he14 rfl rfl Tryd.func26 (by kernel_rfl) rfl rfl (wanted_plain rfl _) rfl (rcopy_l _ l so (by omega) w5 (hx.new hH5.new)) ?_
        rintro _ w15 ⟨⟨Ao, co, rfl, hoO⟩, hn⟩
        replace hoO := own_base hoO (fun k_ hk_ => Nat.le_trans hzhoO (own_blk hoO k_ hk_))
        clear hzhoO
        refine ⟨_, rfl, ?_⟩
        intro a16 he16
        have hH15 := hH5.call hn
        clear he14 a14 hH5
        clear hn
        refine lV (Value.slice D d.length cd) he16 rfl rfl (wanted_plain rfl _) (rn_mv rfl (he16.op rfl) w15) ?_
        intro a17 he17
        clear he16 a16
        have hoN := own_nil w15 w15.heap.size
        refine lEx he17 rfl rfl (wanted_plain rfl _) (rx_append hoN (hd.new hH15.new) rfl (he17.op rfl) (he17.op rfl) (by omega) (Nat.le_refl _)) ?_
        rintro vc wc ⟨hoC, hgc, horc⟩
        rw [List.nil_append] at hoC
        have hneC := rows_apart hoO hoC
        have hoC := own_base hoC (fun k_ hk_ => Nat.le_trans hH15.new.size (own_blk hoC k_ hk_))
        have hnC : New w15 wc := Fr.grown (Fr.refl _ _) hgc (fun k h => by cases h)
        have hHc := hH15.call hnC
        replace hoO := own_fr hoO hnC (fun _ _ h => h)
        intro a19 he19
        clear he17 a17 hH15 hnC hgc horc hoN
        have hq_ := own_shape hoC
        obtain ⟨Ac, cc, e_, hoC2⟩ := hq_
        subst e_
        clear hoC
        have hoC := hoC2
        clear hoC2
        refine lNew (fun p => .pointer (some ⟨p, 0, none⟩)) he19 hHc rfl rfl (wanted_plain rfl _) (rn_allocL rfl wc) ?_
        intro p20 w20 a21 hn hH20 he21
        replace hoO := own_fr hoO hn (fun _ _ h => h)
        replace hoC := own_fr hoC hn (fun _ _ h => h)
        clear he19 a19 hHc hn
        refine lSetF 0 #[Value.slice Ao l.length co, Value.bool so] (cs := #[Value.slice Ao l.length co, Value.bool so]) he21 hH20 rfl (wanted_plain rfl _) rfl rfl rfl rfl rfl (by kernel_rfl) (by kernel_rfl) (by kernel_rfl) rfl ?_
        intro w22 a23 hH22 hf he23
        replace hoO := own_fr hoO hf (fun k_ hk_ e_ => own_far hoO (hH20.at (i := 0) rfl) (show 60 ≠ 27 from by decide) (hk_.trans (congrArg some e_)))
        replace hoC := own_fr hoC hf (fun k_ hk_ e_ => own_far hoC (hH20.at (i := 0) rfl) (show 60 ≠ 27 from by decide) (hk_.trans (congrArg some e_)))
        replace hH22 : Hp w [⟨p20, 27, #[Value.slice Ao l.length co, Value.bool so]⟩, ⟨p1, 27, #[Value.slice A l.length cap, Value.bool so]⟩] w22 := hH22
        clear hf
        clear he21 a21 hH20
        refine lV (Value.slice Ac d.length cc) he23 rfl rfl (wanted_plain rfl _) (rn_asg rfl (he23.op rfl) w22) ?_
        intro a24 he24
        clear he23 a23
        refine wpList_nil ?_
        refine then_ok ?_
        have he25 : Env 60 [(8, Value.slice Ac d.length cc), (7, Value.pointer (some ⟨p20, 0, none⟩)), (3, Value.pointer (some ⟨p1, 0, none⟩)), (1, Value.int .i64 at_), (2, Value.slice D d.length cd)] a24 := he24.mem ⟨rfl, rfl, rfl, rfl, rfl, trivial⟩
        clear he24
        as_aux_lemma =>
          have hxl : (putR l so at_ d).L.length ≤ 1000000 := by have := putR_len l d so at_; omega
          refine wp_seq ?_
          refine wp_region_lit ?_
          refine lV (Value.agg #[Value.slice A l.length cap, Value.bool so]) he25 rfl rfl (wanted_plain rfl _) (rn_ldp [Value.slice A l.length cap, Value.bool so] rfl (he25.op rfl) undL rfl infoL2 (hH22.at (i := 1) rfl) rfl) ?_
          intro a26 he26
          clear he25 a24
          refine lV (Value.int .i64 at_) he26 rfl rfl (wanted_plain rfl _) (rn_mv rfl (he26.op rfl) w22) ?_
          intro a27 he27
          clear he26 a26
          refine lV (Value.slice D d.length cd) he27 rfl rfl (wanted_plain rfl _) (rn_mv rfl (he27.op rfl) w22) ?_
          intro a28 he28
          clear he27 a27
          have hzhoW := hH22.new.size
          refine lCx he28 rfl rfl Tryd.func34 (by kernel_rfl) rfl rfl (wanted_plain rfl _) rfl (rput_l _ l so at_ h0 h9 _ d (by omega) w22 (hx.new hH22.new) (hz.new hH22.new)) ?_
          rintro _ w29 ⟨⟨Aw, cw, rfl, hoW⟩, hn⟩
          replace hoW := own_base hoW (fun k_ hk_ => Nat.le_trans hzhoW (own_blk hoW k_ hk_))
          clear hzhoW
          refine ⟨_, rfl, ?_⟩
          intro a30 he30
          have hH29 := hH22.call hn
          replace hoO := own_fr hoO hn (fun _ _ h => h)
          replace hoC := own_fr hoC hn (fun _ _ h => h)
          clear he28 a28 hH22
          clear hn
          refine lV (Value.tuple #[Value.agg #[Value.slice Aw ((putR l so at_ d).L).length cw, Value.bool ((putR l so at_ d).s)], Value.int .i64 ((putR l so at_ d).e)]) he30 rfl rfl (wanted_plain rfl _) (rn_mv rfl (he30.op rfl) w29) ?_
          intro a31 he31
          clear he30 a30
          refine lV (Value.agg #[Value.slice Aw ((putR l so at_ d).L).length cw, Value.bool ((putR l so at_ d).s)]) he31 rfl rfl (wanted_plain rfl _) (rn_ext rfl (he31.op rfl) rfl w29) ?_
          intro a32 he32
          clear he31 a31
          refine lV (Value.int .i64 ((putR l so at_ d).e)) he32 rfl rfl (wanted_plain rfl _) (rn_ext rfl (he32.op rfl) rfl w29) ?_
          intro a33 he33
          clear he32 a32
          refine lNew (fun p => .pointer (some ⟨p, 0, none⟩)) he33 hH29 rfl rfl (wanted_plain rfl _) (rn_allocL rfl w29) ?_
          intro p34 w34 a35 hn hH34 he35
          replace hoO := own_fr hoO hn (fun _ _ h => h)
          replace hoC := own_fr hoC hn (fun _ _ h => h)
          replace hoW := own_fr hoW hn (fun _ _ h => h)
          clear he33 a33 hH29 hn
          refine lSetF 0 #[Value.slice Aw ((putR l so at_ d).L).length cw, Value.bool ((putR l so at_ d).s)] (cs := #[Value.slice Aw ((putR l so at_ d).L).length cw, Value.bool ((putR l so at_ d).s)]) he35 hH34 rfl (wanted_plain rfl _) rfl rfl rfl rfl rfl (by kernel_rfl) (by kernel_rfl) (by kernel_rfl) rfl ?_
          intro w36 a37 hH36 hf he37
          replace hoO := own_fr hoO hf (fun k_ hk_ e_ => own_far hoO (hH34.at (i := 0) rfl) (show 60 ≠ 27 from by decide) (hk_.trans (congrArg some e_)))
          replace hoC := own_fr hoC hf (fun k_ hk_ e_ => own_far hoC (hH34.at (i := 0) rfl) (show 60 ≠ 27 from by decide) (hk_.trans (congrArg some e_)))
          replace hoW := own_fr hoW hf (fun k_ hk_ e_ => own_far hoW (hH34.at (i := 0) rfl) (show 60 ≠ 27 from by decide) (hk_.trans (congrArg some e_)))
          replace hH36 : Hp w [⟨p34, 27, #[Value.slice Aw ((putR l so at_ d).L).length cw, Value.bool ((putR l so at_ d).s)]⟩, ⟨p20, 27, #[Value.slice Ao l.length co, Value.bool so]⟩, ⟨p1, 27, #[Value.slice A l.length cap, Value.bool so]⟩] w36 := hH36
          clear hf
          clear he35 a35 hH34
          refine lV (Value.int .i64 ((putR l so at_ d).e)) he37 rfl rfl (wanted_plain rfl _) (rn_asg rfl (he37.op rfl) w36) ?_
          intro a38 he38
          clear he37 a37
          refine wpList_nil ?_
          refine then_ok ?_
          have he39 : Env 60 [(10, Value.int .i64 ((putR l so at_ d).e)), (9, Value.pointer (some ⟨p34, 0, none⟩)), (8, Value.slice Ac d.length cc), (7, Value.pointer (some ⟨p20, 0, none⟩)), (3, Value.pointer (some ⟨p1, 0, none⟩)), (1, Value.int .i64 at_), (2, Value.slice D d.length cd)] a38 := he38.mem ⟨rfl, rfl, rfl, rfl, rfl, rfl, rfl, trivial⟩
          clear he38
          as_aux_lemma =>
            refine wp_seq ?_
            refine wp_region_lit ?_
            refine lV (Value.agg #[Value.slice Ao l.length co, Value.bool so]) he39 rfl rfl (wanted_plain rfl _) (rn_ldp [Value.slice Ao l.length co, Value.bool so] rfl (he39.op rfl) undL rfl infoL2 (hH36.at (i := 1) rfl) rfl) ?_
            intro a40 he40
            clear he39 a38
            refine lV (Value.int .i64 at_) he40 rfl rfl (wanted_plain rfl _) (rn_mv rfl (he40.op rfl) w36) ?_
            intro a41 he41
            clear he40 a40
            refine lV (Value.slice Ac d.length cc) he41 rfl rfl (wanted_plain rfl _) (rn_mv rfl (he41.op rfl) w36) ?_
            intro a42 he42
            clear he41 a41
            have hzhoX := hH36.new.size
            refine lCx he42 rfl rfl Tryd.func35 (by kernel_rfl) rfl rfl (wanted_plain rfl _) rfl (put_l _ l so at_ h0 h9 _ d (by omega) w36 (SlC.own hoO) (SlC.own hoC) (hT.new hH36.new)) ?_
            rintro _ w43 ⟨⟨Ax, cx, rfl, hoX⟩, hn⟩
            have hnehoXhoO := rows_apart hoO hoX
            have hnehoXhoC := rows_apart hoC hoX
            replace hoX := own_base hoX (fun k_ hk_ => Nat.le_trans hzhoX (own_blk hoX k_ hk_))
            clear hzhoX
            refine ⟨_, rfl, ?_⟩
            intro a44 he44
            have hH43 := hH36.call hn
            replace hoO := own_fr hoO hn (fun _ _ h => h)
            replace hoC := own_fr hoC hn (fun _ _ h => h)
            replace hoW := own_fr hoW hn (fun _ _ h => h)
            clear he42 a42 hH36
            clear hn
            refine lV (Value.tuple #[Value.agg #[Value.slice Ax ((putR l so at_ d).L).length cx, Value.bool ((putR l so at_ d).s)], Value.int .i64 ((putR l so at_ d).e)]) he44 rfl rfl (wanted_plain rfl _) (rn_mv rfl (he44.op rfl) w43) ?_
            intro a45 he45
            clear he44 a44
            refine lV (Value.agg #[Value.slice Ax ((putR l so at_ d).L).length cx, Value.bool ((putR l so at_ d).s)]) he45 rfl rfl (wanted_plain rfl _) (rn_ext rfl (he45.op rfl) rfl w43) ?_
            intro a46 he46
            clear he45 a45
            refine lV (Value.int .i64 ((putR l so at_ d).e)) he46 rfl rfl (wanted_plain rfl _) (rn_ext rfl (he46.op rfl) rfl w43) ?_
            intro a47 he47
            clear he46 a46
            refine lNew (fun p => .pointer (some ⟨p, 0, none⟩)) he47 hH43 rfl rfl (wanted_plain rfl _) (rn_allocL rfl w43) ?_
            intro p48 w48 a49 hn hH48 he49
            replace hoO := own_fr hoO hn (fun _ _ h => h)
            replace hoC := own_fr hoC hn (fun _ _ h => h)
            replace hoW := own_fr hoW hn (fun _ _ h => h)
            replace hoX := own_fr hoX hn (fun _ _ h => h)
            clear he47 a47 hH43 hn
            refine lSetF 0 #[Value.slice Ax ((putR l so at_ d).L).length cx, Value.bool ((putR l so at_ d).s)] (cs := #[Value.slice Ax ((putR l so at_ d).L).length cx, Value.bool ((putR l so at_ d).s)]) he49 hH48 rfl (wanted_plain rfl _) rfl rfl rfl rfl rfl (by kernel_rfl) (by kernel_rfl) (by kernel_rfl) rfl ?_
            intro w50 a51 hH50 hf he51
            replace hoO := own_fr hoO hf (fun k_ hk_ e_ => own_far hoO (hH48.at (i := 0) rfl) (show 60 ≠ 27 from by decide) (hk_.trans (congrArg some e_)))
            replace hoC := own_fr hoC hf (fun k_ hk_ e_ => own_far hoC (hH48.at (i := 0) rfl) (show 60 ≠ 27 from by decide) (hk_.trans (congrArg some e_)))
            replace hoW := own_fr hoW hf (fun k_ hk_ e_ => own_far hoW (hH48.at (i := 0) rfl) (show 60 ≠ 27 from by decide) (hk_.trans (congrArg some e_)))
            replace hoX := own_fr hoX hf (fun k_ hk_ e_ => own_far hoX (hH48.at (i := 0) rfl) (show 60 ≠ 27 from by decide) (hk_.trans (congrArg some e_)))
            replace hH50 : Hp w [⟨p48, 27, #[Value.slice Ax ((putR l so at_ d).L).length cx, Value.bool ((putR l so at_ d).s)]⟩, ⟨p34, 27, #[Value.slice Aw ((putR l so at_ d).L).length cw, Value.bool ((putR l so at_ d).s)]⟩, ⟨p20, 27, #[Value.slice Ao l.length co, Value.bool so]⟩, ⟨p1, 27, #[Value.slice A l.length cap, Value.bool so]⟩] w50 := hH50
            clear hf
            clear he49 a49 hH48
            refine lV (Value.int .i64 ((putR l so at_ d).e)) he51 rfl rfl (wanted_plain rfl _) (rn_asg rfl (he51.op rfl) w50) ?_
            intro a52 he52
            clear he51 a51
            refine wpList_nil ?_
            refine then_ok ?_
            have he53 : Env 60 [(12, Value.int .i64 ((putR l so at_ d).e)), (11, Value.pointer (some ⟨p48, 0, none⟩)), (10, Value.int .i64 ((putR l so at_ d).e)), (9, Value.pointer (some ⟨p34, 0, none⟩)), (8, Value.slice Ac d.length cc), (7, Value.pointer (some ⟨p20, 0, none⟩)), (3, Value.pointer (some ⟨p1, 0, none⟩)), (1, Value.int .i64 at_), (2, Value.slice D d.length cd)] a52 := he52.mem ⟨rfl, rfl, rfl, rfl, rfl, rfl, rfl, rfl, rfl, trivial⟩
            clear he52
            as_aux_lemma =>
              refine wp_seq ?_
              refine wp_seq ?_
              refine wp_region_lit ?_
              refine lV (Value.agg #[Value.slice Ax ((putR l so at_ d).L).length cx, Value.bool ((putR l so at_ d).s)]) he53 rfl rfl (wanted_plain rfl _) (rn_ldp [Value.slice Ax ((putR l so at_ d).L).length cx, Value.bool ((putR l so at_ d).s)] rfl (he53.op rfl) undL rfl infoL2 (hH50.at (i := 0) rfl) rfl) ?_
              intro a54 he54
              clear he53 a52
              refine lV (Value.int .i64 ((putR l so at_ d).e)) he54 rfl rfl (wanted_plain rfl _) (rn_mv rfl (he54.op rfl) w50) ?_
              intro a55 he55
              clear he54 a54
              refine lV (Value.agg #[Value.slice Aw ((putR l so at_ d).L).length cw, Value.bool ((putR l so at_ d).s)]) he55 rfl rfl (wanted_plain rfl _) (rn_ldp [Value.slice Aw ((putR l so at_ d).L).length cw, Value.bool ((putR l so at_ d).s)] rfl (he55.op rfl) undL rfl infoL2 (hH50.at (i := 1) rfl) rfl) ?_
              intro a56 he56
              clear he55 a55
              refine lV (Value.int .i64 ((putR l so at_ d).e)) he56 rfl rfl (wanted_plain rfl _) (rn_mv rfl (he56.op rfl) w50) ?_
              intro a57 he57
              clear he56 a56
              refine lC he57 rfl rfl Tryd.func18 (by kernel_rfl) rfl rfl (wanted_plain rfl _) rfl (is_s _ (putR l so at_ d).L (putR l so at_ d).s (putR l so at_ d).e _ (putR l so at_ d).L (putR l so at_ d).s (putR l so at_ d).e true (by simp [isB]) hxl hxl w50 (SlC.own hoX) (SlC.own hoW)) ?_
              intro w58 a59 hn he59
              have hH58 := hH50.call hn
              replace hoO := own_fr hoO hn (fun _ _ h => h)
              replace hoC := own_fr hoC hn (fun _ _ h => h)
              replace hoW := own_fr hoW hn (fun _ _ h => h)
              replace hoX := own_fr hoX hn (fun _ _ h => h)
              clear he57 a57 hH50 hn
              refine lV (Value.bool false) he59 rfl rfl (wanted_plain rfl _) (rn_not (b := true) rfl (he59.op rfl) w58) ?_
              intro a60 he60
              clear he59 a59
              refine wpList_nil ?_
              refine then_ok ?_
              refine wp_cond_false (he60.op rfl) ?_
              refine wp_skip ?_
              refine then_ok ?_
              clear hoW
              refine wp_seq ?_
              refine wp_region_lit ?_
              refine lV (Value.pointer (some ⟨p48, 0, none⟩)) he60 rfl rfl (wanted_plain rfl _) (rn_faL0 rfl (he60.op rfl) rfl w58) ?_
              intro a61 he61
              clear he60 a60
              refine lV (Value.slice Ax ((putR l so at_ d).L).length cx) he61 rfl rfl (wanted_plain rfl _) (rn_ldS rfl (he61.op rfl) (hH58.at (i := 0) rfl) rfl) ?_
              intro a62 he62
              clear he61 a61
              refine lCx he62 rfl rfl Tryd.func17 (by kernel_rfl) rfl rfl (wanted_plain rfl _) rfl (stainP hoX hxl) ?_
              rintro _ w63 ⟨rfl, hf⟩
              have hH63 := hH58.ownV hoX hf (Nat.le_refl _) (by kernel_rfl)
              replace hoO := own_fr hoO hf (fun k_ h1_ h2_ => by first | exact hnehoXhoO k_ h1_ h2_ | exact hnehoOhoX k_ h2_ h1_)
              replace hoC := own_fr hoC hf (fun k_ h1_ h2_ => by first | exact hnehoXhoC k_ h1_ h2_ | exact hnehoChoX k_ h2_ h1_)
              refine ⟨_, rfl, ?_⟩
              intro a64 he64
              clear he62 a62 hH58 hf hoX
              refine wpList_nil ?_
              refine then_ok ?_
              have he65 : Env 60 [(8, Value.slice Ac d.length cc), (7, Value.pointer (some ⟨p20, 0, none⟩)), (3, Value.pointer (some ⟨p1, 0, none⟩)), (2, Value.slice D d.length cd)] a64 := he64.mem ⟨rfl, rfl, rfl, rfl, trivial⟩
              clear he64
              refine wp_seq ?_
              refine wp_region_lit ?_
              refine lV (Value.agg #[Value.slice Ao l.length co, Value.bool so]) he65 rfl rfl (wanted_plain rfl _) (rn_ldp [Value.slice Ao l.length co, Value.bool so] rfl (he65.op rfl) undL rfl infoL2 (hH63.at (i := 2) rfl) rfl) ?_
              intro a66 he66
              clear he65 a64
              refine lV (Value.agg #[Value.slice A l.length cap, Value.bool so]) he66 rfl rfl (wanted_plain rfl _) (rn_ldp [Value.slice A l.length cap, Value.bool so] rfl (he66.op rfl) undL rfl infoL2 (hH63.at (i := 3) rfl) rfl) ?_
              intro a67 he67
              clear he66 a66
              refine lC he67 rfl rfl Tryd.func25 (by kernel_rfl) rfl rfl (wanted_plain rfl _) rfl (same_s _ l so _ l so true (by simp) (by omega) (by omega) w63 (SlC.own hoO) (hx.new hH63.new)) ?_
              intro w68 a69 hn he69
              have hH68 := hH63.call hn
              replace hoO := own_fr hoO hn (fun _ _ h => h)
              replace hoC := own_fr hoC hn (fun _ _ h => h)
              clear he67 a67 hH63 hn
              refine lV (Value.bool true) he69 rfl rfl (wanted_plain rfl _) (rn_mv rfl (he69.op rfl) w68) ?_
              intro a70 he70
              clear he69 a69
              refine lV (Value.slice Ac d.length cc) he70 rfl rfl (he70.want rfl rfl rfl rfl rfl) (rn_mv rfl (he70.op rfl) w68) ?_
              intro a71 he71
              clear he70 a70
              refine lV (Value.slice D d.length cd) he71 rfl rfl (he71.want rfl rfl rfl rfl rfl) (rn_mv rfl (he71.op rfl) w68) ?_
              intro a72 he72
              clear he71 a71
              refine lC he72 rfl rfl Tryd.func36 (by kernel_rfl) rfl rfl (he72.want rfl rfl rfl rfl rfl) rfl (sameC_s _ d _ d true (by simp) (by omega) (by omega) w68 (SlC.own hoC) (hz.new hH68.new)) ?_
              intro w73 a74 hn he74
              have hH73 := hH68.call hn
              replace hoO := own_fr hoO hn (fun _ _ h => h)
              replace hoC := own_fr hoC hn (fun _ _ h => h)
              clear he72 a72 hH68 hn
              refine lV (Value.bool true) he74 rfl rfl (wanted_plain rfl _) (rn_pk rfl (he74.op rfl) (he74.op rfl) w73) ?_
              intro a75 he75
              clear he74 a74
              refine lV (Value.bool true) he75 rfl rfl (wanted_plain rfl _) (rn_mv rfl (he75.op rfl) w73) ?_
              intro a76 he76
              clear he75 a75
              refine lC he76 rfl rfl Tryd.func9 (by kernel_rfl) rfl rfl (he76.want rfl rfl rfl rfl rfl) rfl (known_any w73 (hT.new hH73.new)) ?_
              intro w77 a78 hn he78
              have hH77 := hH73.call hn
              replace hoO := own_fr hoO hn (fun _ _ h => h)
              replace hoC := own_fr hoC hn (fun _ _ h => h)
              clear he76 a76 hH73 hn
              refine lV (Value.bool true) he78 rfl rfl (wanted_plain rfl _) (rn_pk rfl (he78.op rfl) (he78.op rfl) w77) ?_
              intro a79 he79
              clear he78 a78
              refine lV (Value.bool true) he79 rfl rfl (wanted_plain rfl _) (rn_asg rfl (he79.op rfl) w77) ?_
              intro a80 he80
              clear he79 a79
              refine wpList_nil ?_
              refine then_ok ?_
              refine wp_ret ?_
              try simp only [Exit.then, Exit.inBlock]
              exact ret_env rfl he80 rfl ⟨rfl, hH77.new.new_below⟩
    · skip
      refine wp_seq ?_
      refine wp_seq ?_
      refine wp_region_lit ?_
      refine lV (Value.agg #[Value.slice A l.length cap, Value.bool so]) he3 rfl rfl (wanted_plain rfl _) (rn_ldp [Value.slice A l.length cap, Value.bool so] rfl (he3.op rfl) undL rfl infoL2 (hH1.at (i := 0) rfl) rfl) ?_
      intro a81 he81
      clear he3 a3
      refine lC he81 rfl rfl Tryd.func19 (by kernel_rfl) rfl rfl (wanted_plain rfl _) rfl (small_s _ l so true (decide_eq_true h1) w1 (hx.new hH1.new)) ?_
      intro w82 a83 hn he83
      have hH82 := hH1.call hn
      clear he81 a81 hH1 hn
      refine lV (Value.bool false) he83 rfl rfl (wanted_plain rfl _) (rn_not (b := true) rfl (he83.op rfl) w82) ?_
      intro a84 he84
      clear he83 a83
      refine lV (Value.bool false) he84 rfl rfl (wanted_plain rfl _) (rn_mv rfl (he84.op rfl) w82) ?_
      intro a85 he85
      clear he84 a84
      refine lV (Value.slice D d.length cd) he85 rfl rfl (he85.want rfl rfl rfl rfl rfl) (rn_mv rfl (he85.op rfl) w82) ?_
      intro a86 he86
      clear he85 a85
      refine lV (Value.int .i64 (d.length : Nat)) he86 rfl rfl (he86.want rfl rfl rfl rfl rfl) (rn_lenC rfl (he86.op rfl) w82) ?_
      intro a87 he87
      clear he86 a86
      refine lV (Value.bool true) he87 rfl rfl (he87.want rfl rfl rfl rfl rfl) (rn_gtr rfl (he87.op rfl) (he87.op rfl) (decide_eq_true (by omega)) w82) ?_
      intro a88 he88
      clear he87 a87
      refine lV (Value.bool true) he88 rfl rfl (wanted_plain rfl _) (rn_pk0 rfl (he88.op rfl) (he88.op rfl) w82) ?_
      intro a89 he89
      clear he88 a88
      refine wpList_nil ?_
      refine then_ok ?_
      refine wp_cond_true (he89.op rfl) ?_
      refine wp_seq ?_
      refine wp_region_lit ?_
      refine lC he89 rfl rfl Tryd.func9 (by kernel_rfl) rfl rfl (wanted_plain rfl _) rfl (known_any w82 (hT.new hH82.new)) ?_
      intro w90 a91 hn he91
      have hH90 := hH82.call hn
      clear he89 a89 hH82 hn
      refine lV (Value.bool true) he91 rfl rfl (wanted_plain rfl _) (rn_asg rfl (he91.op rfl) w90) ?_
      intro a92 he92
      clear he91 a91
      refine wpList_nil ?_
      refine then_ok ?_
      refine wp_ret ?_
      try simp only [Exit.then, Exit.inBlock]
      exact ret_env rfl he92 rfl ⟨rfl, hH90.new.new_below⟩
  · skip
    by_cases h2 : d.length ≤ 40
    · skip
      refine wp_seq ?_
      refine wp_seq ?_
      refine wp_region_lit ?_
      refine lV (Value.agg #[Value.slice A l.length cap, Value.bool so]) he3 rfl rfl (wanted_plain rfl _) (rn_ldp [Value.slice A l.length cap, Value.bool so] rfl (he3.op rfl) undL rfl infoL2 (hH1.at (i := 0) rfl) rfl) ?_
      intro a93 he93
      clear he3 a3
      refine lC he93 rfl rfl Tryd.func19 (by kernel_rfl) rfl rfl (wanted_plain rfl _) rfl (small_s _ l so false (decide_eq_false h1) w1 (hx.new hH1.new)) ?_
      intro w94 a95 hn he95
      have hH94 := hH1.call hn
      clear he93 a93 hH1 hn
      refine lV (Value.bool true) he95 rfl rfl (wanted_plain rfl _) (rn_not (b := false) rfl (he95.op rfl) w94) ?_
      intro a96 he96
      clear he95 a95
      refine lV (Value.bool true) he96 rfl rfl (wanted_plain rfl _) (rn_mv rfl (he96.op rfl) w94) ?_
      intro a97 he97
      clear he96 a96
      refine lSkip he97 rfl rfl (he97.wantNot rfl rfl rfl rfl rfl rfl) ?_
      intro a98 he98
      clear he97 a97
      refine lSkip he98 rfl rfl (he98.wantNot rfl rfl rfl rfl rfl rfl) ?_
      intro a99 he99
      clear he98 a98
      refine lSkip he99 rfl rfl (he99.wantNot rfl rfl rfl rfl rfl rfl) ?_
      intro a100 he100
      clear he99 a99
      refine lV (Value.bool true) he100 rfl rfl (wanted_plain rfl _) (rn_pk rfl (he100.op rfl) (he100.op rfl) w94) ?_
      intro a101 he101
      clear he100 a100
      refine wpList_nil ?_
      refine then_ok ?_
      refine wp_cond_true (he101.op rfl) ?_
      refine wp_seq ?_
      refine wp_region_lit ?_
      refine lC he101 rfl rfl Tryd.func9 (by kernel_rfl) rfl rfl (wanted_plain rfl _) rfl (known_any w94 (hT.new hH94.new)) ?_
      intro w102 a103 hn he103
      have hH102 := hH94.call hn
      clear he101 a101 hH94 hn
      refine lV (Value.bool true) he103 rfl rfl (wanted_plain rfl _) (rn_asg rfl (he103.op rfl) w102) ?_
      intro a104 he104
      clear he103 a103
      refine wpList_nil ?_
      refine then_ok ?_
      refine wp_ret ?_
      try simp only [Exit.then, Exit.inBlock]
      exact ret_env rfl he104 rfl ⟨rfl, hH102.new.new_below⟩
    · skip
      refine wp_seq ?_
      refine wp_seq ?_
      refine wp_region_lit ?_
      refine lV (Value.agg #[Value.slice A l.length cap, Value.bool so]) he3 rfl rfl (wanted_plain rfl _) (rn_ldp [Value.slice A l.length cap, Value.bool so] rfl (he3.op rfl) undL rfl infoL2 (hH1.at (i := 0) rfl) rfl) ?_
      intro a105 he105
      clear he3 a3
      refine lC he105 rfl rfl Tryd.func19 (by kernel_rfl) rfl rfl (wanted_plain rfl _) rfl (small_s _ l so false (decide_eq_false h1) w1 (hx.new hH1.new)) ?_
      intro w106 a107 hn he107
      have hH106 := hH1.call hn
      clear he105 a105 hH1 hn
      refine lV (Value.bool true) he107 rfl rfl (wanted_plain rfl _) (rn_not (b := false) rfl (he107.op rfl) w106) ?_
      intro a108 he108
      clear he107 a107
      refine lV (Value.bool true) he108 rfl rfl (wanted_plain rfl _) (rn_mv rfl (he108.op rfl) w106) ?_
      intro a109 he109
      clear he108 a108
      refine lSkip he109 rfl rfl (he109.wantNot rfl rfl rfl rfl rfl rfl) ?_
      intro a110 he110
      clear he109 a109
      refine lSkip he110 rfl rfl (he110.wantNot rfl rfl rfl rfl rfl rfl) ?_
      intro a111 he111
      clear he110 a110
      refine lSkip he111 rfl rfl (he111.wantNot rfl rfl rfl rfl rfl rfl) ?_
      intro a112 he112
      clear he111 a111
      refine lV (Value.bool true) he112 rfl rfl (wanted_plain rfl _) (rn_pk rfl (he112.op rfl) (he112.op rfl) w106) ?_
      intro a113 he113
      clear he112 a112
      refine wpList_nil ?_
      refine then_ok ?_
      refine wp_cond_true (he113.op rfl) ?_
      refine wp_seq ?_
      refine wp_region_lit ?_
      refine lC he113 rfl rfl Tryd.func9 (by kernel_rfl) rfl rfl (wanted_plain rfl _) rfl (known_any w106 (hT.new hH106.new)) ?_
      intro w114 a115 hn he115
      have hH114 := hH106.call hn
      clear he113 a113 hH106 hn
      refine lV (Value.bool true) he115 rfl rfl (wanted_plain rfl _) (rn_asg rfl (he115.op rfl) w114) ?_
      intro a116 he116
      clear he115 a115
      refine wpList_nil ?_
      refine then_ok ?_
      refine wp_ret ?_
      try simp only [Exit.then, Exit.inBlock]
      exact ret_env rfl he116 rfl ⟨rfl, hH114.new.new_below⟩

end Go.Proofs.YtjcpdldaimebbaaDoor
