/-
  The statements' walks: places compared, nearest places, steps, texts.
-/
import Derived.Test.YtijaemfalljdoaaDoorPLaw
namespace Go.Proofs.YtijaemfalljdoaaDoor
open Go.RowKit

theorem cmp_cases (p q : Pl) : ((p.l < q.l ∨ p.l = q.l ∧ p.c < q.c) ∧ cmpP p q = -1) ∨ ((q.l < p.l ∨ q.l = p.l ∧ q.c < p.c) ∧ cmpP p q = 1) ∨ (p.l = q.l ∧ p.c = q.c ∧ cmpP p q = 0) := by
  unfold cmpP befP
  split
  · omega
  · split <;> omega
theorem step_dist {p q : Pl} {c : Int} (hc : colP c) (hp : inP p c) (hq : inP q c) : stepP p ((q.l * c + q.c) - (p.l * c + p.c)) c = (q, 0) := by
  obtain ⟨⟨q0, q1, q2, q3⟩, q4⟩ := hq
  rw [stepP_q (q := q.l) (r := q.c) ⟨hc, hp⟩ (by omega) q2 q4, if_pos ⟨q0, q1⟩]
theorem dist_I64 {p q : Pl} {c : Int} (hc : colP c) (hp : inP p c) (hq : inP q c) : I64 ((q.l * c + q.c) - (p.l * c + p.c)) := by
  obtain ⟨⟨p0, p1, p2, p3⟩, p4⟩ := hp
  obtain ⟨⟨q0, q1, q2, q3⟩, q4⟩ := hq
  have h1 := mul_range p0 p1 hc.1 hc.2
  have h2 := mul_range q0 q1 hc.1 hc.2
  unfold I64
  omega
set_option linter.unusedSimpArgs false in
set_option maxRecDepth 100000 in
set_option maxHeartbeats 1600000 in
theorem PlaceCompares_w (p q r : Pl) (w : World) (hT : Tab w) : Calls Tryd.prog 3 #[.agg #[.int .i64 p.l, .int .i64 p.c], .agg #[.int .i64 q.l, .int .i64 q.c], .agg #[.int .i64 r.l, .int .i64 r.c]] w fun e w' => e = .returned (.bool true) ∧ New w w' := by
  have k1 := cmp_cases p q
  have k2 := cmp_cases q p
  have k3 := cmp_cases p r
  refine calls_args (vl := [Value.agg #[Value.int .i64 p.l, Value.int .i64 p.c], Value.agg #[Value.int .i64 q.l, Value.int .i64 q.c], Value.agg #[Value.int .i64 r.l, Value.int .i64 r.c]]) 87 Tryd.func3 rfl Tryd.ntmps3 (by kernel_rfl) (fun a he => ?_)
  have he0 : Env 87 [(0, Value.agg #[Value.int .i64 p.l, Value.int .i64 p.c]), (1, Value.agg #[Value.int .i64 q.l, Value.int .i64 q.c]), (2, Value.agg #[Value.int .i64 r.l, Value.int .i64 r.c])] a := he
  clear he
  have hH := Hp.start w
  refine wp_seq ?_
  refine wp_region_lit ?_
  refine lNewP (fun p => .pointer (some ⟨p, 0, none⟩)) he0 hH rfl rfl (wanted_plain rfl _) (rn_boxZ rfl (he0.op rfl) w) ?_
  intro p1 w1 a2 hp hn hH1 he2
  clear he0 a hH hn hp
  refine lNewP (fun p => .pointer (some ⟨p, 0, none⟩)) he2 hH1 rfl rfl (wanted_plain rfl _) (rn_boxZ rfl (he2.op rfl) w1) ?_
  intro p3 w3 a4 hp hn hH3 he4
  clear he2 a2 hH1 hn hp
  refine lNewP (fun p => .pointer (some ⟨p, 0, none⟩)) he4 hH3 rfl rfl (wanted_plain rfl _) (rn_boxZ rfl (he4.op rfl) w3) ?_
  intro p5 w5 a6 hp hn hH5 he6
  clear he4 a4 hH3 hn hp
  refine lV (Value.bool false) he6 rfl rfl (wanted_plain rfl _) (rn_asg rfl (he6.op rfl) w5) ?_
  intro a7 he7
  clear he6 a6
  refine wpList_nil ?_
  refine then_ok ?_
  refine wp_seq ?_
  refine wp_region_lit ?_
  refine lV (Value.int .i64 0) he7 rfl rfl (wanted_plain rfl _) (rn_asg rfl (he7.op rfl) w5) ?_
  intro a8 he8
  clear he7 a7
  refine wpList_nil ?_
  refine then_ok ?_
  refine wp_seq ?_
  refine wp_block ?_
  refine wp_seq ?_
  refine wp_region_lit ?_
  refine lV (Value.agg #[Value.int .i64 p.l, Value.int .i64 p.c]) he8 rfl rfl (wanted_plain rfl _) (rn_ldp [Value.int .i64 p.l, Value.int .i64 p.c] rfl (he8.op rfl) undZ rfl infoZ2 (hH5.at (i := 2) rfl) rfl) ?_
  intro a9 he9
  clear he8 a8
  refine lV (Value.agg #[Value.int .i64 q.l, Value.int .i64 q.c]) he9 rfl rfl (wanted_plain rfl _) (rn_ldp [Value.int .i64 q.l, Value.int .i64 q.c] rfl (he9.op rfl) undZ rfl infoZ2 (hH5.at (i := 1) rfl) rfl) ?_
  intro a10 he10
  clear he9 a9
  by_cases hb0 : befP p q
  · skip
    refine lC he10 rfl rfl Tryd.func8 (by kernel_rfl) rfl rfl (wanted_plain rfl _) rfl (RBefore_c p q true (decide_eq_true hb0) w5) ?_
    intro w11 a12 hn he12
    have hH11 := hH5.call hn
    clear he10 a10 hH5 hn
    refine lV (Value.bool true) he12 rfl rfl (wanted_plain rfl _) (rn_asg rfl (he12.op rfl) w11) ?_
    intro a13 he13
    clear he12 a12
    refine wpList_nil ?_
    refine then_ok ?_
    refine wp_cond_true (he13.op rfl) ?_
    refine wp_region_lit ?_
    refine lV (Value.int .i64 (-1)) he13 rfl rfl (wanted_plain rfl _) (rn_asg rfl (he13.op rfl) w11) ?_
    intro a14 he14
    clear he13 a13
    refine wpList_nil ?_
    refine block_ok ?_
    refine then_ok ?_
    refine wp_seq ?_
    refine reg_cut (fun a w' => Env 87 [(7, Value.int .i64 (-1)), (5, Value.pointer (some ⟨p5, 0, none⟩)), (4, Value.pointer (some ⟨p3, 0, none⟩)), (3, Value.pointer (some ⟨p1, 0, none⟩))] a ∧ Hp w [⟨p5, 23, #[Value.int .i64 r.l, Value.int .i64 r.c]⟩, ⟨p3, 23, #[Value.int .i64 q.l, Value.int .i64 q.c]⟩, ⟨p1, 23, #[Value.int .i64 p.l, Value.int .i64 p.c]⟩] w') ?_ ?_
    · skip
      refine wp_seq ?_
      refine wp_region_held_drew (S := Hp w [⟨p5, 23, #[Value.int .i64 r.l, Value.int .i64 r.c]⟩, ⟨p3, 23, #[Value.int .i64 q.l, Value.int .i64 q.c]⟩, ⟨p1, 23, #[Value.int .i64 p.l, Value.int .i64 p.c]⟩]) (by kernel_rfl) (hH11.drew) (fun _ => ?_)
      have hn : New w11 (World.drew w11) := (Fr.refl _ _).drew
      clear hn
      have hH15 := hH11.drew
      clear hH11
      generalize World.drew w11 = w15 at *
      refine hV (fuel := 19) (i := 0) (Value.agg #[Value.int .i64 p.l, Value.int .i64 p.c]) he14 rfl rfl rfl (by kernel_rfl) (by kernel_rfl) (by kernel_rfl) (fun _ _ _ h => h) (wanted_plain rfl _) (fun w' hw' => rn_ldp [Value.int .i64 p.l, Value.int .i64 p.c] rfl (he14.op rfl) undZ rfl infoZ2 (hw'.at (i := 2) rfl) rfl) hH15 ?_
      intro a16 he16
      clear he14 a14
      refine hV (fuel := 18) (i := 2) (Value.agg #[Value.int .i64 p.l, Value.int .i64 p.c]) he16 rfl rfl rfl (by kernel_rfl) (by kernel_rfl) (by kernel_rfl) (fun _ _ _ h => h) (wanted_plain rfl _) (fun w' hw' => rn_ldp [Value.int .i64 p.l, Value.int .i64 p.c] rfl (he16.op rfl) undZ rfl infoZ2 (hw'.at (i := 2) rfl) rfl) hH15 ?_
      intro a17 he17
      clear he16 a16
      by_cases hb2 : okP p
      · skip
        refine hC (fuel := 17) (i := 1) he17 (by kernel_rfl) rfl rfl rfl Tryd.func9 (by kernel_rfl) rfl rfl (wanted_plain rfl _) rfl (Valid_c p true (decide_eq_true hb2) w15) ?_
        rintro _ w18 ⟨rfl, hn⟩
        have hH18 := hH15.call hn
        refine ⟨_, rfl, hH18, ?_⟩
        intro a19 he19
        clear he17 a17 hH15 hn
        refine hC (fuel := 16) (i := 3) he19 (by kernel_rfl) rfl rfl rfl Tryd.func10 (by kernel_rfl) rfl rfl (wanted_plain rfl _) rfl (RValid_c p true (decide_eq_true hb2) w18) ?_
        rintro _ w20 ⟨rfl, hn⟩
        have hH20 := hH18.call hn
        refine ⟨_, rfl, hH20, ?_⟩
        intro a21 he21
        clear he19 a19 hH18 hn
        refine hV (fuel := 15) (i := 4) (Value.bool false) he21 rfl rfl rfl (by kernel_rfl) (by kernel_rfl) (by kernel_rfl) (fun _ _ _ h => h) (wanted_plain rfl _) (fun w' _ => rn_neB (i := true) (j := true) rfl (he21.op rfl) (he21.op rfl) rfl w') hH20 ?_
        intro a22 he22
        clear he21 a21
        refine hV (fuel := 14) (i := 5) (Value.bool false) he22 rfl rfl rfl (by kernel_rfl) (by kernel_rfl) (by kernel_rfl) (fun _ _ _ h => h) (wanted_plain rfl _) (fun w' _ => rn_mv rfl (he22.op rfl) w') hH20 ?_
        intro a23 he23
        clear he22 a22
        refine hV (fuel := 13) (i := 6) (Value.agg #[Value.int .i64 p.l, Value.int .i64 p.c]) he23 rfl rfl rfl (by kernel_rfl) (by kernel_rfl) (by kernel_rfl) (fun _ _ _ h => h) (he23.want rfl rfl rfl rfl rfl) (fun w' hw' => rn_ldp [Value.int .i64 p.l, Value.int .i64 p.c] rfl (he23.op rfl) undZ rfl infoZ2 (hw'.at (i := 2) rfl) rfl) hH20 ?_
        intro a24 he24
        clear he23 a23
        refine hV (fuel := 12) (i := 7) (Value.agg #[Value.int .i64 q.l, Value.int .i64 q.c]) he24 rfl rfl rfl (by kernel_rfl) (by kernel_rfl) (by kernel_rfl) (fun _ _ _ h => h) (he24.want rfl rfl rfl rfl rfl) (fun w' hw' => rn_ldp [Value.int .i64 q.l, Value.int .i64 q.c] rfl (he24.op rfl) undZ rfl infoZ2 (hw'.at (i := 1) rfl) rfl) hH20 ?_
        intro a25 he25
        clear he24 a24
        refine hV (fuel := 11) (i := 9) (Value.int .i64 (-1)) he25 rfl rfl rfl (by kernel_rfl) (by kernel_rfl) (by kernel_rfl) (fun _ _ _ h => h) (he25.want rfl rfl rfl rfl rfl) (fun w' _ => rn_mv rfl (he25.op rfl) w') hH20 ?_
        intro a26 he26
        clear he25 a25
        refine hC (fuel := 10) (i := 8) he26 (by kernel_rfl) rfl rfl rfl Tryd.func11 (by kernel_rfl) rfl rfl (he26.want rfl rfl rfl rfl rfl) rfl (Compare_c p q w20) ?_
        rintro _ w27 ⟨rfl, hn⟩
        have hH27 := hH20.call hn
        refine ⟨_, rfl, hH27, ?_⟩
        intro a28 he28
        clear he26 a26 hH20 hn
        by_cases hb3 : (cmpP p q) = (-1)
        · skip
          refine hV (fuel := 9) (i := 10) (Value.bool false) he28 rfl rfl rfl (by kernel_rfl) (by kernel_rfl) (by kernel_rfl) (fun _ _ _ h => h) (he28.want rfl rfl rfl rfl rfl) (fun w' _ => rn_neI rfl (he28.op rfl) (he28.op rfl) (bneT hb3) w') hH27 ?_
          intro a29 he29
          clear he28 a28
          refine hV (fuel := 8) (i := 11) (Value.bool false) he29 rfl rfl rfl (by kernel_rfl) (by kernel_rfl) (by kernel_rfl) (fun _ _ _ h => h) (wanted_plain rfl _) (fun w' _ => rn_pk0 rfl (he29.op rfl) (he29.op rfl) w') hH27 ?_
          intro a30 he30
          clear he29 a29
          refine hV (fuel := 7) (i := 12) (Value.bool false) he30 rfl rfl rfl (by kernel_rfl) (by kernel_rfl) (by kernel_rfl) (fun _ _ _ h => h) (wanted_plain rfl _) (fun w' _ => rn_mv rfl (he30.op rfl) w') hH27 ?_
          intro a31 he31
          clear he30 a30
          refine hV (fuel := 6) (i := 13) (Value.agg #[Value.int .i64 q.l, Value.int .i64 q.c]) he31 rfl rfl rfl (by kernel_rfl) (by kernel_rfl) (by kernel_rfl) (fun _ _ _ h => h) (he31.want rfl rfl rfl rfl rfl) (fun w' hw' => rn_ldp [Value.int .i64 q.l, Value.int .i64 q.c] rfl (he31.op rfl) undZ rfl infoZ2 (hw'.at (i := 1) rfl) rfl) hH27 ?_
          intro a32 he32
          clear he31 a31
          refine hV (fuel := 5) (i := 14) (Value.agg #[Value.int .i64 p.l, Value.int .i64 p.c]) he32 rfl rfl rfl (by kernel_rfl) (by kernel_rfl) (by kernel_rfl) (fun _ _ _ h => h) (he32.want rfl rfl rfl rfl rfl) (fun w' hw' => rn_ldp [Value.int .i64 p.l, Value.int .i64 p.c] rfl (he32.op rfl) undZ rfl infoZ2 (hw'.at (i := 2) rfl) rfl) hH27 ?_
          intro a33 he33
          clear he32 a32
          refine hV (fuel := 4) (i := 16) (Value.int .i64 (-1)) he33 rfl rfl rfl (by kernel_rfl) (by kernel_rfl) (by kernel_rfl) (fun _ _ _ h => h) (he33.want rfl rfl rfl rfl rfl) (fun w' _ => rn_mv rfl (he33.op rfl) w') hH27 ?_
          intro a34 he34
          clear he33 a33
          refine hV (fuel := 3) (i := 17) (Value.int .i64 (-(-1))) he34 rfl rfl rfl (by kernel_rfl) (by kernel_rfl) (by kernel_rfl) (fun _ _ _ h => h) (he34.want rfl rfl rfl rfl rfl) (fun w' _ => rn_negI rfl (he34.op rfl) (i64w (by omega) (by omega)) w') hH27 ?_
          intro a35 he35
          clear he34 a34
          refine hC (fuel := 2) (i := 15) he35 (by kernel_rfl) rfl rfl rfl Tryd.func11 (by kernel_rfl) rfl rfl (he35.want rfl rfl rfl rfl rfl) rfl (Compare_c q p w27) ?_
          rintro _ w36 ⟨rfl, hn⟩
          have hH36 := hH27.call hn
          refine ⟨_, rfl, hH36, ?_⟩
          intro a37 he37
          clear he35 a35 hH27 hn
          by_cases hb4 : (cmpP q p) = (-(-1))
          · skip
            refine hV (fuel := 1) (i := 18) (Value.bool false) he37 rfl rfl rfl (by kernel_rfl) (by kernel_rfl) (by kernel_rfl) (fun _ _ _ h => h) (he37.want rfl rfl rfl rfl rfl) (fun w' _ => rn_neI rfl (he37.op rfl) (he37.op rfl) (bneT hb4) w') hH36 ?_
            intro a38 he38
            clear he37 a37
            refine hV (fuel := 0) (i := 19) (Value.bool false) he38 rfl rfl rfl (by kernel_rfl) (by kernel_rfl) (by kernel_rfl) (fun _ _ _ h => h) (wanted_plain rfl _) (fun w' _ => rn_pk0 rfl (he38.op rfl) (he38.op rfl) w') hH36 ?_
            intro a39 he39
            clear he38 a38
            refine wpAnyH_done (by kernel_rfl) ?_ _
            refine then_ok ?_
            refine wp_cond_false (he39.op rfl) ?_
            refine wp_skip ?_
            refine then_ok ?_
            exact ⟨he39.mem ⟨rfl, rfl, rfl, rfl, trivial⟩, hH36⟩
          · skip
            refine hV (fuel := 1) (i := 18) (Value.bool true) he37 rfl rfl rfl (by kernel_rfl) (by kernel_rfl) (by kernel_rfl) (fun _ _ _ h => h) (he37.want rfl rfl rfl rfl rfl) (fun w' _ => rn_neI rfl (he37.op rfl) (he37.op rfl) (bneF hb4) w') hH36 ?_
            intro a38 he38
            clear he37 a37
            refine hV (fuel := 0) (i := 19) (Value.bool true) he38 rfl rfl rfl (by kernel_rfl) (by kernel_rfl) (by kernel_rfl) (fun _ _ _ h => h) (wanted_plain rfl _) (fun w' _ => rn_pk0 rfl (he38.op rfl) (he38.op rfl) w') hH36 ?_
            intro a39 he39
            clear he38 a38
            refine wpAnyH_done (by kernel_rfl) ?_ _
            refine then_ok ?_
            refine wp_cond_true (he39.op rfl) ?_
            refine wp_seq ?_
            refine wp_region_lit ?_
            refine lV (Value.bool false) he39 rfl rfl (wanted_plain rfl _) (rn_asg rfl (he39.op rfl) w36) ?_
            intro a40 he40
            clear he39 a39
            refine wpList_nil ?_
            refine then_ok ?_
            refine wp_ret ?_
            try simp only [Exit.then, Exit.inBlock, Exit.noGoto]
            omega
        · skip
          refine hV (fuel := 9) (i := 10) (Value.bool true) he28 rfl rfl rfl (by kernel_rfl) (by kernel_rfl) (by kernel_rfl) (fun _ _ _ h => h) (he28.want rfl rfl rfl rfl rfl) (fun w' _ => rn_neI rfl (he28.op rfl) (he28.op rfl) (bneF hb3) w') hH27 ?_
          intro a29 he29
          clear he28 a28
          refine hV (fuel := 8) (i := 11) (Value.bool true) he29 rfl rfl rfl (by kernel_rfl) (by kernel_rfl) (by kernel_rfl) (fun _ _ _ h => h) (wanted_plain rfl _) (fun w' _ => rn_pk0 rfl (he29.op rfl) (he29.op rfl) w') hH27 ?_
          intro a30 he30
          clear he29 a29
          refine hV (fuel := 7) (i := 12) (Value.bool true) he30 rfl rfl rfl (by kernel_rfl) (by kernel_rfl) (by kernel_rfl) (fun _ _ _ h => h) (wanted_plain rfl _) (fun w' _ => rn_mv rfl (he30.op rfl) w') hH27 ?_
          intro a31 he31
          clear he30 a30
          refine hSkip (fuel := 6) (i := 13) he31 rfl rfl rfl (by kernel_rfl) (by kernel_rfl) (by kernel_rfl) (fun _ _ _ h => h) (he31.wantNot rfl rfl rfl rfl rfl rfl) hH27 ?_
          intro a32 he32
          clear he31 a31
          refine hSkip (fuel := 5) (i := 14) he32 rfl rfl rfl (by kernel_rfl) (by kernel_rfl) (by kernel_rfl) (fun _ _ _ h => h) (he32.wantNot rfl rfl rfl rfl rfl rfl) hH27 ?_
          intro a33 he33
          clear he32 a32
          refine hSkip (fuel := 4) (i := 15) he33 rfl rfl rfl (by kernel_rfl) (by kernel_rfl) (by kernel_rfl) (fun _ _ _ h => h) (he33.wantNot rfl rfl rfl rfl rfl rfl) hH27 ?_
          intro a34 he34
          clear he33 a33
          refine hSkip (fuel := 3) (i := 16) he34 rfl rfl rfl (by kernel_rfl) (by kernel_rfl) (by kernel_rfl) (fun _ _ _ h => h) (he34.wantNot rfl rfl rfl rfl rfl rfl) hH27 ?_
          intro a35 he35
          clear he34 a34
          refine hSkip (fuel := 2) (i := 17) he35 rfl rfl rfl (by kernel_rfl) (by kernel_rfl) (by kernel_rfl) (fun _ _ _ h => h) (he35.wantNot rfl rfl rfl rfl rfl rfl) hH27 ?_
          intro a36 he36
          clear he35 a35
          refine hSkip (fuel := 1) (i := 18) he36 rfl rfl rfl (by kernel_rfl) (by kernel_rfl) (by kernel_rfl) (fun _ _ _ h => h) (he36.wantNot rfl rfl rfl rfl rfl rfl) hH27 ?_
          intro a37 he37
          clear he36 a36
          refine hV (fuel := 0) (i := 19) (Value.bool true) he37 rfl rfl rfl (by kernel_rfl) (by kernel_rfl) (by kernel_rfl) (fun _ _ _ h => h) (wanted_plain rfl _) (fun w' _ => rn_pk rfl (he37.op rfl) (he37.op rfl) w') hH27 ?_
          intro a38 he38
          clear he37 a37
          refine wpAnyH_done (by kernel_rfl) ?_ _
          refine then_ok ?_
          refine wp_cond_true (he38.op rfl) ?_
          refine wp_seq ?_
          refine wp_region_lit ?_
          refine lV (Value.bool false) he38 rfl rfl (wanted_plain rfl _) (rn_asg rfl (he38.op rfl) w27) ?_
          intro a39 he39
          clear he38 a38
          refine wpList_nil ?_
          refine then_ok ?_
          refine wp_ret ?_
          try simp only [Exit.then, Exit.inBlock, Exit.noGoto]
          omega
      · skip
        refine hC (fuel := 17) (i := 1) he17 (by kernel_rfl) rfl rfl rfl Tryd.func9 (by kernel_rfl) rfl rfl (wanted_plain rfl _) rfl (Valid_c p false (decide_eq_false hb2) w15) ?_
        rintro _ w18 ⟨rfl, hn⟩
        have hH18 := hH15.call hn
        refine ⟨_, rfl, hH18, ?_⟩
        intro a19 he19
        clear he17 a17 hH15 hn
        refine hC (fuel := 16) (i := 3) he19 (by kernel_rfl) rfl rfl rfl Tryd.func10 (by kernel_rfl) rfl rfl (wanted_plain rfl _) rfl (RValid_c p false (decide_eq_false hb2) w18) ?_
        rintro _ w20 ⟨rfl, hn⟩
        have hH20 := hH18.call hn
        refine ⟨_, rfl, hH20, ?_⟩
        intro a21 he21
        clear he19 a19 hH18 hn
        refine hV (fuel := 15) (i := 4) (Value.bool false) he21 rfl rfl rfl (by kernel_rfl) (by kernel_rfl) (by kernel_rfl) (fun _ _ _ h => h) (wanted_plain rfl _) (fun w' _ => rn_neB (i := false) (j := false) rfl (he21.op rfl) (he21.op rfl) rfl w') hH20 ?_
        intro a22 he22
        clear he21 a21
        refine hV (fuel := 14) (i := 5) (Value.bool false) he22 rfl rfl rfl (by kernel_rfl) (by kernel_rfl) (by kernel_rfl) (fun _ _ _ h => h) (wanted_plain rfl _) (fun w' _ => rn_mv rfl (he22.op rfl) w') hH20 ?_
        intro a23 he23
        clear he22 a22
        refine hV (fuel := 13) (i := 6) (Value.agg #[Value.int .i64 p.l, Value.int .i64 p.c]) he23 rfl rfl rfl (by kernel_rfl) (by kernel_rfl) (by kernel_rfl) (fun _ _ _ h => h) (he23.want rfl rfl rfl rfl rfl) (fun w' hw' => rn_ldp [Value.int .i64 p.l, Value.int .i64 p.c] rfl (he23.op rfl) undZ rfl infoZ2 (hw'.at (i := 2) rfl) rfl) hH20 ?_
        intro a24 he24
        clear he23 a23
        refine hV (fuel := 12) (i := 7) (Value.agg #[Value.int .i64 q.l, Value.int .i64 q.c]) he24 rfl rfl rfl (by kernel_rfl) (by kernel_rfl) (by kernel_rfl) (fun _ _ _ h => h) (he24.want rfl rfl rfl rfl rfl) (fun w' hw' => rn_ldp [Value.int .i64 q.l, Value.int .i64 q.c] rfl (he24.op rfl) undZ rfl infoZ2 (hw'.at (i := 1) rfl) rfl) hH20 ?_
        intro a25 he25
        clear he24 a24
        refine hV (fuel := 11) (i := 9) (Value.int .i64 (-1)) he25 rfl rfl rfl (by kernel_rfl) (by kernel_rfl) (by kernel_rfl) (fun _ _ _ h => h) (he25.want rfl rfl rfl rfl rfl) (fun w' _ => rn_mv rfl (he25.op rfl) w') hH20 ?_
        intro a26 he26
        clear he25 a25
        refine hC (fuel := 10) (i := 8) he26 (by kernel_rfl) rfl rfl rfl Tryd.func11 (by kernel_rfl) rfl rfl (he26.want rfl rfl rfl rfl rfl) rfl (Compare_c p q w20) ?_
        rintro _ w27 ⟨rfl, hn⟩
        have hH27 := hH20.call hn
        refine ⟨_, rfl, hH27, ?_⟩
        intro a28 he28
        clear he26 a26 hH20 hn
        by_cases hb3 : (cmpP p q) = (-1)
        · skip
          refine hV (fuel := 9) (i := 10) (Value.bool false) he28 rfl rfl rfl (by kernel_rfl) (by kernel_rfl) (by kernel_rfl) (fun _ _ _ h => h) (he28.want rfl rfl rfl rfl rfl) (fun w' _ => rn_neI rfl (he28.op rfl) (he28.op rfl) (bneT hb3) w') hH27 ?_
          intro a29 he29
          clear he28 a28
          refine hV (fuel := 8) (i := 11) (Value.bool false) he29 rfl rfl rfl (by kernel_rfl) (by kernel_rfl) (by kernel_rfl) (fun _ _ _ h => h) (wanted_plain rfl _) (fun w' _ => rn_pk0 rfl (he29.op rfl) (he29.op rfl) w') hH27 ?_
          intro a30 he30
          clear he29 a29
          refine hV (fuel := 7) (i := 12) (Value.bool false) he30 rfl rfl rfl (by kernel_rfl) (by kernel_rfl) (by kernel_rfl) (fun _ _ _ h => h) (wanted_plain rfl _) (fun w' _ => rn_mv rfl (he30.op rfl) w') hH27 ?_
          intro a31 he31
          clear he30 a30
          refine hV (fuel := 6) (i := 13) (Value.agg #[Value.int .i64 q.l, Value.int .i64 q.c]) he31 rfl rfl rfl (by kernel_rfl) (by kernel_rfl) (by kernel_rfl) (fun _ _ _ h => h) (he31.want rfl rfl rfl rfl rfl) (fun w' hw' => rn_ldp [Value.int .i64 q.l, Value.int .i64 q.c] rfl (he31.op rfl) undZ rfl infoZ2 (hw'.at (i := 1) rfl) rfl) hH27 ?_
          intro a32 he32
          clear he31 a31
          refine hV (fuel := 5) (i := 14) (Value.agg #[Value.int .i64 p.l, Value.int .i64 p.c]) he32 rfl rfl rfl (by kernel_rfl) (by kernel_rfl) (by kernel_rfl) (fun _ _ _ h => h) (he32.want rfl rfl rfl rfl rfl) (fun w' hw' => rn_ldp [Value.int .i64 p.l, Value.int .i64 p.c] rfl (he32.op rfl) undZ rfl infoZ2 (hw'.at (i := 2) rfl) rfl) hH27 ?_
          intro a33 he33
          clear he32 a32
          refine hV (fuel := 4) (i := 16) (Value.int .i64 (-1)) he33 rfl rfl rfl (by kernel_rfl) (by kernel_rfl) (by kernel_rfl) (fun _ _ _ h => h) (he33.want rfl rfl rfl rfl rfl) (fun w' _ => rn_mv rfl (he33.op rfl) w') hH27 ?_
          intro a34 he34
          clear he33 a33
          refine hV (fuel := 3) (i := 17) (Value.int .i64 (-(-1))) he34 rfl rfl rfl (by kernel_rfl) (by kernel_rfl) (by kernel_rfl) (fun _ _ _ h => h) (he34.want rfl rfl rfl rfl rfl) (fun w' _ => rn_negI rfl (he34.op rfl) (i64w (by omega) (by omega)) w') hH27 ?_
          intro a35 he35
          clear he34 a34
          refine hC (fuel := 2) (i := 15) he35 (by kernel_rfl) rfl rfl rfl Tryd.func11 (by kernel_rfl) rfl rfl (he35.want rfl rfl rfl rfl rfl) rfl (Compare_c q p w27) ?_
          rintro _ w36 ⟨rfl, hn⟩
          have hH36 := hH27.call hn
          refine ⟨_, rfl, hH36, ?_⟩
          intro a37 he37
          clear he35 a35 hH27 hn
          by_cases hb4 : (cmpP q p) = (-(-1))
          · skip
            refine hV (fuel := 1) (i := 18) (Value.bool false) he37 rfl rfl rfl (by kernel_rfl) (by kernel_rfl) (by kernel_rfl) (fun _ _ _ h => h) (he37.want rfl rfl rfl rfl rfl) (fun w' _ => rn_neI rfl (he37.op rfl) (he37.op rfl) (bneT hb4) w') hH36 ?_
            intro a38 he38
            clear he37 a37
            refine hV (fuel := 0) (i := 19) (Value.bool false) he38 rfl rfl rfl (by kernel_rfl) (by kernel_rfl) (by kernel_rfl) (fun _ _ _ h => h) (wanted_plain rfl _) (fun w' _ => rn_pk0 rfl (he38.op rfl) (he38.op rfl) w') hH36 ?_
            intro a39 he39
            clear he38 a38
            refine wpAnyH_done (by kernel_rfl) ?_ _
            refine then_ok ?_
            refine wp_cond_false (he39.op rfl) ?_
            refine wp_skip ?_
            refine then_ok ?_
            exact ⟨he39.mem ⟨rfl, rfl, rfl, rfl, trivial⟩, hH36⟩
          · skip
            refine hV (fuel := 1) (i := 18) (Value.bool true) he37 rfl rfl rfl (by kernel_rfl) (by kernel_rfl) (by kernel_rfl) (fun _ _ _ h => h) (he37.want rfl rfl rfl rfl rfl) (fun w' _ => rn_neI rfl (he37.op rfl) (he37.op rfl) (bneF hb4) w') hH36 ?_
            intro a38 he38
            clear he37 a37
            refine hV (fuel := 0) (i := 19) (Value.bool true) he38 rfl rfl rfl (by kernel_rfl) (by kernel_rfl) (by kernel_rfl) (fun _ _ _ h => h) (wanted_plain rfl _) (fun w' _ => rn_pk0 rfl (he38.op rfl) (he38.op rfl) w') hH36 ?_
            intro a39 he39
            clear he38 a38
            refine wpAnyH_done (by kernel_rfl) ?_ _
            refine then_ok ?_
            refine wp_cond_true (he39.op rfl) ?_
            refine wp_seq ?_
            refine wp_region_lit ?_
            refine lV (Value.bool false) he39 rfl rfl (wanted_plain rfl _) (rn_asg rfl (he39.op rfl) w36) ?_
            intro a40 he40
            clear he39 a39
            refine wpList_nil ?_
            refine then_ok ?_
            refine wp_ret ?_
            try simp only [Exit.then, Exit.inBlock, Exit.noGoto]
            omega
        · skip
          refine hV (fuel := 9) (i := 10) (Value.bool true) he28 rfl rfl rfl (by kernel_rfl) (by kernel_rfl) (by kernel_rfl) (fun _ _ _ h => h) (he28.want rfl rfl rfl rfl rfl) (fun w' _ => rn_neI rfl (he28.op rfl) (he28.op rfl) (bneF hb3) w') hH27 ?_
          intro a29 he29
          clear he28 a28
          refine hV (fuel := 8) (i := 11) (Value.bool true) he29 rfl rfl rfl (by kernel_rfl) (by kernel_rfl) (by kernel_rfl) (fun _ _ _ h => h) (wanted_plain rfl _) (fun w' _ => rn_pk0 rfl (he29.op rfl) (he29.op rfl) w') hH27 ?_
          intro a30 he30
          clear he29 a29
          refine hV (fuel := 7) (i := 12) (Value.bool true) he30 rfl rfl rfl (by kernel_rfl) (by kernel_rfl) (by kernel_rfl) (fun _ _ _ h => h) (wanted_plain rfl _) (fun w' _ => rn_mv rfl (he30.op rfl) w') hH27 ?_
          intro a31 he31
          clear he30 a30
          refine hSkip (fuel := 6) (i := 13) he31 rfl rfl rfl (by kernel_rfl) (by kernel_rfl) (by kernel_rfl) (fun _ _ _ h => h) (he31.wantNot rfl rfl rfl rfl rfl rfl) hH27 ?_
          intro a32 he32
          clear he31 a31
          refine hSkip (fuel := 5) (i := 14) he32 rfl rfl rfl (by kernel_rfl) (by kernel_rfl) (by kernel_rfl) (fun _ _ _ h => h) (he32.wantNot rfl rfl rfl rfl rfl rfl) hH27 ?_
          intro a33 he33
          clear he32 a32
          refine hSkip (fuel := 4) (i := 15) he33 rfl rfl rfl (by kernel_rfl) (by kernel_rfl) (by kernel_rfl) (fun _ _ _ h => h) (he33.wantNot rfl rfl rfl rfl rfl rfl) hH27 ?_
          intro a34 he34
          clear he33 a33
          refine hSkip (fuel := 3) (i := 16) he34 rfl rfl rfl (by kernel_rfl) (by kernel_rfl) (by kernel_rfl) (fun _ _ _ h => h) (he34.wantNot rfl rfl rfl rfl rfl rfl) hH27 ?_
          intro a35 he35
          clear he34 a34
          refine hSkip (fuel := 2) (i := 17) he35 rfl rfl rfl (by kernel_rfl) (by kernel_rfl) (by kernel_rfl) (fun _ _ _ h => h) (he35.wantNot rfl rfl rfl rfl rfl rfl) hH27 ?_
          intro a36 he36
          clear he35 a35
          refine hSkip (fuel := 1) (i := 18) he36 rfl rfl rfl (by kernel_rfl) (by kernel_rfl) (by kernel_rfl) (fun _ _ _ h => h) (he36.wantNot rfl rfl rfl rfl rfl rfl) hH27 ?_
          intro a37 he37
          clear he36 a36
          refine hV (fuel := 0) (i := 19) (Value.bool true) he37 rfl rfl rfl (by kernel_rfl) (by kernel_rfl) (by kernel_rfl) (fun _ _ _ h => h) (wanted_plain rfl _) (fun w' _ => rn_pk rfl (he37.op rfl) (he37.op rfl) w') hH27 ?_
          intro a38 he38
          clear he37 a37
          refine wpAnyH_done (by kernel_rfl) ?_ _
          refine then_ok ?_
          refine wp_cond_true (he38.op rfl) ?_
          refine wp_seq ?_
          refine wp_region_lit ?_
          refine lV (Value.bool false) he38 rfl rfl (wanted_plain rfl _) (rn_asg rfl (he38.op rfl) w27) ?_
          intro a39 he39
          clear he38 a38
          refine wpList_nil ?_
          refine then_ok ?_
          refine wp_ret ?_
          try simp only [Exit.then, Exit.inBlock, Exit.noGoto]
          omega
    · skip
      clear hH11 he14
      rintro a15 w15 ⟨he15, hH15⟩
      refine wp_seq ?_
      refine wp_region_lit ?_
      refine lV (Value.agg #[Value.int .i64 p.l, Value.int .i64 p.c]) he15 rfl rfl (wanted_plain rfl _) (rn_ldp [Value.int .i64 p.l, Value.int .i64 p.c] rfl (he15.op rfl) undZ rfl infoZ2 (hH15.at (i := 2) rfl) rfl) ?_
      intro a16 he16
      clear he15 a15
      refine lV (Value.agg #[Value.int .i64 q.l, Value.int .i64 q.c]) he16 rfl rfl (wanted_plain rfl _) (rn_ldp [Value.int .i64 q.l, Value.int .i64 q.c] rfl (he16.op rfl) undZ rfl infoZ2 (hH15.at (i := 1) rfl) rfl) ?_
      intro a17 he17
      clear he16 a16
      refine lC he17 rfl rfl Tryd.func12 (by kernel_rfl) rfl rfl (wanted_plain rfl _) rfl (Order_c p q p q (if_neg (by omega)) w15) ?_
      intro w18 a19 hn he19
      have hH18 := hH15.call hn
      clear he17 a17 hH15 hn
      refine lV (Value.tuple #[Value.agg #[Value.int .i64 p.l, Value.int .i64 p.c], Value.agg #[Value.int .i64 q.l, Value.int .i64 q.c]]) he19 rfl rfl (wanted_plain rfl _) (rn_mv rfl (he19.op rfl) w18) ?_
      intro a20 he20
      clear he19 a19
      refine lV (Value.agg #[Value.int .i64 p.l, Value.int .i64 p.c]) he20 rfl rfl (wanted_plain rfl _) (rn_ext rfl (he20.op rfl) rfl w18) ?_
      intro a21 he21
      clear he20 a20
      refine lV (Value.agg #[Value.int .i64 q.l, Value.int .i64 q.c]) he21 rfl rfl (wanted_plain rfl _) (rn_ext rfl (he21.op rfl) rfl w18) ?_
      intro a22 he22
      clear he21 a21
      refine lNewP (fun p => .pointer (some ⟨p, 0, none⟩)) he22 hH18 rfl rfl (wanted_plain rfl _) (rn_allocZ rfl w18) ?_
      intro p23 w23 a24 hp hn hH23 he24
      clear he22 a22 hH18 hn hp
      refine lNewP (fun p => .pointer (some ⟨p, 0, none⟩)) he24 hH23 rfl rfl (wanted_plain rfl _) (rn_allocZ rfl w23) ?_
      intro p25 w25 a26 hp hn hH25 he26
      clear he24 a24 hH23 hn hp
      refine lSetF 1 #[Value.int .i64 p.l, Value.int .i64 p.c] (cs := #[Value.int .i64 p.l, Value.int .i64 p.c]) he26 hH25 rfl (wanted_plain rfl _) rfl rfl rfl rfl rfl (by kernel_rfl) (by kernel_rfl) (by kernel_rfl) rfl ?_
      intro w27 a28 hH27 hf he28
      replace hH27 : Hp w [⟨p25, 23, #[Value.int .i64 0, Value.int .i64 0]⟩, ⟨p23, 23, #[Value.int .i64 p.l, Value.int .i64 p.c]⟩, ⟨p5, 23, #[Value.int .i64 r.l, Value.int .i64 r.c]⟩, ⟨p3, 23, #[Value.int .i64 q.l, Value.int .i64 q.c]⟩, ⟨p1, 23, #[Value.int .i64 p.l, Value.int .i64 p.c]⟩] w27 := hH27
      clear hf
      clear he26 a26 hH25
      refine lSetF 0 #[Value.int .i64 q.l, Value.int .i64 q.c] (cs := #[Value.int .i64 q.l, Value.int .i64 q.c]) he28 hH27 rfl (wanted_plain rfl _) rfl rfl rfl rfl rfl (by kernel_rfl) (by kernel_rfl) (by kernel_rfl) rfl ?_
      intro w29 a30 hH29 hf he30
      replace hH29 : Hp w [⟨p25, 23, #[Value.int .i64 q.l, Value.int .i64 q.c]⟩, ⟨p23, 23, #[Value.int .i64 p.l, Value.int .i64 p.c]⟩, ⟨p5, 23, #[Value.int .i64 r.l, Value.int .i64 r.c]⟩, ⟨p3, 23, #[Value.int .i64 q.l, Value.int .i64 q.c]⟩, ⟨p1, 23, #[Value.int .i64 p.l, Value.int .i64 p.c]⟩] w29 := hH29
      clear hf
      clear he28 a28 hH27
      refine wpList_nil ?_
      refine then_ok ?_
      refine wp_seq ?_
      refine reg_cut (fun a w' => Env 87 [(5, Value.pointer (some ⟨p5, 0, none⟩)), (4, Value.pointer (some ⟨p3, 0, none⟩)), (3, Value.pointer (some ⟨p1, 0, none⟩))] a ∧ Hp w [⟨p25, 23, #[Value.int .i64 q.l, Value.int .i64 q.c]⟩, ⟨p23, 23, #[Value.int .i64 p.l, Value.int .i64 p.c]⟩, ⟨p5, 23, #[Value.int .i64 r.l, Value.int .i64 r.c]⟩, ⟨p3, 23, #[Value.int .i64 q.l, Value.int .i64 q.c]⟩, ⟨p1, 23, #[Value.int .i64 p.l, Value.int .i64 p.c]⟩] w') ?_ ?_
      · skip
        refine wp_seq ?_
        refine wp_region_lit ?_
        refine lV (Value.int .i64 (-1)) he30 rfl rfl (wanted_plain rfl _) (rn_mv rfl (he30.op rfl) w29) ?_
        intro a31 he31
        clear he30 a30
        refine lV (Value.bool false) he31 rfl rfl (wanted_plain rfl _) (rn_gtI rfl (he31.op rfl) (he31.op rfl) (by decide) w29) ?_
        intro a32 he32
        clear he31 a31
        refine lV (Value.bool false) he32 rfl rfl (wanted_plain rfl _) (rn_mv rfl (he32.op rfl) w29) ?_
        intro a33 he33
        clear he32 a32
        refine lSkip he33 rfl rfl (he33.wantNot rfl rfl rfl rfl rfl rfl) ?_
        intro a34 he34
        clear he33 a33
        refine lSkip he34 rfl rfl (he34.wantNot rfl rfl rfl rfl rfl rfl) ?_
        intro a35 he35
        clear he34 a34
        refine lSkip he35 rfl rfl (he35.wantNot rfl rfl rfl rfl rfl rfl) ?_
        intro a36 he36
        clear he35 a35
        refine lSkip he36 rfl rfl (he36.wantNot rfl rfl rfl rfl rfl rfl) ?_
        intro a37 he37
        clear he36 a36
        refine lSkip he37 rfl rfl (he37.wantU rfl rfl rfl rfl rfl) ?_
        intro a38 he38
        clear he37 a37
        refine lSkip he38 rfl rfl (he38.wantU rfl rfl rfl rfl rfl) ?_
        intro a39 he39
        clear he38 a38
        refine lSkip he39 rfl rfl (he39.wantU rfl rfl rfl rfl rfl) ?_
        intro a40 he40
        clear he39 a39
        refine lSkip he40 rfl rfl (he40.wantNot rfl rfl rfl rfl rfl rfl) ?_
        intro a41 he41
        clear he40 a40
        refine lV (Value.bool false) he41 rfl rfl (wanted_plain rfl _) (rn_pk0 rfl (he41.op rfl) (he41.op rfl) w29) ?_
        intro a42 he42
        clear he41 a41
        refine lV (Value.bool false) he42 rfl rfl (wanted_plain rfl _) (rn_mv rfl (he42.op rfl) w29) ?_
        intro a43 he43
        clear he42 a42
        refine lV (Value.int .i64 (-1)) he43 rfl rfl (he43.want rfl rfl rfl rfl rfl) (rn_mv rfl (he43.op rfl) w29) ?_
        intro a44 he44
        clear he43 a43
        refine lV (Value.bool true) he44 rfl rfl (he44.want rfl rfl rfl rfl rfl) (rn_leI rfl (he44.op rfl) (he44.op rfl) (by decide) w29) ?_
        intro a45 he45
        clear he44 a44
        refine lV (Value.bool true) he45 rfl rfl (he45.want rfl rfl rfl rfl rfl) (rn_mv rfl (he45.op rfl) w29) ?_
        intro a46 he46
        clear he45 a45
        refine lV (Value.agg #[Value.int .i64 p.l, Value.int .i64 p.c]) he46 rfl rfl (he46.want rfl rfl rfl rfl rfl) (rn_ldp [Value.int .i64 p.l, Value.int .i64 p.c] rfl (he46.op rfl) undZ rfl infoZ2 (hH29.at (i := 1) rfl) rfl) ?_
        intro a47 he47
        clear he46 a46
        refine lV (Value.agg #[Value.int .i64 p.l, Value.int .i64 p.c]) he47 rfl rfl (he47.want rfl rfl rfl rfl rfl) (rn_ldp [Value.int .i64 p.l, Value.int .i64 p.c] rfl (he47.op rfl) undZ rfl infoZ2 (hH29.at (i := 4) rfl) rfl) ?_
        intro a48 he48
        clear he47 a47
        refine lV (Value.bool false) he48 rfl rfl (he48.want rfl rfl rfl rfl rfl) (rn_neZ (p := p) (q := p) rfl (he48.op rfl) (he48.op rfl) (ndT (pl_eq.2 (pl_eq.1 rfl))) w29) ?_
        intro a49 he49
        clear he48 a48
        refine lV (Value.bool false) he49 rfl rfl (he49.want rfl rfl rfl rfl rfl) (rn_mv rfl (he49.op rfl) w29) ?_
        intro a50 he50
        clear he49 a49
        refine lV (Value.agg #[Value.int .i64 q.l, Value.int .i64 q.c]) he50 rfl rfl (he50.want rfl rfl rfl rfl rfl) (rn_ldp [Value.int .i64 q.l, Value.int .i64 q.c] rfl (he50.op rfl) undZ rfl infoZ2 (hH29.at (i := 0) rfl) rfl) ?_
        intro a51 he51
        clear he50 a50
        refine lV (Value.agg #[Value.int .i64 q.l, Value.int .i64 q.c]) he51 rfl rfl (he51.want rfl rfl rfl rfl rfl) (rn_ldp [Value.int .i64 q.l, Value.int .i64 q.c] rfl (he51.op rfl) undZ rfl infoZ2 (hH29.at (i := 3) rfl) rfl) ?_
        intro a52 he52
        clear he51 a51
        refine lV (Value.bool false) he52 rfl rfl (he52.want rfl rfl rfl rfl rfl) (rn_neZ (p := q) (q := q) rfl (he52.op rfl) (he52.op rfl) (ndT (pl_eq.2 (pl_eq.1 rfl))) w29) ?_
        intro a53 he53
        clear he52 a52
        refine lV (Value.bool false) he53 rfl rfl (he53.want rfl rfl rfl rfl rfl) (rn_pk0 rfl (he53.op rfl) (he53.op rfl) w29) ?_
        intro a54 he54
        clear he53 a53
        refine lV (Value.bool false) he54 rfl rfl (he54.want rfl rfl rfl rfl rfl) (rn_pk rfl (he54.op rfl) (he54.op rfl) w29) ?_
        intro a55 he55
        clear he54 a54
        refine lV (Value.bool false) he55 rfl rfl (wanted_plain rfl _) (rn_pk0 rfl (he55.op rfl) (he55.op rfl) w29) ?_
        intro a56 he56
        clear he55 a55
        refine wpList_nil ?_
        refine then_ok ?_
        refine wp_cond_false (he56.op rfl) ?_
        refine wp_skip ?_
        refine then_ok ?_
        exact ⟨he56.mem ⟨rfl, rfl, rfl, trivial⟩, hH29⟩
      · skip
        clear hH29 he30
        rintro a31 w31 ⟨he31, hH31⟩
        refine wp_seq ?_
        refine wp_region_held_drew (S := Hp w [⟨p25, 23, #[Value.int .i64 q.l, Value.int .i64 q.c]⟩, ⟨p23, 23, #[Value.int .i64 p.l, Value.int .i64 p.c]⟩, ⟨p5, 23, #[Value.int .i64 r.l, Value.int .i64 r.c]⟩, ⟨p3, 23, #[Value.int .i64 q.l, Value.int .i64 q.c]⟩, ⟨p1, 23, #[Value.int .i64 p.l, Value.int .i64 p.c]⟩]) (by kernel_rfl) (hH31.drew) (fun _ => ?_)
        have hn : New w31 (World.drew w31) := (Fr.refl _ _).drew
        clear hn
        have hH32 := hH31.drew
        clear hH31
        generalize World.drew w31 = w32 at *
        refine hV (fuel := 17) (i := 0) (Value.agg #[Value.int .i64 p.l, Value.int .i64 p.c]) he31 rfl rfl rfl (by kernel_rfl) (by kernel_rfl) (by kernel_rfl) (fun _ _ _ h => h) (wanted_plain rfl _) (fun w' hw' => rn_ldp [Value.int .i64 p.l, Value.int .i64 p.c] rfl (he31.op rfl) undZ rfl infoZ2 (hw'.at (i := 4) rfl) rfl) hH32 ?_
        intro a33 he33
        clear he31 a31
        refine hV (fuel := 16) (i := 1) (Value.agg #[Value.int .i64 q.l, Value.int .i64 q.c]) he33 rfl rfl rfl (by kernel_rfl) (by kernel_rfl) (by kernel_rfl) (fun _ _ _ h => h) (wanted_plain rfl _) (fun w' hw' => rn_ldp [Value.int .i64 q.l, Value.int .i64 q.c] rfl (he33.op rfl) undZ rfl infoZ2 (hw'.at (i := 3) rfl) rfl) hH32 ?_
        intro a34 he34
        clear he33 a33
        refine hV (fuel := 15) (i := 2) (Value.agg #[Value.int .i64 r.l, Value.int .i64 r.c]) he34 rfl rfl rfl (by kernel_rfl) (by kernel_rfl) (by kernel_rfl) (fun _ _ _ h => h) (wanted_plain rfl _) (fun w' hw' => rn_ldp [Value.int .i64 r.l, Value.int .i64 r.c] rfl (he34.op rfl) undZ rfl infoZ2 (hw'.at (i := 2) rfl) rfl) hH32 ?_
        intro a35 he35
        clear he34 a34
        refine hV (fuel := 14) (i := 4) (Value.agg #[Value.int .i64 p.l, Value.int .i64 p.c]) he35 rfl rfl rfl (by kernel_rfl) (by kernel_rfl) (by kernel_rfl) (fun _ _ _ h => h) (wanted_plain rfl _) (fun w' hw' => rn_ldp [Value.int .i64 p.l, Value.int .i64 p.c] rfl (he35.op rfl) undZ rfl infoZ2 (hw'.at (i := 4) rfl) rfl) hH32 ?_
        intro a36 he36
        clear he35 a35
        refine hV (fuel := 13) (i := 5) (Value.agg #[Value.int .i64 q.l, Value.int .i64 q.c]) he36 rfl rfl rfl (by kernel_rfl) (by kernel_rfl) (by kernel_rfl) (fun _ _ _ h => h) (wanted_plain rfl _) (fun w' hw' => rn_ldp [Value.int .i64 q.l, Value.int .i64 q.c] rfl (he36.op rfl) undZ rfl infoZ2 (hw'.at (i := 3) rfl) rfl) hH32 ?_
        intro a37 he37
        clear he36 a36
        by_cases hb3 : witP p q r
        · skip
          refine hC (fuel := 12) (i := 3) he37 (by kernel_rfl) rfl rfl rfl Tryd.func13 (by kernel_rfl) rfl rfl (wanted_plain rfl _) rfl (Within_c p q r true (decide_eq_true hb3) w32) ?_
          rintro _ w38 ⟨rfl, hn⟩
          have hH38 := hH32.call hn
          refine ⟨_, rfl, hH38, ?_⟩
          intro a39 he39
          clear he37 a37 hH32 hn
          refine hC (fuel := 11) (i := 6) he39 (by kernel_rfl) rfl rfl rfl Tryd.func8 (by kernel_rfl) rfl rfl (wanted_plain rfl _) rfl (RBefore_c p q true (decide_eq_true hb0) w38) ?_
          rintro _ w40 ⟨rfl, hn⟩
          have hH40 := hH38.call hn
          refine ⟨_, rfl, hH40, ?_⟩
          intro a41 he41
          clear he39 a39 hH38 hn
          refine hV (fuel := 10) (i := 7) (Value.bool false) he41 rfl rfl rfl (by kernel_rfl) (by kernel_rfl) (by kernel_rfl) (fun _ _ _ h => h) (wanted_plain rfl _) (fun w' _ => rn_not (b := true) rfl (he41.op rfl) w') hH40 ?_
          intro a42 he42
          clear he41 a41
          refine hV (fuel := 9) (i := 8) (Value.bool false) he42 rfl rfl rfl (by kernel_rfl) (by kernel_rfl) (by kernel_rfl) (fun _ _ _ h => h) (wanted_plain rfl _) (fun w' _ => rn_mv rfl (he42.op rfl) w') hH40 ?_
          intro a43 he43
          clear he42 a42
          refine hSkip (fuel := 8) (i := 9) he43 rfl rfl rfl (by kernel_rfl) (by kernel_rfl) (by kernel_rfl) (fun _ _ _ h => h) (he43.wantNot rfl rfl rfl rfl rfl rfl) hH40 ?_
          intro a44 he44
          clear he43 a43
          refine hSkip (fuel := 7) (i := 10) he44 rfl rfl rfl (by kernel_rfl) (by kernel_rfl) (by kernel_rfl) (fun _ _ _ h => h) (he44.wantNot rfl rfl rfl rfl rfl rfl) hH40 ?_
          intro a45 he45
          clear he44 a44
          refine hSkip (fuel := 6) (i := 11) he45 rfl rfl rfl (by kernel_rfl) (by kernel_rfl) (by kernel_rfl) (fun _ _ _ h => h) (he45.wantNot rfl rfl rfl rfl rfl rfl) hH40 ?_
          intro a46 he46
          clear he45 a45
          refine hV (fuel := 5) (i := 12) (Value.bool false) he46 rfl rfl rfl (by kernel_rfl) (by kernel_rfl) (by kernel_rfl) (fun _ _ _ h => h) (wanted_plain rfl _) (fun w' _ => rn_pk0 rfl (he46.op rfl) (he46.op rfl) w') hH40 ?_
          intro a47 he47
          clear he46 a46
          refine hV (fuel := 4) (i := 13) (Value.bool false) he47 rfl rfl rfl (by kernel_rfl) (by kernel_rfl) (by kernel_rfl) (fun _ _ _ h => h) (wanted_plain rfl _) (fun w' _ => rn_eqB (i := true) (j := false) rfl (he47.op rfl) (he47.op rfl) rfl w') hH40 ?_
          intro a48 he48
          clear he47 a47
          refine hV (fuel := 3) (i := 14) (Value.bool false) he48 rfl rfl rfl (by kernel_rfl) (by kernel_rfl) (by kernel_rfl) (fun _ _ _ h => h) (wanted_plain rfl _) (fun w' _ => rn_mv rfl (he48.op rfl) w') hH40 ?_
          intro a49 he49
          clear he48 a48
          refine hSkip (fuel := 2) (i := 15) he49 rfl rfl rfl (by kernel_rfl) (by kernel_rfl) (by kernel_rfl) (fun _ _ _ h => h) (he49.wantNot rfl rfl rfl rfl rfl rfl) hH40 ?_
          intro a50 he50
          clear he49 a49
          refine hV (fuel := 1) (i := 16) (Value.bool false) he50 rfl rfl rfl (by kernel_rfl) (by kernel_rfl) (by kernel_rfl) (fun _ _ _ h => h) (wanted_plain rfl _) (fun w' _ => rn_pk0 rfl (he50.op rfl) (he50.op rfl) w') hH40 ?_
          intro a51 he51
          clear he50 a50
          refine hV (fuel := 0) (i := 17) (Value.bool false) he51 rfl rfl rfl (by kernel_rfl) (by kernel_rfl) (by kernel_rfl) (fun _ _ _ h => h) (wanted_plain rfl _) (fun w' _ => rn_asg rfl (he51.op rfl) w') hH40 ?_
          intro a52 he52
          clear he51 a51
          refine wpAnyH_done (by kernel_rfl) ?_ _
          refine then_ok ?_
          refine wp_ret ?_
          try simp only [Exit.then, Exit.inBlock, Exit.noGoto]
          exact ret_env rfl he52 rfl ⟨by first | rfl | (exfalso; omega), hH40.new⟩
        · skip
          refine hC (fuel := 12) (i := 3) he37 (by kernel_rfl) rfl rfl rfl Tryd.func13 (by kernel_rfl) rfl rfl (wanted_plain rfl _) rfl (Within_c p q r false (decide_eq_false hb3) w32) ?_
          rintro _ w38 ⟨rfl, hn⟩
          have hH38 := hH32.call hn
          refine ⟨_, rfl, hH38, ?_⟩
          intro a39 he39
          clear he37 a37 hH32 hn
          refine hC (fuel := 11) (i := 6) he39 (by kernel_rfl) rfl rfl rfl Tryd.func8 (by kernel_rfl) rfl rfl (wanted_plain rfl _) rfl (RBefore_c p q true (decide_eq_true hb0) w38) ?_
          rintro _ w40 ⟨rfl, hn⟩
          have hH40 := hH38.call hn
          refine ⟨_, rfl, hH40, ?_⟩
          intro a41 he41
          clear he39 a39 hH38 hn
          refine hV (fuel := 10) (i := 7) (Value.bool false) he41 rfl rfl rfl (by kernel_rfl) (by kernel_rfl) (by kernel_rfl) (fun _ _ _ h => h) (wanted_plain rfl _) (fun w' _ => rn_not (b := true) rfl (he41.op rfl) w') hH40 ?_
          intro a42 he42
          clear he41 a41
          refine hV (fuel := 9) (i := 8) (Value.bool false) he42 rfl rfl rfl (by kernel_rfl) (by kernel_rfl) (by kernel_rfl) (fun _ _ _ h => h) (wanted_plain rfl _) (fun w' _ => rn_mv rfl (he42.op rfl) w') hH40 ?_
          intro a43 he43
          clear he42 a42
          refine hSkip (fuel := 8) (i := 9) he43 rfl rfl rfl (by kernel_rfl) (by kernel_rfl) (by kernel_rfl) (fun _ _ _ h => h) (he43.wantNot rfl rfl rfl rfl rfl rfl) hH40 ?_
          intro a44 he44
          clear he43 a43
          refine hSkip (fuel := 7) (i := 10) he44 rfl rfl rfl (by kernel_rfl) (by kernel_rfl) (by kernel_rfl) (fun _ _ _ h => h) (he44.wantNot rfl rfl rfl rfl rfl rfl) hH40 ?_
          intro a45 he45
          clear he44 a44
          refine hSkip (fuel := 6) (i := 11) he45 rfl rfl rfl (by kernel_rfl) (by kernel_rfl) (by kernel_rfl) (fun _ _ _ h => h) (he45.wantNot rfl rfl rfl rfl rfl rfl) hH40 ?_
          intro a46 he46
          clear he45 a45
          refine hV (fuel := 5) (i := 12) (Value.bool false) he46 rfl rfl rfl (by kernel_rfl) (by kernel_rfl) (by kernel_rfl) (fun _ _ _ h => h) (wanted_plain rfl _) (fun w' _ => rn_pk0 rfl (he46.op rfl) (he46.op rfl) w') hH40 ?_
          intro a47 he47
          clear he46 a46
          refine hV (fuel := 4) (i := 13) (Value.bool true) he47 rfl rfl rfl (by kernel_rfl) (by kernel_rfl) (by kernel_rfl) (fun _ _ _ h => h) (wanted_plain rfl _) (fun w' _ => rn_eqB (i := false) (j := false) rfl (he47.op rfl) (he47.op rfl) rfl w') hH40 ?_
          intro a48 he48
          clear he47 a47
          refine hV (fuel := 3) (i := 14) (Value.bool true) he48 rfl rfl rfl (by kernel_rfl) (by kernel_rfl) (by kernel_rfl) (fun _ _ _ h => h) (wanted_plain rfl _) (fun w' _ => rn_mv rfl (he48.op rfl) w') hH40 ?_
          intro a49 he49
          clear he48 a48
          refine hC (fuel := 2) (i := 15) he49 (by kernel_rfl) rfl rfl rfl Tryd.func14 (by kernel_rfl) rfl rfl (he49.want rfl rfl rfl rfl rfl) rfl (known_c w40 (hT.new hH40.new)) ?_
          rintro _ w50 ⟨rfl, hn⟩
          have hH50 := hH40.call hn
          refine ⟨_, rfl, hH50, ?_⟩
          intro a51 he51
          clear he49 a49 hH40 hn
          refine hV (fuel := 1) (i := 16) (Value.bool true) he51 rfl rfl rfl (by kernel_rfl) (by kernel_rfl) (by kernel_rfl) (fun _ _ _ h => h) (wanted_plain rfl _) (fun w' _ => rn_pk rfl (he51.op rfl) (he51.op rfl) w') hH50 ?_
          intro a52 he52
          clear he51 a51
          refine hV (fuel := 0) (i := 17) (Value.bool true) he52 rfl rfl rfl (by kernel_rfl) (by kernel_rfl) (by kernel_rfl) (fun _ _ _ h => h) (wanted_plain rfl _) (fun w' _ => rn_asg rfl (he52.op rfl) w') hH50 ?_
          intro a53 he53
          clear he52 a52
          refine wpAnyH_done (by kernel_rfl) ?_ _
          refine then_ok ?_
          refine wp_ret ?_
          try simp only [Exit.then, Exit.inBlock, Exit.noGoto]
          exact ret_env rfl he53 rfl ⟨by first | rfl | (exfalso; omega), hH50.new⟩
  · skip
    refine lC he10 rfl rfl Tryd.func8 (by kernel_rfl) rfl rfl (wanted_plain rfl _) rfl (RBefore_c p q false (decide_eq_false hb0) w5) ?_
    intro w11 a12 hn he12
    have hH11 := hH5.call hn
    clear he10 a10 hH5 hn
    refine lV (Value.bool false) he12 rfl rfl (wanted_plain rfl _) (rn_asg rfl (he12.op rfl) w11) ?_
    intro a13 he13
    clear he12 a12
    refine wpList_nil ?_
    refine then_ok ?_
    refine wp_cond_false (he13.op rfl) ?_
    refine wp_seq ?_
    refine wp_region_lit ?_
    refine lV (Value.agg #[Value.int .i64 q.l, Value.int .i64 q.c]) he13 rfl rfl (wanted_plain rfl _) (rn_ldp [Value.int .i64 q.l, Value.int .i64 q.c] rfl (he13.op rfl) undZ rfl infoZ2 (hH11.at (i := 1) rfl) rfl) ?_
    intro a14 he14
    clear he13 a13
    refine lV (Value.agg #[Value.int .i64 p.l, Value.int .i64 p.c]) he14 rfl rfl (wanted_plain rfl _) (rn_ldp [Value.int .i64 p.l, Value.int .i64 p.c] rfl (he14.op rfl) undZ rfl infoZ2 (hH11.at (i := 2) rfl) rfl) ?_
    intro a15 he15
    clear he14 a14
    by_cases hb1 : befP q p
    · skip
      refine lC he15 rfl rfl Tryd.func8 (by kernel_rfl) rfl rfl (wanted_plain rfl _) rfl (RBefore_c q p true (decide_eq_true hb1) w11) ?_
      intro w16 a17 hn he17
      have hH16 := hH11.call hn
      clear he15 a15 hH11 hn
      refine lV (Value.bool true) he17 rfl rfl (wanted_plain rfl _) (rn_asg rfl (he17.op rfl) w16) ?_
      intro a18 he18
      clear he17 a17
      refine wpList_nil ?_
      refine then_ok ?_
      refine wp_cond_true (he18.op rfl) ?_
      refine wp_region_lit ?_
      refine lV (Value.int .i64 1) he18 rfl rfl (wanted_plain rfl _) (rn_asg rfl (he18.op rfl) w16) ?_
      intro a19 he19
      clear he18 a18
      refine wpList_nil ?_
      refine block_ok ?_
      refine then_ok ?_
      refine wp_seq ?_
      refine reg_cut (fun a w' => Env 87 [(7, Value.int .i64 1), (5, Value.pointer (some ⟨p5, 0, none⟩)), (4, Value.pointer (some ⟨p3, 0, none⟩)), (3, Value.pointer (some ⟨p1, 0, none⟩))] a ∧ Hp w [⟨p5, 23, #[Value.int .i64 r.l, Value.int .i64 r.c]⟩, ⟨p3, 23, #[Value.int .i64 q.l, Value.int .i64 q.c]⟩, ⟨p1, 23, #[Value.int .i64 p.l, Value.int .i64 p.c]⟩] w') ?_ ?_
      · skip
        refine wp_seq ?_
        refine wp_region_held_drew (S := Hp w [⟨p5, 23, #[Value.int .i64 r.l, Value.int .i64 r.c]⟩, ⟨p3, 23, #[Value.int .i64 q.l, Value.int .i64 q.c]⟩, ⟨p1, 23, #[Value.int .i64 p.l, Value.int .i64 p.c]⟩]) (by kernel_rfl) (hH16.drew) (fun _ => ?_)
        have hn : New w16 (World.drew w16) := (Fr.refl _ _).drew
        clear hn
        have hH20 := hH16.drew
        clear hH16
        generalize World.drew w16 = w20 at *
        refine hV (fuel := 19) (i := 0) (Value.agg #[Value.int .i64 p.l, Value.int .i64 p.c]) he19 rfl rfl rfl (by kernel_rfl) (by kernel_rfl) (by kernel_rfl) (fun _ _ _ h => h) (wanted_plain rfl _) (fun w' hw' => rn_ldp [Value.int .i64 p.l, Value.int .i64 p.c] rfl (he19.op rfl) undZ rfl infoZ2 (hw'.at (i := 2) rfl) rfl) hH20 ?_
        intro a21 he21
        clear he19 a19
        refine hV (fuel := 18) (i := 2) (Value.agg #[Value.int .i64 p.l, Value.int .i64 p.c]) he21 rfl rfl rfl (by kernel_rfl) (by kernel_rfl) (by kernel_rfl) (fun _ _ _ h => h) (wanted_plain rfl _) (fun w' hw' => rn_ldp [Value.int .i64 p.l, Value.int .i64 p.c] rfl (he21.op rfl) undZ rfl infoZ2 (hw'.at (i := 2) rfl) rfl) hH20 ?_
        intro a22 he22
        clear he21 a21
        by_cases hb3 : okP p
        · skip
          refine hC (fuel := 17) (i := 1) he22 (by kernel_rfl) rfl rfl rfl Tryd.func9 (by kernel_rfl) rfl rfl (wanted_plain rfl _) rfl (Valid_c p true (decide_eq_true hb3) w20) ?_
          rintro _ w23 ⟨rfl, hn⟩
          have hH23 := hH20.call hn
          refine ⟨_, rfl, hH23, ?_⟩
          intro a24 he24
          clear he22 a22 hH20 hn
          refine hC (fuel := 16) (i := 3) he24 (by kernel_rfl) rfl rfl rfl Tryd.func10 (by kernel_rfl) rfl rfl (wanted_plain rfl _) rfl (RValid_c p true (decide_eq_true hb3) w23) ?_
          rintro _ w25 ⟨rfl, hn⟩
          have hH25 := hH23.call hn
          refine ⟨_, rfl, hH25, ?_⟩
          intro a26 he26
          clear he24 a24 hH23 hn
          refine hV (fuel := 15) (i := 4) (Value.bool false) he26 rfl rfl rfl (by kernel_rfl) (by kernel_rfl) (by kernel_rfl) (fun _ _ _ h => h) (wanted_plain rfl _) (fun w' _ => rn_neB (i := true) (j := true) rfl (he26.op rfl) (he26.op rfl) rfl w') hH25 ?_
          intro a27 he27
          clear he26 a26
          refine hV (fuel := 14) (i := 5) (Value.bool false) he27 rfl rfl rfl (by kernel_rfl) (by kernel_rfl) (by kernel_rfl) (fun _ _ _ h => h) (wanted_plain rfl _) (fun w' _ => rn_mv rfl (he27.op rfl) w') hH25 ?_
          intro a28 he28
          clear he27 a27
          refine hV (fuel := 13) (i := 6) (Value.agg #[Value.int .i64 p.l, Value.int .i64 p.c]) he28 rfl rfl rfl (by kernel_rfl) (by kernel_rfl) (by kernel_rfl) (fun _ _ _ h => h) (he28.want rfl rfl rfl rfl rfl) (fun w' hw' => rn_ldp [Value.int .i64 p.l, Value.int .i64 p.c] rfl (he28.op rfl) undZ rfl infoZ2 (hw'.at (i := 2) rfl) rfl) hH25 ?_
          intro a29 he29
          clear he28 a28
          refine hV (fuel := 12) (i := 7) (Value.agg #[Value.int .i64 q.l, Value.int .i64 q.c]) he29 rfl rfl rfl (by kernel_rfl) (by kernel_rfl) (by kernel_rfl) (fun _ _ _ h => h) (he29.want rfl rfl rfl rfl rfl) (fun w' hw' => rn_ldp [Value.int .i64 q.l, Value.int .i64 q.c] rfl (he29.op rfl) undZ rfl infoZ2 (hw'.at (i := 1) rfl) rfl) hH25 ?_
          intro a30 he30
          clear he29 a29
          refine hV (fuel := 11) (i := 9) (Value.int .i64 1) he30 rfl rfl rfl (by kernel_rfl) (by kernel_rfl) (by kernel_rfl) (fun _ _ _ h => h) (he30.want rfl rfl rfl rfl rfl) (fun w' _ => rn_mv rfl (he30.op rfl) w') hH25 ?_
          intro a31 he31
          clear he30 a30
          refine hC (fuel := 10) (i := 8) he31 (by kernel_rfl) rfl rfl rfl Tryd.func11 (by kernel_rfl) rfl rfl (he31.want rfl rfl rfl rfl rfl) rfl (Compare_c p q w25) ?_
          rintro _ w32 ⟨rfl, hn⟩
          have hH32 := hH25.call hn
          refine ⟨_, rfl, hH32, ?_⟩
          intro a33 he33
          clear he31 a31 hH25 hn
          by_cases hb4 : (cmpP p q) = 1
          · skip
            refine hV (fuel := 9) (i := 10) (Value.bool false) he33 rfl rfl rfl (by kernel_rfl) (by kernel_rfl) (by kernel_rfl) (fun _ _ _ h => h) (he33.want rfl rfl rfl rfl rfl) (fun w' _ => rn_neI rfl (he33.op rfl) (he33.op rfl) (bneT hb4) w') hH32 ?_
            intro a34 he34
            clear he33 a33
            refine hV (fuel := 8) (i := 11) (Value.bool false) he34 rfl rfl rfl (by kernel_rfl) (by kernel_rfl) (by kernel_rfl) (fun _ _ _ h => h) (wanted_plain rfl _) (fun w' _ => rn_pk0 rfl (he34.op rfl) (he34.op rfl) w') hH32 ?_
            intro a35 he35
            clear he34 a34
            refine hV (fuel := 7) (i := 12) (Value.bool false) he35 rfl rfl rfl (by kernel_rfl) (by kernel_rfl) (by kernel_rfl) (fun _ _ _ h => h) (wanted_plain rfl _) (fun w' _ => rn_mv rfl (he35.op rfl) w') hH32 ?_
            intro a36 he36
            clear he35 a35
            refine hV (fuel := 6) (i := 13) (Value.agg #[Value.int .i64 q.l, Value.int .i64 q.c]) he36 rfl rfl rfl (by kernel_rfl) (by kernel_rfl) (by kernel_rfl) (fun _ _ _ h => h) (he36.want rfl rfl rfl rfl rfl) (fun w' hw' => rn_ldp [Value.int .i64 q.l, Value.int .i64 q.c] rfl (he36.op rfl) undZ rfl infoZ2 (hw'.at (i := 1) rfl) rfl) hH32 ?_
            intro a37 he37
            clear he36 a36
            refine hV (fuel := 5) (i := 14) (Value.agg #[Value.int .i64 p.l, Value.int .i64 p.c]) he37 rfl rfl rfl (by kernel_rfl) (by kernel_rfl) (by kernel_rfl) (fun _ _ _ h => h) (he37.want rfl rfl rfl rfl rfl) (fun w' hw' => rn_ldp [Value.int .i64 p.l, Value.int .i64 p.c] rfl (he37.op rfl) undZ rfl infoZ2 (hw'.at (i := 2) rfl) rfl) hH32 ?_
            intro a38 he38
            clear he37 a37
            refine hV (fuel := 4) (i := 16) (Value.int .i64 1) he38 rfl rfl rfl (by kernel_rfl) (by kernel_rfl) (by kernel_rfl) (fun _ _ _ h => h) (he38.want rfl rfl rfl rfl rfl) (fun w' _ => rn_mv rfl (he38.op rfl) w') hH32 ?_
            intro a39 he39
            clear he38 a38
            refine hV (fuel := 3) (i := 17) (Value.int .i64 (-1)) he39 rfl rfl rfl (by kernel_rfl) (by kernel_rfl) (by kernel_rfl) (fun _ _ _ h => h) (he39.want rfl rfl rfl rfl rfl) (fun w' _ => rn_negI rfl (he39.op rfl) (by rfl) w') hH32 ?_
            intro a40 he40
            clear he39 a39
            refine hC (fuel := 2) (i := 15) he40 (by kernel_rfl) rfl rfl rfl Tryd.func11 (by kernel_rfl) rfl rfl (he40.want rfl rfl rfl rfl rfl) rfl (Compare_c q p w32) ?_
            rintro _ w41 ⟨rfl, hn⟩
            have hH41 := hH32.call hn
            refine ⟨_, rfl, hH41, ?_⟩
            intro a42 he42
            clear he40 a40 hH32 hn
            by_cases hb5 : (cmpP q p) = (-1)
            · skip
              refine hV (fuel := 1) (i := 18) (Value.bool false) he42 rfl rfl rfl (by kernel_rfl) (by kernel_rfl) (by kernel_rfl) (fun _ _ _ h => h) (he42.want rfl rfl rfl rfl rfl) (fun w' _ => rn_neI rfl (he42.op rfl) (he42.op rfl) (bneT hb5) w') hH41 ?_
              intro a43 he43
              clear he42 a42
              refine hV (fuel := 0) (i := 19) (Value.bool false) he43 rfl rfl rfl (by kernel_rfl) (by kernel_rfl) (by kernel_rfl) (fun _ _ _ h => h) (wanted_plain rfl _) (fun w' _ => rn_pk0 rfl (he43.op rfl) (he43.op rfl) w') hH41 ?_
              intro a44 he44
              clear he43 a43
              refine wpAnyH_done (by kernel_rfl) ?_ _
              refine then_ok ?_
              refine wp_cond_false (he44.op rfl) ?_
              refine wp_skip ?_
              refine then_ok ?_
              exact ⟨he44.mem ⟨rfl, rfl, rfl, rfl, trivial⟩, hH41⟩
            · skip
              refine hV (fuel := 1) (i := 18) (Value.bool true) he42 rfl rfl rfl (by kernel_rfl) (by kernel_rfl) (by kernel_rfl) (fun _ _ _ h => h) (he42.want rfl rfl rfl rfl rfl) (fun w' _ => rn_neI rfl (he42.op rfl) (he42.op rfl) (bneF hb5) w') hH41 ?_
              intro a43 he43
              clear he42 a42
              refine hV (fuel := 0) (i := 19) (Value.bool true) he43 rfl rfl rfl (by kernel_rfl) (by kernel_rfl) (by kernel_rfl) (fun _ _ _ h => h) (wanted_plain rfl _) (fun w' _ => rn_pk0 rfl (he43.op rfl) (he43.op rfl) w') hH41 ?_
              intro a44 he44
              clear he43 a43
              refine wpAnyH_done (by kernel_rfl) ?_ _
              refine then_ok ?_
              refine wp_cond_true (he44.op rfl) ?_
              refine wp_seq ?_
              refine wp_region_lit ?_
              refine lV (Value.bool false) he44 rfl rfl (wanted_plain rfl _) (rn_asg rfl (he44.op rfl) w41) ?_
              intro a45 he45
              clear he44 a44
              refine wpList_nil ?_
              refine then_ok ?_
              refine wp_ret ?_
              try simp only [Exit.then, Exit.inBlock, Exit.noGoto]
              omega
          · skip
            refine hV (fuel := 9) (i := 10) (Value.bool true) he33 rfl rfl rfl (by kernel_rfl) (by kernel_rfl) (by kernel_rfl) (fun _ _ _ h => h) (he33.want rfl rfl rfl rfl rfl) (fun w' _ => rn_neI rfl (he33.op rfl) (he33.op rfl) (bneF hb4) w') hH32 ?_
            intro a34 he34
            clear he33 a33
            refine hV (fuel := 8) (i := 11) (Value.bool true) he34 rfl rfl rfl (by kernel_rfl) (by kernel_rfl) (by kernel_rfl) (fun _ _ _ h => h) (wanted_plain rfl _) (fun w' _ => rn_pk0 rfl (he34.op rfl) (he34.op rfl) w') hH32 ?_
            intro a35 he35
            clear he34 a34
            refine hV (fuel := 7) (i := 12) (Value.bool true) he35 rfl rfl rfl (by kernel_rfl) (by kernel_rfl) (by kernel_rfl) (fun _ _ _ h => h) (wanted_plain rfl _) (fun w' _ => rn_mv rfl (he35.op rfl) w') hH32 ?_
            intro a36 he36
            clear he35 a35
            refine hSkip (fuel := 6) (i := 13) he36 rfl rfl rfl (by kernel_rfl) (by kernel_rfl) (by kernel_rfl) (fun _ _ _ h => h) (he36.wantNot rfl rfl rfl rfl rfl rfl) hH32 ?_
            intro a37 he37
            clear he36 a36
            refine hSkip (fuel := 5) (i := 14) he37 rfl rfl rfl (by kernel_rfl) (by kernel_rfl) (by kernel_rfl) (fun _ _ _ h => h) (he37.wantNot rfl rfl rfl rfl rfl rfl) hH32 ?_
            intro a38 he38
            clear he37 a37
            refine hSkip (fuel := 4) (i := 15) he38 rfl rfl rfl (by kernel_rfl) (by kernel_rfl) (by kernel_rfl) (fun _ _ _ h => h) (he38.wantNot rfl rfl rfl rfl rfl rfl) hH32 ?_
            intro a39 he39
            clear he38 a38
            refine hSkip (fuel := 3) (i := 16) he39 rfl rfl rfl (by kernel_rfl) (by kernel_rfl) (by kernel_rfl) (fun _ _ _ h => h) (he39.wantNot rfl rfl rfl rfl rfl rfl) hH32 ?_
            intro a40 he40
            clear he39 a39
            refine hSkip (fuel := 2) (i := 17) he40 rfl rfl rfl (by kernel_rfl) (by kernel_rfl) (by kernel_rfl) (fun _ _ _ h => h) (he40.wantNot rfl rfl rfl rfl rfl rfl) hH32 ?_
            intro a41 he41
            clear he40 a40
            refine hSkip (fuel := 1) (i := 18) he41 rfl rfl rfl (by kernel_rfl) (by kernel_rfl) (by kernel_rfl) (fun _ _ _ h => h) (he41.wantNot rfl rfl rfl rfl rfl rfl) hH32 ?_
            intro a42 he42
            clear he41 a41
            refine hV (fuel := 0) (i := 19) (Value.bool true) he42 rfl rfl rfl (by kernel_rfl) (by kernel_rfl) (by kernel_rfl) (fun _ _ _ h => h) (wanted_plain rfl _) (fun w' _ => rn_pk rfl (he42.op rfl) (he42.op rfl) w') hH32 ?_
            intro a43 he43
            clear he42 a42
            refine wpAnyH_done (by kernel_rfl) ?_ _
            refine then_ok ?_
            refine wp_cond_true (he43.op rfl) ?_
            refine wp_seq ?_
            refine wp_region_lit ?_
            refine lV (Value.bool false) he43 rfl rfl (wanted_plain rfl _) (rn_asg rfl (he43.op rfl) w32) ?_
            intro a44 he44
            clear he43 a43
            refine wpList_nil ?_
            refine then_ok ?_
            refine wp_ret ?_
            try simp only [Exit.then, Exit.inBlock, Exit.noGoto]
            omega
        · skip
          refine hC (fuel := 17) (i := 1) he22 (by kernel_rfl) rfl rfl rfl Tryd.func9 (by kernel_rfl) rfl rfl (wanted_plain rfl _) rfl (Valid_c p false (decide_eq_false hb3) w20) ?_
          rintro _ w23 ⟨rfl, hn⟩
          have hH23 := hH20.call hn
          refine ⟨_, rfl, hH23, ?_⟩
          intro a24 he24
          clear he22 a22 hH20 hn
          refine hC (fuel := 16) (i := 3) he24 (by kernel_rfl) rfl rfl rfl Tryd.func10 (by kernel_rfl) rfl rfl (wanted_plain rfl _) rfl (RValid_c p false (decide_eq_false hb3) w23) ?_
          rintro _ w25 ⟨rfl, hn⟩
          have hH25 := hH23.call hn
          refine ⟨_, rfl, hH25, ?_⟩
          intro a26 he26
          clear he24 a24 hH23 hn
          refine hV (fuel := 15) (i := 4) (Value.bool false) he26 rfl rfl rfl (by kernel_rfl) (by kernel_rfl) (by kernel_rfl) (fun _ _ _ h => h) (wanted_plain rfl _) (fun w' _ => rn_neB (i := false) (j := false) rfl (he26.op rfl) (he26.op rfl) rfl w') hH25 ?_
          intro a27 he27
          clear he26 a26
          refine hV (fuel := 14) (i := 5) (Value.bool false) he27 rfl rfl rfl (by kernel_rfl) (by kernel_rfl) (by kernel_rfl) (fun _ _ _ h => h) (wanted_plain rfl _) (fun w' _ => rn_mv rfl (he27.op rfl) w') hH25 ?_
          intro a28 he28
          clear he27 a27
          refine hV (fuel := 13) (i := 6) (Value.agg #[Value.int .i64 p.l, Value.int .i64 p.c]) he28 rfl rfl rfl (by kernel_rfl) (by kernel_rfl) (by kernel_rfl) (fun _ _ _ h => h) (he28.want rfl rfl rfl rfl rfl) (fun w' hw' => rn_ldp [Value.int .i64 p.l, Value.int .i64 p.c] rfl (he28.op rfl) undZ rfl infoZ2 (hw'.at (i := 2) rfl) rfl) hH25 ?_
          intro a29 he29
          clear he28 a28
          refine hV (fuel := 12) (i := 7) (Value.agg #[Value.int .i64 q.l, Value.int .i64 q.c]) he29 rfl rfl rfl (by kernel_rfl) (by kernel_rfl) (by kernel_rfl) (fun _ _ _ h => h) (he29.want rfl rfl rfl rfl rfl) (fun w' hw' => rn_ldp [Value.int .i64 q.l, Value.int .i64 q.c] rfl (he29.op rfl) undZ rfl infoZ2 (hw'.at (i := 1) rfl) rfl) hH25 ?_
          intro a30 he30
          clear he29 a29
          refine hV (fuel := 11) (i := 9) (Value.int .i64 1) he30 rfl rfl rfl (by kernel_rfl) (by kernel_rfl) (by kernel_rfl) (fun _ _ _ h => h) (he30.want rfl rfl rfl rfl rfl) (fun w' _ => rn_mv rfl (he30.op rfl) w') hH25 ?_
          intro a31 he31
          clear he30 a30
          refine hC (fuel := 10) (i := 8) he31 (by kernel_rfl) rfl rfl rfl Tryd.func11 (by kernel_rfl) rfl rfl (he31.want rfl rfl rfl rfl rfl) rfl (Compare_c p q w25) ?_
          rintro _ w32 ⟨rfl, hn⟩
          have hH32 := hH25.call hn
          refine ⟨_, rfl, hH32, ?_⟩
          intro a33 he33
          clear he31 a31 hH25 hn
          by_cases hb4 : (cmpP p q) = 1
          · skip
            refine hV (fuel := 9) (i := 10) (Value.bool false) he33 rfl rfl rfl (by kernel_rfl) (by kernel_rfl) (by kernel_rfl) (fun _ _ _ h => h) (he33.want rfl rfl rfl rfl rfl) (fun w' _ => rn_neI rfl (he33.op rfl) (he33.op rfl) (bneT hb4) w') hH32 ?_
            intro a34 he34
            clear he33 a33
            refine hV (fuel := 8) (i := 11) (Value.bool false) he34 rfl rfl rfl (by kernel_rfl) (by kernel_rfl) (by kernel_rfl) (fun _ _ _ h => h) (wanted_plain rfl _) (fun w' _ => rn_pk0 rfl (he34.op rfl) (he34.op rfl) w') hH32 ?_
            intro a35 he35
            clear he34 a34
            refine hV (fuel := 7) (i := 12) (Value.bool false) he35 rfl rfl rfl (by kernel_rfl) (by kernel_rfl) (by kernel_rfl) (fun _ _ _ h => h) (wanted_plain rfl _) (fun w' _ => rn_mv rfl (he35.op rfl) w') hH32 ?_
            intro a36 he36
            clear he35 a35
            refine hV (fuel := 6) (i := 13) (Value.agg #[Value.int .i64 q.l, Value.int .i64 q.c]) he36 rfl rfl rfl (by kernel_rfl) (by kernel_rfl) (by kernel_rfl) (fun _ _ _ h => h) (he36.want rfl rfl rfl rfl rfl) (fun w' hw' => rn_ldp [Value.int .i64 q.l, Value.int .i64 q.c] rfl (he36.op rfl) undZ rfl infoZ2 (hw'.at (i := 1) rfl) rfl) hH32 ?_
            intro a37 he37
            clear he36 a36
            refine hV (fuel := 5) (i := 14) (Value.agg #[Value.int .i64 p.l, Value.int .i64 p.c]) he37 rfl rfl rfl (by kernel_rfl) (by kernel_rfl) (by kernel_rfl) (fun _ _ _ h => h) (he37.want rfl rfl rfl rfl rfl) (fun w' hw' => rn_ldp [Value.int .i64 p.l, Value.int .i64 p.c] rfl (he37.op rfl) undZ rfl infoZ2 (hw'.at (i := 2) rfl) rfl) hH32 ?_
            intro a38 he38
            clear he37 a37
            refine hV (fuel := 4) (i := 16) (Value.int .i64 1) he38 rfl rfl rfl (by kernel_rfl) (by kernel_rfl) (by kernel_rfl) (fun _ _ _ h => h) (he38.want rfl rfl rfl rfl rfl) (fun w' _ => rn_mv rfl (he38.op rfl) w') hH32 ?_
            intro a39 he39
            clear he38 a38
            refine hV (fuel := 3) (i := 17) (Value.int .i64 (-1)) he39 rfl rfl rfl (by kernel_rfl) (by kernel_rfl) (by kernel_rfl) (fun _ _ _ h => h) (he39.want rfl rfl rfl rfl rfl) (fun w' _ => rn_negI rfl (he39.op rfl) (by rfl) w') hH32 ?_
            intro a40 he40
            clear he39 a39
            refine hC (fuel := 2) (i := 15) he40 (by kernel_rfl) rfl rfl rfl Tryd.func11 (by kernel_rfl) rfl rfl (he40.want rfl rfl rfl rfl rfl) rfl (Compare_c q p w32) ?_
            rintro _ w41 ⟨rfl, hn⟩
            have hH41 := hH32.call hn
            refine ⟨_, rfl, hH41, ?_⟩
            intro a42 he42
            clear he40 a40 hH32 hn
            by_cases hb5 : (cmpP q p) = (-1)
            · skip
              refine hV (fuel := 1) (i := 18) (Value.bool false) he42 rfl rfl rfl (by kernel_rfl) (by kernel_rfl) (by kernel_rfl) (fun _ _ _ h => h) (he42.want rfl rfl rfl rfl rfl) (fun w' _ => rn_neI rfl (he42.op rfl) (he42.op rfl) (bneT hb5) w') hH41 ?_
              intro a43 he43
              clear he42 a42
              refine hV (fuel := 0) (i := 19) (Value.bool false) he43 rfl rfl rfl (by kernel_rfl) (by kernel_rfl) (by kernel_rfl) (fun _ _ _ h => h) (wanted_plain rfl _) (fun w' _ => rn_pk0 rfl (he43.op rfl) (he43.op rfl) w') hH41 ?_
              intro a44 he44
              clear he43 a43
              refine wpAnyH_done (by kernel_rfl) ?_ _
              refine then_ok ?_
              refine wp_cond_false (he44.op rfl) ?_
              refine wp_skip ?_
              refine then_ok ?_
              exact ⟨he44.mem ⟨rfl, rfl, rfl, rfl, trivial⟩, hH41⟩
            · skip
              refine hV (fuel := 1) (i := 18) (Value.bool true) he42 rfl rfl rfl (by kernel_rfl) (by kernel_rfl) (by kernel_rfl) (fun _ _ _ h => h) (he42.want rfl rfl rfl rfl rfl) (fun w' _ => rn_neI rfl (he42.op rfl) (he42.op rfl) (bneF hb5) w') hH41 ?_
              intro a43 he43
              clear he42 a42
              refine hV (fuel := 0) (i := 19) (Value.bool true) he43 rfl rfl rfl (by kernel_rfl) (by kernel_rfl) (by kernel_rfl) (fun _ _ _ h => h) (wanted_plain rfl _) (fun w' _ => rn_pk0 rfl (he43.op rfl) (he43.op rfl) w') hH41 ?_
              intro a44 he44
              clear he43 a43
              refine wpAnyH_done (by kernel_rfl) ?_ _
              refine then_ok ?_
              refine wp_cond_true (he44.op rfl) ?_
              refine wp_seq ?_
              refine wp_region_lit ?_
              refine lV (Value.bool false) he44 rfl rfl (wanted_plain rfl _) (rn_asg rfl (he44.op rfl) w41) ?_
              intro a45 he45
              clear he44 a44
              refine wpList_nil ?_
              refine then_ok ?_
              refine wp_ret ?_
              try simp only [Exit.then, Exit.inBlock, Exit.noGoto]
              omega
          · skip
            refine hV (fuel := 9) (i := 10) (Value.bool true) he33 rfl rfl rfl (by kernel_rfl) (by kernel_rfl) (by kernel_rfl) (fun _ _ _ h => h) (he33.want rfl rfl rfl rfl rfl) (fun w' _ => rn_neI rfl (he33.op rfl) (he33.op rfl) (bneF hb4) w') hH32 ?_
            intro a34 he34
            clear he33 a33
            refine hV (fuel := 8) (i := 11) (Value.bool true) he34 rfl rfl rfl (by kernel_rfl) (by kernel_rfl) (by kernel_rfl) (fun _ _ _ h => h) (wanted_plain rfl _) (fun w' _ => rn_pk0 rfl (he34.op rfl) (he34.op rfl) w') hH32 ?_
            intro a35 he35
            clear he34 a34
            refine hV (fuel := 7) (i := 12) (Value.bool true) he35 rfl rfl rfl (by kernel_rfl) (by kernel_rfl) (by kernel_rfl) (fun _ _ _ h => h) (wanted_plain rfl _) (fun w' _ => rn_mv rfl (he35.op rfl) w') hH32 ?_
            intro a36 he36
            clear he35 a35
            refine hSkip (fuel := 6) (i := 13) he36 rfl rfl rfl (by kernel_rfl) (by kernel_rfl) (by kernel_rfl) (fun _ _ _ h => h) (he36.wantNot rfl rfl rfl rfl rfl rfl) hH32 ?_
            intro a37 he37
            clear he36 a36
            refine hSkip (fuel := 5) (i := 14) he37 rfl rfl rfl (by kernel_rfl) (by kernel_rfl) (by kernel_rfl) (fun _ _ _ h => h) (he37.wantNot rfl rfl rfl rfl rfl rfl) hH32 ?_
            intro a38 he38
            clear he37 a37
            refine hSkip (fuel := 4) (i := 15) he38 rfl rfl rfl (by kernel_rfl) (by kernel_rfl) (by kernel_rfl) (fun _ _ _ h => h) (he38.wantNot rfl rfl rfl rfl rfl rfl) hH32 ?_
            intro a39 he39
            clear he38 a38
            refine hSkip (fuel := 3) (i := 16) he39 rfl rfl rfl (by kernel_rfl) (by kernel_rfl) (by kernel_rfl) (fun _ _ _ h => h) (he39.wantNot rfl rfl rfl rfl rfl rfl) hH32 ?_
            intro a40 he40
            clear he39 a39
            refine hSkip (fuel := 2) (i := 17) he40 rfl rfl rfl (by kernel_rfl) (by kernel_rfl) (by kernel_rfl) (fun _ _ _ h => h) (he40.wantNot rfl rfl rfl rfl rfl rfl) hH32 ?_
            intro a41 he41
            clear he40 a40
            refine hSkip (fuel := 1) (i := 18) he41 rfl rfl rfl (by kernel_rfl) (by kernel_rfl) (by kernel_rfl) (fun _ _ _ h => h) (he41.wantNot rfl rfl rfl rfl rfl rfl) hH32 ?_
            intro a42 he42
            clear he41 a41
            refine hV (fuel := 0) (i := 19) (Value.bool true) he42 rfl rfl rfl (by kernel_rfl) (by kernel_rfl) (by kernel_rfl) (fun _ _ _ h => h) (wanted_plain rfl _) (fun w' _ => rn_pk rfl (he42.op rfl) (he42.op rfl) w') hH32 ?_
            intro a43 he43
            clear he42 a42
            refine wpAnyH_done (by kernel_rfl) ?_ _
            refine then_ok ?_
            refine wp_cond_true (he43.op rfl) ?_
            refine wp_seq ?_
            refine wp_region_lit ?_
            refine lV (Value.bool false) he43 rfl rfl (wanted_plain rfl _) (rn_asg rfl (he43.op rfl) w32) ?_
            intro a44 he44
            clear he43 a43
            refine wpList_nil ?_
            refine then_ok ?_
            refine wp_ret ?_
            try simp only [Exit.then, Exit.inBlock, Exit.noGoto]
            omega
      · skip
        clear hH16 he19
        rintro a20 w20 ⟨he20, hH20⟩
        refine wp_seq ?_
        refine wp_region_lit ?_
        refine lV (Value.agg #[Value.int .i64 p.l, Value.int .i64 p.c]) he20 rfl rfl (wanted_plain rfl _) (rn_ldp [Value.int .i64 p.l, Value.int .i64 p.c] rfl (he20.op rfl) undZ rfl infoZ2 (hH20.at (i := 2) rfl) rfl) ?_
        intro a21 he21
        clear he20 a20
        refine lV (Value.agg #[Value.int .i64 q.l, Value.int .i64 q.c]) he21 rfl rfl (wanted_plain rfl _) (rn_ldp [Value.int .i64 q.l, Value.int .i64 q.c] rfl (he21.op rfl) undZ rfl infoZ2 (hH20.at (i := 1) rfl) rfl) ?_
        intro a22 he22
        clear he21 a21
        refine lC he22 rfl rfl Tryd.func12 (by kernel_rfl) rfl rfl (wanted_plain rfl _) rfl (Order_c p q q p (if_pos (by omega)) w20) ?_
        intro w23 a24 hn he24
        have hH23 := hH20.call hn
        clear he22 a22 hH20 hn
        refine lV (Value.tuple #[Value.agg #[Value.int .i64 q.l, Value.int .i64 q.c], Value.agg #[Value.int .i64 p.l, Value.int .i64 p.c]]) he24 rfl rfl (wanted_plain rfl _) (rn_mv rfl (he24.op rfl) w23) ?_
        intro a25 he25
        clear he24 a24
        refine lV (Value.agg #[Value.int .i64 q.l, Value.int .i64 q.c]) he25 rfl rfl (wanted_plain rfl _) (rn_ext rfl (he25.op rfl) rfl w23) ?_
        intro a26 he26
        clear he25 a25
        refine lV (Value.agg #[Value.int .i64 p.l, Value.int .i64 p.c]) he26 rfl rfl (wanted_plain rfl _) (rn_ext rfl (he26.op rfl) rfl w23) ?_
        intro a27 he27
        clear he26 a26
        refine lNewP (fun p => .pointer (some ⟨p, 0, none⟩)) he27 hH23 rfl rfl (wanted_plain rfl _) (rn_allocZ rfl w23) ?_
        intro p28 w28 a29 hp hn hH28 he29
        clear he27 a27 hH23 hn hp
        refine lNewP (fun p => .pointer (some ⟨p, 0, none⟩)) he29 hH28 rfl rfl (wanted_plain rfl _) (rn_allocZ rfl w28) ?_
        intro p30 w30 a31 hp hn hH30 he31
        clear he29 a29 hH28 hn hp
        refine lSetF 1 #[Value.int .i64 q.l, Value.int .i64 q.c] (cs := #[Value.int .i64 q.l, Value.int .i64 q.c]) he31 hH30 rfl (wanted_plain rfl _) rfl rfl rfl rfl rfl (by kernel_rfl) (by kernel_rfl) (by kernel_rfl) rfl ?_
        intro w32 a33 hH32 hf he33
        replace hH32 : Hp w [⟨p30, 23, #[Value.int .i64 0, Value.int .i64 0]⟩, ⟨p28, 23, #[Value.int .i64 q.l, Value.int .i64 q.c]⟩, ⟨p5, 23, #[Value.int .i64 r.l, Value.int .i64 r.c]⟩, ⟨p3, 23, #[Value.int .i64 q.l, Value.int .i64 q.c]⟩, ⟨p1, 23, #[Value.int .i64 p.l, Value.int .i64 p.c]⟩] w32 := hH32
        clear hf
        clear he31 a31 hH30
        refine lSetF 0 #[Value.int .i64 p.l, Value.int .i64 p.c] (cs := #[Value.int .i64 p.l, Value.int .i64 p.c]) he33 hH32 rfl (wanted_plain rfl _) rfl rfl rfl rfl rfl (by kernel_rfl) (by kernel_rfl) (by kernel_rfl) rfl ?_
        intro w34 a35 hH34 hf he35
        replace hH34 : Hp w [⟨p30, 23, #[Value.int .i64 p.l, Value.int .i64 p.c]⟩, ⟨p28, 23, #[Value.int .i64 q.l, Value.int .i64 q.c]⟩, ⟨p5, 23, #[Value.int .i64 r.l, Value.int .i64 r.c]⟩, ⟨p3, 23, #[Value.int .i64 q.l, Value.int .i64 q.c]⟩, ⟨p1, 23, #[Value.int .i64 p.l, Value.int .i64 p.c]⟩] w34 := hH34
        clear hf
        clear he33 a33 hH32
        refine wpList_nil ?_
        refine then_ok ?_
        refine wp_seq ?_
        refine reg_cut (fun a w' => Env 87 [(5, Value.pointer (some ⟨p5, 0, none⟩)), (4, Value.pointer (some ⟨p3, 0, none⟩)), (3, Value.pointer (some ⟨p1, 0, none⟩))] a ∧ Hp w [⟨p30, 23, #[Value.int .i64 p.l, Value.int .i64 p.c]⟩, ⟨p28, 23, #[Value.int .i64 q.l, Value.int .i64 q.c]⟩, ⟨p5, 23, #[Value.int .i64 r.l, Value.int .i64 r.c]⟩, ⟨p3, 23, #[Value.int .i64 q.l, Value.int .i64 q.c]⟩, ⟨p1, 23, #[Value.int .i64 p.l, Value.int .i64 p.c]⟩] w') ?_ ?_
        · skip
          refine wp_seq ?_
          refine wp_region_lit ?_
          refine lV (Value.int .i64 1) he35 rfl rfl (wanted_plain rfl _) (rn_mv rfl (he35.op rfl) w34) ?_
          intro a36 he36
          clear he35 a35
          refine lV (Value.bool true) he36 rfl rfl (wanted_plain rfl _) (rn_gtI rfl (he36.op rfl) (he36.op rfl) (by decide) w34) ?_
          intro a37 he37
          clear he36 a36
          refine lV (Value.bool true) he37 rfl rfl (wanted_plain rfl _) (rn_mv rfl (he37.op rfl) w34) ?_
          intro a38 he38
          clear he37 a37
          refine lV (Value.agg #[Value.int .i64 q.l, Value.int .i64 q.c]) he38 rfl rfl (he38.want rfl rfl rfl rfl rfl) (rn_ldp [Value.int .i64 q.l, Value.int .i64 q.c] rfl (he38.op rfl) undZ rfl infoZ2 (hH34.at (i := 1) rfl) rfl) ?_
          intro a39 he39
          clear he38 a38
          refine lV (Value.agg #[Value.int .i64 q.l, Value.int .i64 q.c]) he39 rfl rfl (he39.want rfl rfl rfl rfl rfl) (rn_ldp [Value.int .i64 q.l, Value.int .i64 q.c] rfl (he39.op rfl) undZ rfl infoZ2 (hH34.at (i := 3) rfl) rfl) ?_
          intro a40 he40
          clear he39 a39
          refine lV (Value.bool false) he40 rfl rfl (he40.want rfl rfl rfl rfl rfl) (rn_neZ (p := q) (q := q) rfl (he40.op rfl) (he40.op rfl) (ndT (pl_eq.2 (pl_eq.1 rfl))) w34) ?_
          intro a41 he41
          clear he40 a40
          refine lV (Value.bool false) he41 rfl rfl (he41.want rfl rfl rfl rfl rfl) (rn_mv rfl (he41.op rfl) w34) ?_
          intro a42 he42
          clear he41 a41
          refine lV (Value.agg #[Value.int .i64 p.l, Value.int .i64 p.c]) he42 rfl rfl (he42.want rfl rfl rfl rfl rfl) (rn_ldp [Value.int .i64 p.l, Value.int .i64 p.c] rfl (he42.op rfl) undZ rfl infoZ2 (hH34.at (i := 0) rfl) rfl) ?_
          intro a43 he43
          clear he42 a42
          refine lV (Value.agg #[Value.int .i64 p.l, Value.int .i64 p.c]) he43 rfl rfl (he43.want rfl rfl rfl rfl rfl) (rn_ldp [Value.int .i64 p.l, Value.int .i64 p.c] rfl (he43.op rfl) undZ rfl infoZ2 (hH34.at (i := 4) rfl) rfl) ?_
          intro a44 he44
          clear he43 a43
          refine lV (Value.bool false) he44 rfl rfl (he44.want rfl rfl rfl rfl rfl) (rn_neZ (p := p) (q := p) rfl (he44.op rfl) (he44.op rfl) (ndT (pl_eq.2 (pl_eq.1 rfl))) w34) ?_
          intro a45 he45
          clear he44 a44
          refine lV (Value.bool false) he45 rfl rfl (he45.want rfl rfl rfl rfl rfl) (rn_pk0 rfl (he45.op rfl) (he45.op rfl) w34) ?_
          intro a46 he46
          clear he45 a45
          refine lV (Value.bool false) he46 rfl rfl (wanted_plain rfl _) (rn_pk rfl (he46.op rfl) (he46.op rfl) w34) ?_
          intro a47 he47
          clear he46 a46
          refine lV (Value.bool false) he47 rfl rfl (wanted_plain rfl _) (rn_mv rfl (he47.op rfl) w34) ?_
          intro a48 he48
          clear he47 a47
          refine lV (Value.int .i64 1) he48 rfl rfl (he48.want rfl rfl rfl rfl rfl) (rn_mv rfl (he48.op rfl) w34) ?_
          intro a49 he49
          clear he48 a48
          refine lV (Value.bool false) he49 rfl rfl (he49.want rfl rfl rfl rfl rfl) (rn_leI rfl (he49.op rfl) (he49.op rfl) (by decide) w34) ?_
          intro a50 he50
          clear he49 a49
          refine lV (Value.bool false) he50 rfl rfl (he50.want rfl rfl rfl rfl rfl) (rn_mv rfl (he50.op rfl) w34) ?_
          intro a51 he51
          clear he50 a50
          refine lSkip he51 rfl rfl (he51.wantNot rfl rfl rfl rfl rfl rfl) ?_
          intro a52 he52
          clear he51 a51
          refine lSkip he52 rfl rfl (he52.wantNot rfl rfl rfl rfl rfl rfl) ?_
          intro a53 he53
          clear he52 a52
          refine lSkip he53 rfl rfl (he53.wantNot rfl rfl rfl rfl rfl rfl) ?_
          intro a54 he54
          clear he53 a53
          refine lSkip he54 rfl rfl (he54.wantNot rfl rfl rfl rfl rfl rfl) ?_
          intro a55 he55
          clear he54 a54
          refine lSkip he55 rfl rfl (he55.wantU rfl rfl rfl rfl rfl) ?_
          intro a56 he56
          clear he55 a55
          refine lSkip he56 rfl rfl (he56.wantU rfl rfl rfl rfl rfl) ?_
          intro a57 he57
          clear he56 a56
          refine lSkip he57 rfl rfl (he57.wantU rfl rfl rfl rfl rfl) ?_
          intro a58 he58
          clear he57 a57
          refine lSkip he58 rfl rfl (he58.wantNot rfl rfl rfl rfl rfl rfl) ?_
          intro a59 he59
          clear he58 a58
          refine lV (Value.bool false) he59 rfl rfl (he59.want rfl rfl rfl rfl rfl) (rn_pk0 rfl (he59.op rfl) (he59.op rfl) w34) ?_
          intro a60 he60
          clear he59 a59
          refine lV (Value.bool false) he60 rfl rfl (wanted_plain rfl _) (rn_pk0 rfl (he60.op rfl) (he60.op rfl) w34) ?_
          intro a61 he61
          clear he60 a60
          refine wpList_nil ?_
          refine then_ok ?_
          refine wp_cond_false (he61.op rfl) ?_
          refine wp_skip ?_
          refine then_ok ?_
          exact ⟨he61.mem ⟨rfl, rfl, rfl, trivial⟩, hH34⟩
        · skip
          clear hH34 he35
          rintro a36 w36 ⟨he36, hH36⟩
          refine wp_seq ?_
          refine wp_region_held_drew (S := Hp w [⟨p30, 23, #[Value.int .i64 p.l, Value.int .i64 p.c]⟩, ⟨p28, 23, #[Value.int .i64 q.l, Value.int .i64 q.c]⟩, ⟨p5, 23, #[Value.int .i64 r.l, Value.int .i64 r.c]⟩, ⟨p3, 23, #[Value.int .i64 q.l, Value.int .i64 q.c]⟩, ⟨p1, 23, #[Value.int .i64 p.l, Value.int .i64 p.c]⟩]) (by kernel_rfl) (hH36.drew) (fun _ => ?_)
          have hn : New w36 (World.drew w36) := (Fr.refl _ _).drew
          clear hn
          have hH37 := hH36.drew
          clear hH36
          generalize World.drew w36 = w37 at *
          refine hV (fuel := 17) (i := 0) (Value.agg #[Value.int .i64 p.l, Value.int .i64 p.c]) he36 rfl rfl rfl (by kernel_rfl) (by kernel_rfl) (by kernel_rfl) (fun _ _ _ h => h) (wanted_plain rfl _) (fun w' hw' => rn_ldp [Value.int .i64 p.l, Value.int .i64 p.c] rfl (he36.op rfl) undZ rfl infoZ2 (hw'.at (i := 4) rfl) rfl) hH37 ?_
          intro a38 he38
          clear he36 a36
          refine hV (fuel := 16) (i := 1) (Value.agg #[Value.int .i64 q.l, Value.int .i64 q.c]) he38 rfl rfl rfl (by kernel_rfl) (by kernel_rfl) (by kernel_rfl) (fun _ _ _ h => h) (wanted_plain rfl _) (fun w' hw' => rn_ldp [Value.int .i64 q.l, Value.int .i64 q.c] rfl (he38.op rfl) undZ rfl infoZ2 (hw'.at (i := 3) rfl) rfl) hH37 ?_
          intro a39 he39
          clear he38 a38
          refine hV (fuel := 15) (i := 2) (Value.agg #[Value.int .i64 r.l, Value.int .i64 r.c]) he39 rfl rfl rfl (by kernel_rfl) (by kernel_rfl) (by kernel_rfl) (fun _ _ _ h => h) (wanted_plain rfl _) (fun w' hw' => rn_ldp [Value.int .i64 r.l, Value.int .i64 r.c] rfl (he39.op rfl) undZ rfl infoZ2 (hw'.at (i := 2) rfl) rfl) hH37 ?_
          intro a40 he40
          clear he39 a39
          refine hV (fuel := 14) (i := 4) (Value.agg #[Value.int .i64 p.l, Value.int .i64 p.c]) he40 rfl rfl rfl (by kernel_rfl) (by kernel_rfl) (by kernel_rfl) (fun _ _ _ h => h) (wanted_plain rfl _) (fun w' hw' => rn_ldp [Value.int .i64 p.l, Value.int .i64 p.c] rfl (he40.op rfl) undZ rfl infoZ2 (hw'.at (i := 4) rfl) rfl) hH37 ?_
          intro a41 he41
          clear he40 a40
          refine hV (fuel := 13) (i := 5) (Value.agg #[Value.int .i64 q.l, Value.int .i64 q.c]) he41 rfl rfl rfl (by kernel_rfl) (by kernel_rfl) (by kernel_rfl) (fun _ _ _ h => h) (wanted_plain rfl _) (fun w' hw' => rn_ldp [Value.int .i64 q.l, Value.int .i64 q.c] rfl (he41.op rfl) undZ rfl infoZ2 (hw'.at (i := 3) rfl) rfl) hH37 ?_
          intro a42 he42
          clear he41 a41
          by_cases hb4 : witP p q r
          · skip
            refine hC (fuel := 12) (i := 3) he42 (by kernel_rfl) rfl rfl rfl Tryd.func13 (by kernel_rfl) rfl rfl (wanted_plain rfl _) rfl (Within_c p q r true (decide_eq_true hb4) w37) ?_
            rintro _ w43 ⟨rfl, hn⟩
            have hH43 := hH37.call hn
            refine ⟨_, rfl, hH43, ?_⟩
            intro a44 he44
            clear he42 a42 hH37 hn
            refine hC (fuel := 11) (i := 6) he44 (by kernel_rfl) rfl rfl rfl Tryd.func8 (by kernel_rfl) rfl rfl (wanted_plain rfl _) rfl (RBefore_c p q false (decide_eq_false hb0) w43) ?_
            rintro _ w45 ⟨rfl, hn⟩
            have hH45 := hH43.call hn
            refine ⟨_, rfl, hH45, ?_⟩
            intro a46 he46
            clear he44 a44 hH43 hn
            refine hV (fuel := 10) (i := 7) (Value.bool true) he46 rfl rfl rfl (by kernel_rfl) (by kernel_rfl) (by kernel_rfl) (fun _ _ _ h => h) (wanted_plain rfl _) (fun w' _ => rn_not (b := false) rfl (he46.op rfl) w') hH45 ?_
            intro a47 he47
            clear he46 a46
            refine hV (fuel := 9) (i := 8) (Value.bool true) he47 rfl rfl rfl (by kernel_rfl) (by kernel_rfl) (by kernel_rfl) (fun _ _ _ h => h) (wanted_plain rfl _) (fun w' _ => rn_mv rfl (he47.op rfl) w') hH45 ?_
            intro a48 he48
            clear he47 a47
            refine hV (fuel := 8) (i := 9) (Value.agg #[Value.int .i64 p.l, Value.int .i64 p.c]) he48 rfl rfl rfl (by kernel_rfl) (by kernel_rfl) (by kernel_rfl) (fun _ _ _ h => h) (he48.want rfl rfl rfl rfl rfl) (fun w' hw' => rn_ldp [Value.int .i64 p.l, Value.int .i64 p.c] rfl (he48.op rfl) undZ rfl infoZ2 (hw'.at (i := 4) rfl) rfl) hH45 ?_
            intro a49 he49
            clear he48 a48
            refine hV (fuel := 7) (i := 10) (Value.agg #[Value.int .i64 r.l, Value.int .i64 r.c]) he49 rfl rfl rfl (by kernel_rfl) (by kernel_rfl) (by kernel_rfl) (fun _ _ _ h => h) (he49.want rfl rfl rfl rfl rfl) (fun w' hw' => rn_ldp [Value.int .i64 r.l, Value.int .i64 r.c] rfl (he49.op rfl) undZ rfl infoZ2 (hw'.at (i := 2) rfl) rfl) hH45 ?_
            intro a50 he50
            clear he49 a49
            by_cases hb5 : befP p r
            · skip
              refine hC (fuel := 6) (i := 11) he50 (by kernel_rfl) rfl rfl rfl Tryd.func8 (by kernel_rfl) rfl rfl (he50.want rfl rfl rfl rfl rfl) rfl (RBefore_c p r true (decide_eq_true hb5) w45) ?_
              rintro _ w51 ⟨rfl, hn⟩
              have hH51 := hH45.call hn
              refine ⟨_, rfl, hH51, ?_⟩
              intro a52 he52
              clear he50 a50 hH45 hn
              refine hV (fuel := 5) (i := 12) (Value.bool true) he52 rfl rfl rfl (by kernel_rfl) (by kernel_rfl) (by kernel_rfl) (fun _ _ _ h => h) (wanted_plain rfl _) (fun w' _ => rn_pk rfl (he52.op rfl) (he52.op rfl) w') hH51 ?_
              intro a53 he53
              clear he52 a52
              refine hV (fuel := 4) (i := 13) (Value.bool true) he53 rfl rfl rfl (by kernel_rfl) (by kernel_rfl) (by kernel_rfl) (fun _ _ _ h => h) (wanted_plain rfl _) (fun w' _ => rn_eqB (i := true) (j := true) rfl (he53.op rfl) (he53.op rfl) rfl w') hH51 ?_
              intro a54 he54
              clear he53 a53
              refine hV (fuel := 3) (i := 14) (Value.bool true) he54 rfl rfl rfl (by kernel_rfl) (by kernel_rfl) (by kernel_rfl) (fun _ _ _ h => h) (wanted_plain rfl _) (fun w' _ => rn_mv rfl (he54.op rfl) w') hH51 ?_
              intro a55 he55
              clear he54 a54
              refine hC (fuel := 2) (i := 15) he55 (by kernel_rfl) rfl rfl rfl Tryd.func14 (by kernel_rfl) rfl rfl (he55.want rfl rfl rfl rfl rfl) rfl (known_c w51 (hT.new hH51.new)) ?_
              rintro _ w56 ⟨rfl, hn⟩
              have hH56 := hH51.call hn
              refine ⟨_, rfl, hH56, ?_⟩
              intro a57 he57
              clear he55 a55 hH51 hn
              refine hV (fuel := 1) (i := 16) (Value.bool true) he57 rfl rfl rfl (by kernel_rfl) (by kernel_rfl) (by kernel_rfl) (fun _ _ _ h => h) (wanted_plain rfl _) (fun w' _ => rn_pk rfl (he57.op rfl) (he57.op rfl) w') hH56 ?_
              intro a58 he58
              clear he57 a57
              refine hV (fuel := 0) (i := 17) (Value.bool true) he58 rfl rfl rfl (by kernel_rfl) (by kernel_rfl) (by kernel_rfl) (fun _ _ _ h => h) (wanted_plain rfl _) (fun w' _ => rn_asg rfl (he58.op rfl) w') hH56 ?_
              intro a59 he59
              clear he58 a58
              refine wpAnyH_done (by kernel_rfl) ?_ _
              refine then_ok ?_
              refine wp_ret ?_
              try simp only [Exit.then, Exit.inBlock, Exit.noGoto]
              exact ret_env rfl he59 rfl ⟨by first | rfl | (exfalso; omega), hH56.new⟩
            · skip
              refine hC (fuel := 6) (i := 11) he50 (by kernel_rfl) rfl rfl rfl Tryd.func8 (by kernel_rfl) rfl rfl (he50.want rfl rfl rfl rfl rfl) rfl (RBefore_c p r false (decide_eq_false hb5) w45) ?_
              rintro _ w51 ⟨rfl, hn⟩
              have hH51 := hH45.call hn
              refine ⟨_, rfl, hH51, ?_⟩
              intro a52 he52
              clear he50 a50 hH45 hn
              refine hV (fuel := 5) (i := 12) (Value.bool false) he52 rfl rfl rfl (by kernel_rfl) (by kernel_rfl) (by kernel_rfl) (fun _ _ _ h => h) (wanted_plain rfl _) (fun w' _ => rn_pk rfl (he52.op rfl) (he52.op rfl) w') hH51 ?_
              intro a53 he53
              clear he52 a52
              refine hV (fuel := 4) (i := 13) (Value.bool false) he53 rfl rfl rfl (by kernel_rfl) (by kernel_rfl) (by kernel_rfl) (fun _ _ _ h => h) (wanted_plain rfl _) (fun w' _ => rn_eqB (i := true) (j := false) rfl (he53.op rfl) (he53.op rfl) rfl w') hH51 ?_
              intro a54 he54
              clear he53 a53
              refine hV (fuel := 3) (i := 14) (Value.bool false) he54 rfl rfl rfl (by kernel_rfl) (by kernel_rfl) (by kernel_rfl) (fun _ _ _ h => h) (wanted_plain rfl _) (fun w' _ => rn_mv rfl (he54.op rfl) w') hH51 ?_
              intro a55 he55
              clear he54 a54
              refine hSkip (fuel := 2) (i := 15) he55 rfl rfl rfl (by kernel_rfl) (by kernel_rfl) (by kernel_rfl) (fun _ _ _ h => h) (he55.wantNot rfl rfl rfl rfl rfl rfl) hH51 ?_
              intro a56 he56
              clear he55 a55
              refine hV (fuel := 1) (i := 16) (Value.bool false) he56 rfl rfl rfl (by kernel_rfl) (by kernel_rfl) (by kernel_rfl) (fun _ _ _ h => h) (wanted_plain rfl _) (fun w' _ => rn_pk0 rfl (he56.op rfl) (he56.op rfl) w') hH51 ?_
              intro a57 he57
              clear he56 a56
              refine hV (fuel := 0) (i := 17) (Value.bool false) he57 rfl rfl rfl (by kernel_rfl) (by kernel_rfl) (by kernel_rfl) (fun _ _ _ h => h) (wanted_plain rfl _) (fun w' _ => rn_asg rfl (he57.op rfl) w') hH51 ?_
              intro a58 he58
              clear he57 a57
              refine wpAnyH_done (by kernel_rfl) ?_ _
              refine then_ok ?_
              refine wp_ret ?_
              try simp only [Exit.then, Exit.inBlock, Exit.noGoto]
              exact ret_env rfl he58 rfl ⟨by first | rfl | (exfalso; omega), hH51.new⟩
          · skip
            refine hC (fuel := 12) (i := 3) he42 (by kernel_rfl) rfl rfl rfl Tryd.func13 (by kernel_rfl) rfl rfl (wanted_plain rfl _) rfl (Within_c p q r false (decide_eq_false hb4) w37) ?_
            rintro _ w43 ⟨rfl, hn⟩
            have hH43 := hH37.call hn
            refine ⟨_, rfl, hH43, ?_⟩
            intro a44 he44
            clear he42 a42 hH37 hn
            refine hC (fuel := 11) (i := 6) he44 (by kernel_rfl) rfl rfl rfl Tryd.func8 (by kernel_rfl) rfl rfl (wanted_plain rfl _) rfl (RBefore_c p q false (decide_eq_false hb0) w43) ?_
            rintro _ w45 ⟨rfl, hn⟩
            have hH45 := hH43.call hn
            refine ⟨_, rfl, hH45, ?_⟩
            intro a46 he46
            clear he44 a44 hH43 hn
            refine hV (fuel := 10) (i := 7) (Value.bool true) he46 rfl rfl rfl (by kernel_rfl) (by kernel_rfl) (by kernel_rfl) (fun _ _ _ h => h) (wanted_plain rfl _) (fun w' _ => rn_not (b := false) rfl (he46.op rfl) w') hH45 ?_
            intro a47 he47
            clear he46 a46
            refine hV (fuel := 9) (i := 8) (Value.bool true) he47 rfl rfl rfl (by kernel_rfl) (by kernel_rfl) (by kernel_rfl) (fun _ _ _ h => h) (wanted_plain rfl _) (fun w' _ => rn_mv rfl (he47.op rfl) w') hH45 ?_
            intro a48 he48
            clear he47 a47
            refine hV (fuel := 8) (i := 9) (Value.agg #[Value.int .i64 p.l, Value.int .i64 p.c]) he48 rfl rfl rfl (by kernel_rfl) (by kernel_rfl) (by kernel_rfl) (fun _ _ _ h => h) (he48.want rfl rfl rfl rfl rfl) (fun w' hw' => rn_ldp [Value.int .i64 p.l, Value.int .i64 p.c] rfl (he48.op rfl) undZ rfl infoZ2 (hw'.at (i := 4) rfl) rfl) hH45 ?_
            intro a49 he49
            clear he48 a48
            refine hV (fuel := 7) (i := 10) (Value.agg #[Value.int .i64 r.l, Value.int .i64 r.c]) he49 rfl rfl rfl (by kernel_rfl) (by kernel_rfl) (by kernel_rfl) (fun _ _ _ h => h) (he49.want rfl rfl rfl rfl rfl) (fun w' hw' => rn_ldp [Value.int .i64 r.l, Value.int .i64 r.c] rfl (he49.op rfl) undZ rfl infoZ2 (hw'.at (i := 2) rfl) rfl) hH45 ?_
            intro a50 he50
            clear he49 a49
            by_cases hb5 : befP p r
            · skip
              refine hC (fuel := 6) (i := 11) he50 (by kernel_rfl) rfl rfl rfl Tryd.func8 (by kernel_rfl) rfl rfl (he50.want rfl rfl rfl rfl rfl) rfl (RBefore_c p r true (decide_eq_true hb5) w45) ?_
              rintro _ w51 ⟨rfl, hn⟩
              have hH51 := hH45.call hn
              refine ⟨_, rfl, hH51, ?_⟩
              intro a52 he52
              clear he50 a50 hH45 hn
              refine hV (fuel := 5) (i := 12) (Value.bool true) he52 rfl rfl rfl (by kernel_rfl) (by kernel_rfl) (by kernel_rfl) (fun _ _ _ h => h) (wanted_plain rfl _) (fun w' _ => rn_pk rfl (he52.op rfl) (he52.op rfl) w') hH51 ?_
              intro a53 he53
              clear he52 a52
              refine hV (fuel := 4) (i := 13) (Value.bool false) he53 rfl rfl rfl (by kernel_rfl) (by kernel_rfl) (by kernel_rfl) (fun _ _ _ h => h) (wanted_plain rfl _) (fun w' _ => rn_eqB (i := false) (j := true) rfl (he53.op rfl) (he53.op rfl) rfl w') hH51 ?_
              intro a54 he54
              clear he53 a53
              refine hV (fuel := 3) (i := 14) (Value.bool false) he54 rfl rfl rfl (by kernel_rfl) (by kernel_rfl) (by kernel_rfl) (fun _ _ _ h => h) (wanted_plain rfl _) (fun w' _ => rn_mv rfl (he54.op rfl) w') hH51 ?_
              intro a55 he55
              clear he54 a54
              refine hSkip (fuel := 2) (i := 15) he55 rfl rfl rfl (by kernel_rfl) (by kernel_rfl) (by kernel_rfl) (fun _ _ _ h => h) (he55.wantNot rfl rfl rfl rfl rfl rfl) hH51 ?_
              intro a56 he56
              clear he55 a55
              refine hV (fuel := 1) (i := 16) (Value.bool false) he56 rfl rfl rfl (by kernel_rfl) (by kernel_rfl) (by kernel_rfl) (fun _ _ _ h => h) (wanted_plain rfl _) (fun w' _ => rn_pk0 rfl (he56.op rfl) (he56.op rfl) w') hH51 ?_
              intro a57 he57
              clear he56 a56
              refine hV (fuel := 0) (i := 17) (Value.bool false) he57 rfl rfl rfl (by kernel_rfl) (by kernel_rfl) (by kernel_rfl) (fun _ _ _ h => h) (wanted_plain rfl _) (fun w' _ => rn_asg rfl (he57.op rfl) w') hH51 ?_
              intro a58 he58
              clear he57 a57
              refine wpAnyH_done (by kernel_rfl) ?_ _
              refine then_ok ?_
              refine wp_ret ?_
              try simp only [Exit.then, Exit.inBlock, Exit.noGoto]
              exact ret_env rfl he58 rfl ⟨by first | rfl | (exfalso; omega), hH51.new⟩
            · skip
              refine hC (fuel := 6) (i := 11) he50 (by kernel_rfl) rfl rfl rfl Tryd.func8 (by kernel_rfl) rfl rfl (he50.want rfl rfl rfl rfl rfl) rfl (RBefore_c p r false (decide_eq_false hb5) w45) ?_
              rintro _ w51 ⟨rfl, hn⟩
              have hH51 := hH45.call hn
              refine ⟨_, rfl, hH51, ?_⟩
              intro a52 he52
              clear he50 a50 hH45 hn
              refine hV (fuel := 5) (i := 12) (Value.bool false) he52 rfl rfl rfl (by kernel_rfl) (by kernel_rfl) (by kernel_rfl) (fun _ _ _ h => h) (wanted_plain rfl _) (fun w' _ => rn_pk rfl (he52.op rfl) (he52.op rfl) w') hH51 ?_
              intro a53 he53
              clear he52 a52
              refine hV (fuel := 4) (i := 13) (Value.bool true) he53 rfl rfl rfl (by kernel_rfl) (by kernel_rfl) (by kernel_rfl) (fun _ _ _ h => h) (wanted_plain rfl _) (fun w' _ => rn_eqB (i := false) (j := false) rfl (he53.op rfl) (he53.op rfl) rfl w') hH51 ?_
              intro a54 he54
              clear he53 a53
              refine hV (fuel := 3) (i := 14) (Value.bool true) he54 rfl rfl rfl (by kernel_rfl) (by kernel_rfl) (by kernel_rfl) (fun _ _ _ h => h) (wanted_plain rfl _) (fun w' _ => rn_mv rfl (he54.op rfl) w') hH51 ?_
              intro a55 he55
              clear he54 a54
              refine hC (fuel := 2) (i := 15) he55 (by kernel_rfl) rfl rfl rfl Tryd.func14 (by kernel_rfl) rfl rfl (he55.want rfl rfl rfl rfl rfl) rfl (known_c w51 (hT.new hH51.new)) ?_
              rintro _ w56 ⟨rfl, hn⟩
              have hH56 := hH51.call hn
              refine ⟨_, rfl, hH56, ?_⟩
              intro a57 he57
              clear he55 a55 hH51 hn
              refine hV (fuel := 1) (i := 16) (Value.bool true) he57 rfl rfl rfl (by kernel_rfl) (by kernel_rfl) (by kernel_rfl) (fun _ _ _ h => h) (wanted_plain rfl _) (fun w' _ => rn_pk rfl (he57.op rfl) (he57.op rfl) w') hH56 ?_
              intro a58 he58
              clear he57 a57
              refine hV (fuel := 0) (i := 17) (Value.bool true) he58 rfl rfl rfl (by kernel_rfl) (by kernel_rfl) (by kernel_rfl) (fun _ _ _ h => h) (wanted_plain rfl _) (fun w' _ => rn_asg rfl (he58.op rfl) w') hH56 ?_
              intro a59 he59
              clear he58 a58
              refine wpAnyH_done (by kernel_rfl) ?_ _
              refine then_ok ?_
              refine wp_ret ?_
              try simp only [Exit.then, Exit.inBlock, Exit.noGoto]
              exact ret_env rfl he59 rfl ⟨by first | rfl | (exfalso; omega), hH56.new⟩
    · skip
      refine lC he15 rfl rfl Tryd.func8 (by kernel_rfl) rfl rfl (wanted_plain rfl _) rfl (RBefore_c q p false (decide_eq_false hb1) w11) ?_
      intro w16 a17 hn he17
      have hH16 := hH11.call hn
      clear he15 a15 hH11 hn
      refine lV (Value.bool false) he17 rfl rfl (wanted_plain rfl _) (rn_asg rfl (he17.op rfl) w16) ?_
      intro a18 he18
      clear he17 a17
      refine wpList_nil ?_
      refine then_ok ?_
      refine wp_cond_false (he18.op rfl) ?_
      refine wp_skip ?_
      refine block_ok ?_
      refine then_ok ?_
      refine wp_seq ?_
      refine reg_cut (fun a w' => Env 87 [(7, Value.int .i64 0), (5, Value.pointer (some ⟨p5, 0, none⟩)), (4, Value.pointer (some ⟨p3, 0, none⟩)), (3, Value.pointer (some ⟨p1, 0, none⟩))] a ∧ Hp w [⟨p5, 23, #[Value.int .i64 r.l, Value.int .i64 r.c]⟩, ⟨p3, 23, #[Value.int .i64 q.l, Value.int .i64 q.c]⟩, ⟨p1, 23, #[Value.int .i64 p.l, Value.int .i64 p.c]⟩] w') ?_ ?_
      · skip
        refine wp_seq ?_
        refine wp_region_held_drew (S := Hp w [⟨p5, 23, #[Value.int .i64 r.l, Value.int .i64 r.c]⟩, ⟨p3, 23, #[Value.int .i64 q.l, Value.int .i64 q.c]⟩, ⟨p1, 23, #[Value.int .i64 p.l, Value.int .i64 p.c]⟩]) (by kernel_rfl) (hH16.drew) (fun _ => ?_)
        have hn : New w16 (World.drew w16) := (Fr.refl _ _).drew
        clear hn
        have hH19 := hH16.drew
        clear hH16
        generalize World.drew w16 = w19 at *
        refine hV (fuel := 19) (i := 0) (Value.agg #[Value.int .i64 p.l, Value.int .i64 p.c]) he18 rfl rfl rfl (by kernel_rfl) (by kernel_rfl) (by kernel_rfl) (fun _ _ _ h => h) (wanted_plain rfl _) (fun w' hw' => rn_ldp [Value.int .i64 p.l, Value.int .i64 p.c] rfl (he18.op rfl) undZ rfl infoZ2 (hw'.at (i := 2) rfl) rfl) hH19 ?_
        intro a20 he20
        clear he18 a18
        refine hV (fuel := 18) (i := 2) (Value.agg #[Value.int .i64 p.l, Value.int .i64 p.c]) he20 rfl rfl rfl (by kernel_rfl) (by kernel_rfl) (by kernel_rfl) (fun _ _ _ h => h) (wanted_plain rfl _) (fun w' hw' => rn_ldp [Value.int .i64 p.l, Value.int .i64 p.c] rfl (he20.op rfl) undZ rfl infoZ2 (hw'.at (i := 2) rfl) rfl) hH19 ?_
        intro a21 he21
        clear he20 a20
        by_cases hb3 : okP p
        · skip
          refine hC (fuel := 17) (i := 1) he21 (by kernel_rfl) rfl rfl rfl Tryd.func9 (by kernel_rfl) rfl rfl (wanted_plain rfl _) rfl (Valid_c p true (decide_eq_true hb3) w19) ?_
          rintro _ w22 ⟨rfl, hn⟩
          have hH22 := hH19.call hn
          refine ⟨_, rfl, hH22, ?_⟩
          intro a23 he23
          clear he21 a21 hH19 hn
          refine hC (fuel := 16) (i := 3) he23 (by kernel_rfl) rfl rfl rfl Tryd.func10 (by kernel_rfl) rfl rfl (wanted_plain rfl _) rfl (RValid_c p true (decide_eq_true hb3) w22) ?_
          rintro _ w24 ⟨rfl, hn⟩
          have hH24 := hH22.call hn
          refine ⟨_, rfl, hH24, ?_⟩
          intro a25 he25
          clear he23 a23 hH22 hn
          refine hV (fuel := 15) (i := 4) (Value.bool false) he25 rfl rfl rfl (by kernel_rfl) (by kernel_rfl) (by kernel_rfl) (fun _ _ _ h => h) (wanted_plain rfl _) (fun w' _ => rn_neB (i := true) (j := true) rfl (he25.op rfl) (he25.op rfl) rfl w') hH24 ?_
          intro a26 he26
          clear he25 a25
          refine hV (fuel := 14) (i := 5) (Value.bool false) he26 rfl rfl rfl (by kernel_rfl) (by kernel_rfl) (by kernel_rfl) (fun _ _ _ h => h) (wanted_plain rfl _) (fun w' _ => rn_mv rfl (he26.op rfl) w') hH24 ?_
          intro a27 he27
          clear he26 a26
          refine hV (fuel := 13) (i := 6) (Value.agg #[Value.int .i64 p.l, Value.int .i64 p.c]) he27 rfl rfl rfl (by kernel_rfl) (by kernel_rfl) (by kernel_rfl) (fun _ _ _ h => h) (he27.want rfl rfl rfl rfl rfl) (fun w' hw' => rn_ldp [Value.int .i64 p.l, Value.int .i64 p.c] rfl (he27.op rfl) undZ rfl infoZ2 (hw'.at (i := 2) rfl) rfl) hH24 ?_
          intro a28 he28
          clear he27 a27
          refine hV (fuel := 12) (i := 7) (Value.agg #[Value.int .i64 q.l, Value.int .i64 q.c]) he28 rfl rfl rfl (by kernel_rfl) (by kernel_rfl) (by kernel_rfl) (fun _ _ _ h => h) (he28.want rfl rfl rfl rfl rfl) (fun w' hw' => rn_ldp [Value.int .i64 q.l, Value.int .i64 q.c] rfl (he28.op rfl) undZ rfl infoZ2 (hw'.at (i := 1) rfl) rfl) hH24 ?_
          intro a29 he29
          clear he28 a28
          refine hV (fuel := 11) (i := 9) (Value.int .i64 0) he29 rfl rfl rfl (by kernel_rfl) (by kernel_rfl) (by kernel_rfl) (fun _ _ _ h => h) (he29.want rfl rfl rfl rfl rfl) (fun w' _ => rn_mv rfl (he29.op rfl) w') hH24 ?_
          intro a30 he30
          clear he29 a29
          refine hC (fuel := 10) (i := 8) he30 (by kernel_rfl) rfl rfl rfl Tryd.func11 (by kernel_rfl) rfl rfl (he30.want rfl rfl rfl rfl rfl) rfl (Compare_c p q w24) ?_
          rintro _ w31 ⟨rfl, hn⟩
          have hH31 := hH24.call hn
          refine ⟨_, rfl, hH31, ?_⟩
          intro a32 he32
          clear he30 a30 hH24 hn
          by_cases hb4 : (cmpP p q) = 0
          · skip
            refine hV (fuel := 9) (i := 10) (Value.bool false) he32 rfl rfl rfl (by kernel_rfl) (by kernel_rfl) (by kernel_rfl) (fun _ _ _ h => h) (he32.want rfl rfl rfl rfl rfl) (fun w' _ => rn_neI rfl (he32.op rfl) (he32.op rfl) (bneT hb4) w') hH31 ?_
            intro a33 he33
            clear he32 a32
            refine hV (fuel := 8) (i := 11) (Value.bool false) he33 rfl rfl rfl (by kernel_rfl) (by kernel_rfl) (by kernel_rfl) (fun _ _ _ h => h) (wanted_plain rfl _) (fun w' _ => rn_pk0 rfl (he33.op rfl) (he33.op rfl) w') hH31 ?_
            intro a34 he34
            clear he33 a33
            refine hV (fuel := 7) (i := 12) (Value.bool false) he34 rfl rfl rfl (by kernel_rfl) (by kernel_rfl) (by kernel_rfl) (fun _ _ _ h => h) (wanted_plain rfl _) (fun w' _ => rn_mv rfl (he34.op rfl) w') hH31 ?_
            intro a35 he35
            clear he34 a34
            refine hV (fuel := 6) (i := 13) (Value.agg #[Value.int .i64 q.l, Value.int .i64 q.c]) he35 rfl rfl rfl (by kernel_rfl) (by kernel_rfl) (by kernel_rfl) (fun _ _ _ h => h) (he35.want rfl rfl rfl rfl rfl) (fun w' hw' => rn_ldp [Value.int .i64 q.l, Value.int .i64 q.c] rfl (he35.op rfl) undZ rfl infoZ2 (hw'.at (i := 1) rfl) rfl) hH31 ?_
            intro a36 he36
            clear he35 a35
            refine hV (fuel := 5) (i := 14) (Value.agg #[Value.int .i64 p.l, Value.int .i64 p.c]) he36 rfl rfl rfl (by kernel_rfl) (by kernel_rfl) (by kernel_rfl) (fun _ _ _ h => h) (he36.want rfl rfl rfl rfl rfl) (fun w' hw' => rn_ldp [Value.int .i64 p.l, Value.int .i64 p.c] rfl (he36.op rfl) undZ rfl infoZ2 (hw'.at (i := 2) rfl) rfl) hH31 ?_
            intro a37 he37
            clear he36 a36
            refine hV (fuel := 4) (i := 16) (Value.int .i64 0) he37 rfl rfl rfl (by kernel_rfl) (by kernel_rfl) (by kernel_rfl) (fun _ _ _ h => h) (he37.want rfl rfl rfl rfl rfl) (fun w' _ => rn_mv rfl (he37.op rfl) w') hH31 ?_
            intro a38 he38
            clear he37 a37
            refine hV (fuel := 3) (i := 17) (Value.int .i64 (-0)) he38 rfl rfl rfl (by kernel_rfl) (by kernel_rfl) (by kernel_rfl) (fun _ _ _ h => h) (he38.want rfl rfl rfl rfl rfl) (fun w' _ => rn_negI rfl (he38.op rfl) (by rfl) w') hH31 ?_
            intro a39 he39
            clear he38 a38
            refine hC (fuel := 2) (i := 15) he39 (by kernel_rfl) rfl rfl rfl Tryd.func11 (by kernel_rfl) rfl rfl (he39.want rfl rfl rfl rfl rfl) rfl (Compare_c q p w31) ?_
            rintro _ w40 ⟨rfl, hn⟩
            have hH40 := hH31.call hn
            refine ⟨_, rfl, hH40, ?_⟩
            intro a41 he41
            clear he39 a39 hH31 hn
            by_cases hb5 : (cmpP q p) = (-0)
            · skip
              refine hV (fuel := 1) (i := 18) (Value.bool false) he41 rfl rfl rfl (by kernel_rfl) (by kernel_rfl) (by kernel_rfl) (fun _ _ _ h => h) (he41.want rfl rfl rfl rfl rfl) (fun w' _ => rn_neI rfl (he41.op rfl) (he41.op rfl) (bneT hb5) w') hH40 ?_
              intro a42 he42
              clear he41 a41
              refine hV (fuel := 0) (i := 19) (Value.bool false) he42 rfl rfl rfl (by kernel_rfl) (by kernel_rfl) (by kernel_rfl) (fun _ _ _ h => h) (wanted_plain rfl _) (fun w' _ => rn_pk0 rfl (he42.op rfl) (he42.op rfl) w') hH40 ?_
              intro a43 he43
              clear he42 a42
              refine wpAnyH_done (by kernel_rfl) ?_ _
              refine then_ok ?_
              refine wp_cond_false (he43.op rfl) ?_
              refine wp_skip ?_
              refine then_ok ?_
              exact ⟨he43.mem ⟨rfl, rfl, rfl, rfl, trivial⟩, hH40⟩
            · skip
              refine hV (fuel := 1) (i := 18) (Value.bool true) he41 rfl rfl rfl (by kernel_rfl) (by kernel_rfl) (by kernel_rfl) (fun _ _ _ h => h) (he41.want rfl rfl rfl rfl rfl) (fun w' _ => rn_neI rfl (he41.op rfl) (he41.op rfl) (bneF hb5) w') hH40 ?_
              intro a42 he42
              clear he41 a41
              refine hV (fuel := 0) (i := 19) (Value.bool true) he42 rfl rfl rfl (by kernel_rfl) (by kernel_rfl) (by kernel_rfl) (fun _ _ _ h => h) (wanted_plain rfl _) (fun w' _ => rn_pk0 rfl (he42.op rfl) (he42.op rfl) w') hH40 ?_
              intro a43 he43
              clear he42 a42
              refine wpAnyH_done (by kernel_rfl) ?_ _
              refine then_ok ?_
              refine wp_cond_true (he43.op rfl) ?_
              refine wp_seq ?_
              refine wp_region_lit ?_
              refine lV (Value.bool false) he43 rfl rfl (wanted_plain rfl _) (rn_asg rfl (he43.op rfl) w40) ?_
              intro a44 he44
              clear he43 a43
              refine wpList_nil ?_
              refine then_ok ?_
              refine wp_ret ?_
              try simp only [Exit.then, Exit.inBlock, Exit.noGoto]
              omega
          · skip
            refine hV (fuel := 9) (i := 10) (Value.bool true) he32 rfl rfl rfl (by kernel_rfl) (by kernel_rfl) (by kernel_rfl) (fun _ _ _ h => h) (he32.want rfl rfl rfl rfl rfl) (fun w' _ => rn_neI rfl (he32.op rfl) (he32.op rfl) (bneF hb4) w') hH31 ?_
            intro a33 he33
            clear he32 a32
            refine hV (fuel := 8) (i := 11) (Value.bool true) he33 rfl rfl rfl (by kernel_rfl) (by kernel_rfl) (by kernel_rfl) (fun _ _ _ h => h) (wanted_plain rfl _) (fun w' _ => rn_pk0 rfl (he33.op rfl) (he33.op rfl) w') hH31 ?_
            intro a34 he34
            clear he33 a33
            refine hV (fuel := 7) (i := 12) (Value.bool true) he34 rfl rfl rfl (by kernel_rfl) (by kernel_rfl) (by kernel_rfl) (fun _ _ _ h => h) (wanted_plain rfl _) (fun w' _ => rn_mv rfl (he34.op rfl) w') hH31 ?_
            intro a35 he35
            clear he34 a34
            refine hSkip (fuel := 6) (i := 13) he35 rfl rfl rfl (by kernel_rfl) (by kernel_rfl) (by kernel_rfl) (fun _ _ _ h => h) (he35.wantNot rfl rfl rfl rfl rfl rfl) hH31 ?_
            intro a36 he36
            clear he35 a35
            refine hSkip (fuel := 5) (i := 14) he36 rfl rfl rfl (by kernel_rfl) (by kernel_rfl) (by kernel_rfl) (fun _ _ _ h => h) (he36.wantNot rfl rfl rfl rfl rfl rfl) hH31 ?_
            intro a37 he37
            clear he36 a36
            refine hSkip (fuel := 4) (i := 15) he37 rfl rfl rfl (by kernel_rfl) (by kernel_rfl) (by kernel_rfl) (fun _ _ _ h => h) (he37.wantNot rfl rfl rfl rfl rfl rfl) hH31 ?_
            intro a38 he38
            clear he37 a37
            refine hSkip (fuel := 3) (i := 16) he38 rfl rfl rfl (by kernel_rfl) (by kernel_rfl) (by kernel_rfl) (fun _ _ _ h => h) (he38.wantNot rfl rfl rfl rfl rfl rfl) hH31 ?_
            intro a39 he39
            clear he38 a38
            refine hSkip (fuel := 2) (i := 17) he39 rfl rfl rfl (by kernel_rfl) (by kernel_rfl) (by kernel_rfl) (fun _ _ _ h => h) (he39.wantNot rfl rfl rfl rfl rfl rfl) hH31 ?_
            intro a40 he40
            clear he39 a39
            refine hSkip (fuel := 1) (i := 18) he40 rfl rfl rfl (by kernel_rfl) (by kernel_rfl) (by kernel_rfl) (fun _ _ _ h => h) (he40.wantNot rfl rfl rfl rfl rfl rfl) hH31 ?_
            intro a41 he41
            clear he40 a40
            refine hV (fuel := 0) (i := 19) (Value.bool true) he41 rfl rfl rfl (by kernel_rfl) (by kernel_rfl) (by kernel_rfl) (fun _ _ _ h => h) (wanted_plain rfl _) (fun w' _ => rn_pk rfl (he41.op rfl) (he41.op rfl) w') hH31 ?_
            intro a42 he42
            clear he41 a41
            refine wpAnyH_done (by kernel_rfl) ?_ _
            refine then_ok ?_
            refine wp_cond_true (he42.op rfl) ?_
            refine wp_seq ?_
            refine wp_region_lit ?_
            refine lV (Value.bool false) he42 rfl rfl (wanted_plain rfl _) (rn_asg rfl (he42.op rfl) w31) ?_
            intro a43 he43
            clear he42 a42
            refine wpList_nil ?_
            refine then_ok ?_
            refine wp_ret ?_
            try simp only [Exit.then, Exit.inBlock, Exit.noGoto]
            omega
        · skip
          refine hC (fuel := 17) (i := 1) he21 (by kernel_rfl) rfl rfl rfl Tryd.func9 (by kernel_rfl) rfl rfl (wanted_plain rfl _) rfl (Valid_c p false (decide_eq_false hb3) w19) ?_
          rintro _ w22 ⟨rfl, hn⟩
          have hH22 := hH19.call hn
          refine ⟨_, rfl, hH22, ?_⟩
          intro a23 he23
          clear he21 a21 hH19 hn
          refine hC (fuel := 16) (i := 3) he23 (by kernel_rfl) rfl rfl rfl Tryd.func10 (by kernel_rfl) rfl rfl (wanted_plain rfl _) rfl (RValid_c p false (decide_eq_false hb3) w22) ?_
          rintro _ w24 ⟨rfl, hn⟩
          have hH24 := hH22.call hn
          refine ⟨_, rfl, hH24, ?_⟩
          intro a25 he25
          clear he23 a23 hH22 hn
          refine hV (fuel := 15) (i := 4) (Value.bool false) he25 rfl rfl rfl (by kernel_rfl) (by kernel_rfl) (by kernel_rfl) (fun _ _ _ h => h) (wanted_plain rfl _) (fun w' _ => rn_neB (i := false) (j := false) rfl (he25.op rfl) (he25.op rfl) rfl w') hH24 ?_
          intro a26 he26
          clear he25 a25
          refine hV (fuel := 14) (i := 5) (Value.bool false) he26 rfl rfl rfl (by kernel_rfl) (by kernel_rfl) (by kernel_rfl) (fun _ _ _ h => h) (wanted_plain rfl _) (fun w' _ => rn_mv rfl (he26.op rfl) w') hH24 ?_
          intro a27 he27
          clear he26 a26
          refine hV (fuel := 13) (i := 6) (Value.agg #[Value.int .i64 p.l, Value.int .i64 p.c]) he27 rfl rfl rfl (by kernel_rfl) (by kernel_rfl) (by kernel_rfl) (fun _ _ _ h => h) (he27.want rfl rfl rfl rfl rfl) (fun w' hw' => rn_ldp [Value.int .i64 p.l, Value.int .i64 p.c] rfl (he27.op rfl) undZ rfl infoZ2 (hw'.at (i := 2) rfl) rfl) hH24 ?_
          intro a28 he28
          clear he27 a27
          refine hV (fuel := 12) (i := 7) (Value.agg #[Value.int .i64 q.l, Value.int .i64 q.c]) he28 rfl rfl rfl (by kernel_rfl) (by kernel_rfl) (by kernel_rfl) (fun _ _ _ h => h) (he28.want rfl rfl rfl rfl rfl) (fun w' hw' => rn_ldp [Value.int .i64 q.l, Value.int .i64 q.c] rfl (he28.op rfl) undZ rfl infoZ2 (hw'.at (i := 1) rfl) rfl) hH24 ?_
          intro a29 he29
          clear he28 a28
          refine hV (fuel := 11) (i := 9) (Value.int .i64 0) he29 rfl rfl rfl (by kernel_rfl) (by kernel_rfl) (by kernel_rfl) (fun _ _ _ h => h) (he29.want rfl rfl rfl rfl rfl) (fun w' _ => rn_mv rfl (he29.op rfl) w') hH24 ?_
          intro a30 he30
          clear he29 a29
          refine hC (fuel := 10) (i := 8) he30 (by kernel_rfl) rfl rfl rfl Tryd.func11 (by kernel_rfl) rfl rfl (he30.want rfl rfl rfl rfl rfl) rfl (Compare_c p q w24) ?_
          rintro _ w31 ⟨rfl, hn⟩
          have hH31 := hH24.call hn
          refine ⟨_, rfl, hH31, ?_⟩
          intro a32 he32
          clear he30 a30 hH24 hn
          by_cases hb4 : (cmpP p q) = 0
          · skip
            refine hV (fuel := 9) (i := 10) (Value.bool false) he32 rfl rfl rfl (by kernel_rfl) (by kernel_rfl) (by kernel_rfl) (fun _ _ _ h => h) (he32.want rfl rfl rfl rfl rfl) (fun w' _ => rn_neI rfl (he32.op rfl) (he32.op rfl) (bneT hb4) w') hH31 ?_
            intro a33 he33
            clear he32 a32
            refine hV (fuel := 8) (i := 11) (Value.bool false) he33 rfl rfl rfl (by kernel_rfl) (by kernel_rfl) (by kernel_rfl) (fun _ _ _ h => h) (wanted_plain rfl _) (fun w' _ => rn_pk0 rfl (he33.op rfl) (he33.op rfl) w') hH31 ?_
            intro a34 he34
            clear he33 a33
            refine hV (fuel := 7) (i := 12) (Value.bool false) he34 rfl rfl rfl (by kernel_rfl) (by kernel_rfl) (by kernel_rfl) (fun _ _ _ h => h) (wanted_plain rfl _) (fun w' _ => rn_mv rfl (he34.op rfl) w') hH31 ?_
            intro a35 he35
            clear he34 a34
            refine hV (fuel := 6) (i := 13) (Value.agg #[Value.int .i64 q.l, Value.int .i64 q.c]) he35 rfl rfl rfl (by kernel_rfl) (by kernel_rfl) (by kernel_rfl) (fun _ _ _ h => h) (he35.want rfl rfl rfl rfl rfl) (fun w' hw' => rn_ldp [Value.int .i64 q.l, Value.int .i64 q.c] rfl (he35.op rfl) undZ rfl infoZ2 (hw'.at (i := 1) rfl) rfl) hH31 ?_
            intro a36 he36
            clear he35 a35
            refine hV (fuel := 5) (i := 14) (Value.agg #[Value.int .i64 p.l, Value.int .i64 p.c]) he36 rfl rfl rfl (by kernel_rfl) (by kernel_rfl) (by kernel_rfl) (fun _ _ _ h => h) (he36.want rfl rfl rfl rfl rfl) (fun w' hw' => rn_ldp [Value.int .i64 p.l, Value.int .i64 p.c] rfl (he36.op rfl) undZ rfl infoZ2 (hw'.at (i := 2) rfl) rfl) hH31 ?_
            intro a37 he37
            clear he36 a36
            refine hV (fuel := 4) (i := 16) (Value.int .i64 0) he37 rfl rfl rfl (by kernel_rfl) (by kernel_rfl) (by kernel_rfl) (fun _ _ _ h => h) (he37.want rfl rfl rfl rfl rfl) (fun w' _ => rn_mv rfl (he37.op rfl) w') hH31 ?_
            intro a38 he38
            clear he37 a37
            refine hV (fuel := 3) (i := 17) (Value.int .i64 (-0)) he38 rfl rfl rfl (by kernel_rfl) (by kernel_rfl) (by kernel_rfl) (fun _ _ _ h => h) (he38.want rfl rfl rfl rfl rfl) (fun w' _ => rn_negI rfl (he38.op rfl) (by rfl) w') hH31 ?_
            intro a39 he39
            clear he38 a38
            refine hC (fuel := 2) (i := 15) he39 (by kernel_rfl) rfl rfl rfl Tryd.func11 (by kernel_rfl) rfl rfl (he39.want rfl rfl rfl rfl rfl) rfl (Compare_c q p w31) ?_
            rintro _ w40 ⟨rfl, hn⟩
            have hH40 := hH31.call hn
            refine ⟨_, rfl, hH40, ?_⟩
            intro a41 he41
            clear he39 a39 hH31 hn
            by_cases hb5 : (cmpP q p) = (-0)
            · skip
              refine hV (fuel := 1) (i := 18) (Value.bool false) he41 rfl rfl rfl (by kernel_rfl) (by kernel_rfl) (by kernel_rfl) (fun _ _ _ h => h) (he41.want rfl rfl rfl rfl rfl) (fun w' _ => rn_neI rfl (he41.op rfl) (he41.op rfl) (bneT hb5) w') hH40 ?_
              intro a42 he42
              clear he41 a41
              refine hV (fuel := 0) (i := 19) (Value.bool false) he42 rfl rfl rfl (by kernel_rfl) (by kernel_rfl) (by kernel_rfl) (fun _ _ _ h => h) (wanted_plain rfl _) (fun w' _ => rn_pk0 rfl (he42.op rfl) (he42.op rfl) w') hH40 ?_
              intro a43 he43
              clear he42 a42
              refine wpAnyH_done (by kernel_rfl) ?_ _
              refine then_ok ?_
              refine wp_cond_false (he43.op rfl) ?_
              refine wp_skip ?_
              refine then_ok ?_
              exact ⟨he43.mem ⟨rfl, rfl, rfl, rfl, trivial⟩, hH40⟩
            · skip
              refine hV (fuel := 1) (i := 18) (Value.bool true) he41 rfl rfl rfl (by kernel_rfl) (by kernel_rfl) (by kernel_rfl) (fun _ _ _ h => h) (he41.want rfl rfl rfl rfl rfl) (fun w' _ => rn_neI rfl (he41.op rfl) (he41.op rfl) (bneF hb5) w') hH40 ?_
              intro a42 he42
              clear he41 a41
              refine hV (fuel := 0) (i := 19) (Value.bool true) he42 rfl rfl rfl (by kernel_rfl) (by kernel_rfl) (by kernel_rfl) (fun _ _ _ h => h) (wanted_plain rfl _) (fun w' _ => rn_pk0 rfl (he42.op rfl) (he42.op rfl) w') hH40 ?_
              intro a43 he43
              clear he42 a42
              refine wpAnyH_done (by kernel_rfl) ?_ _
              refine then_ok ?_
              refine wp_cond_true (he43.op rfl) ?_
              refine wp_seq ?_
              refine wp_region_lit ?_
              refine lV (Value.bool false) he43 rfl rfl (wanted_plain rfl _) (rn_asg rfl (he43.op rfl) w40) ?_
              intro a44 he44
              clear he43 a43
              refine wpList_nil ?_
              refine then_ok ?_
              refine wp_ret ?_
              try simp only [Exit.then, Exit.inBlock, Exit.noGoto]
              omega
          · skip
            refine hV (fuel := 9) (i := 10) (Value.bool true) he32 rfl rfl rfl (by kernel_rfl) (by kernel_rfl) (by kernel_rfl) (fun _ _ _ h => h) (he32.want rfl rfl rfl rfl rfl) (fun w' _ => rn_neI rfl (he32.op rfl) (he32.op rfl) (bneF hb4) w') hH31 ?_
            intro a33 he33
            clear he32 a32
            refine hV (fuel := 8) (i := 11) (Value.bool true) he33 rfl rfl rfl (by kernel_rfl) (by kernel_rfl) (by kernel_rfl) (fun _ _ _ h => h) (wanted_plain rfl _) (fun w' _ => rn_pk0 rfl (he33.op rfl) (he33.op rfl) w') hH31 ?_
            intro a34 he34
            clear he33 a33
            refine hV (fuel := 7) (i := 12) (Value.bool true) he34 rfl rfl rfl (by kernel_rfl) (by kernel_rfl) (by kernel_rfl) (fun _ _ _ h => h) (wanted_plain rfl _) (fun w' _ => rn_mv rfl (he34.op rfl) w') hH31 ?_
            intro a35 he35
            clear he34 a34
            refine hSkip (fuel := 6) (i := 13) he35 rfl rfl rfl (by kernel_rfl) (by kernel_rfl) (by kernel_rfl) (fun _ _ _ h => h) (he35.wantNot rfl rfl rfl rfl rfl rfl) hH31 ?_
            intro a36 he36
            clear he35 a35
            refine hSkip (fuel := 5) (i := 14) he36 rfl rfl rfl (by kernel_rfl) (by kernel_rfl) (by kernel_rfl) (fun _ _ _ h => h) (he36.wantNot rfl rfl rfl rfl rfl rfl) hH31 ?_
            intro a37 he37
            clear he36 a36
            refine hSkip (fuel := 4) (i := 15) he37 rfl rfl rfl (by kernel_rfl) (by kernel_rfl) (by kernel_rfl) (fun _ _ _ h => h) (he37.wantNot rfl rfl rfl rfl rfl rfl) hH31 ?_
            intro a38 he38
            clear he37 a37
            refine hSkip (fuel := 3) (i := 16) he38 rfl rfl rfl (by kernel_rfl) (by kernel_rfl) (by kernel_rfl) (fun _ _ _ h => h) (he38.wantNot rfl rfl rfl rfl rfl rfl) hH31 ?_
            intro a39 he39
            clear he38 a38
            refine hSkip (fuel := 2) (i := 17) he39 rfl rfl rfl (by kernel_rfl) (by kernel_rfl) (by kernel_rfl) (fun _ _ _ h => h) (he39.wantNot rfl rfl rfl rfl rfl rfl) hH31 ?_
            intro a40 he40
            clear he39 a39
            refine hSkip (fuel := 1) (i := 18) he40 rfl rfl rfl (by kernel_rfl) (by kernel_rfl) (by kernel_rfl) (fun _ _ _ h => h) (he40.wantNot rfl rfl rfl rfl rfl rfl) hH31 ?_
            intro a41 he41
            clear he40 a40
            refine hV (fuel := 0) (i := 19) (Value.bool true) he41 rfl rfl rfl (by kernel_rfl) (by kernel_rfl) (by kernel_rfl) (fun _ _ _ h => h) (wanted_plain rfl _) (fun w' _ => rn_pk rfl (he41.op rfl) (he41.op rfl) w') hH31 ?_
            intro a42 he42
            clear he41 a41
            refine wpAnyH_done (by kernel_rfl) ?_ _
            refine then_ok ?_
            refine wp_cond_true (he42.op rfl) ?_
            refine wp_seq ?_
            refine wp_region_lit ?_
            refine lV (Value.bool false) he42 rfl rfl (wanted_plain rfl _) (rn_asg rfl (he42.op rfl) w31) ?_
            intro a43 he43
            clear he42 a42
            refine wpList_nil ?_
            refine then_ok ?_
            refine wp_ret ?_
            try simp only [Exit.then, Exit.inBlock, Exit.noGoto]
            omega
      · skip
        clear hH16 he18
        rintro a19 w19 ⟨he19, hH19⟩
        refine wp_seq ?_
        refine wp_region_lit ?_
        refine lV (Value.agg #[Value.int .i64 p.l, Value.int .i64 p.c]) he19 rfl rfl (wanted_plain rfl _) (rn_ldp [Value.int .i64 p.l, Value.int .i64 p.c] rfl (he19.op rfl) undZ rfl infoZ2 (hH19.at (i := 2) rfl) rfl) ?_
        intro a20 he20
        clear he19 a19
        refine lV (Value.agg #[Value.int .i64 q.l, Value.int .i64 q.c]) he20 rfl rfl (wanted_plain rfl _) (rn_ldp [Value.int .i64 q.l, Value.int .i64 q.c] rfl (he20.op rfl) undZ rfl infoZ2 (hH19.at (i := 1) rfl) rfl) ?_
        intro a21 he21
        clear he20 a20
        refine lC he21 rfl rfl Tryd.func12 (by kernel_rfl) rfl rfl (wanted_plain rfl _) rfl (Order_c p q p q (if_neg (by omega)) w19) ?_
        intro w22 a23 hn he23
        have hH22 := hH19.call hn
        clear he21 a21 hH19 hn
        refine lV (Value.tuple #[Value.agg #[Value.int .i64 p.l, Value.int .i64 p.c], Value.agg #[Value.int .i64 q.l, Value.int .i64 q.c]]) he23 rfl rfl (wanted_plain rfl _) (rn_mv rfl (he23.op rfl) w22) ?_
        intro a24 he24
        clear he23 a23
        refine lV (Value.agg #[Value.int .i64 p.l, Value.int .i64 p.c]) he24 rfl rfl (wanted_plain rfl _) (rn_ext rfl (he24.op rfl) rfl w22) ?_
        intro a25 he25
        clear he24 a24
        refine lV (Value.agg #[Value.int .i64 q.l, Value.int .i64 q.c]) he25 rfl rfl (wanted_plain rfl _) (rn_ext rfl (he25.op rfl) rfl w22) ?_
        intro a26 he26
        clear he25 a25
        refine lNewP (fun p => .pointer (some ⟨p, 0, none⟩)) he26 hH22 rfl rfl (wanted_plain rfl _) (rn_allocZ rfl w22) ?_
        intro p27 w27 a28 hp hn hH27 he28
        clear he26 a26 hH22 hn hp
        refine lNewP (fun p => .pointer (some ⟨p, 0, none⟩)) he28 hH27 rfl rfl (wanted_plain rfl _) (rn_allocZ rfl w27) ?_
        intro p29 w29 a30 hp hn hH29 he30
        clear he28 a28 hH27 hn hp
        refine lSetF 1 #[Value.int .i64 p.l, Value.int .i64 p.c] (cs := #[Value.int .i64 p.l, Value.int .i64 p.c]) he30 hH29 rfl (wanted_plain rfl _) rfl rfl rfl rfl rfl (by kernel_rfl) (by kernel_rfl) (by kernel_rfl) rfl ?_
        intro w31 a32 hH31 hf he32
        replace hH31 : Hp w [⟨p29, 23, #[Value.int .i64 0, Value.int .i64 0]⟩, ⟨p27, 23, #[Value.int .i64 p.l, Value.int .i64 p.c]⟩, ⟨p5, 23, #[Value.int .i64 r.l, Value.int .i64 r.c]⟩, ⟨p3, 23, #[Value.int .i64 q.l, Value.int .i64 q.c]⟩, ⟨p1, 23, #[Value.int .i64 p.l, Value.int .i64 p.c]⟩] w31 := hH31
        clear hf
        clear he30 a30 hH29
        refine lSetF 0 #[Value.int .i64 q.l, Value.int .i64 q.c] (cs := #[Value.int .i64 q.l, Value.int .i64 q.c]) he32 hH31 rfl (wanted_plain rfl _) rfl rfl rfl rfl rfl (by kernel_rfl) (by kernel_rfl) (by kernel_rfl) rfl ?_
        intro w33 a34 hH33 hf he34
        replace hH33 : Hp w [⟨p29, 23, #[Value.int .i64 q.l, Value.int .i64 q.c]⟩, ⟨p27, 23, #[Value.int .i64 p.l, Value.int .i64 p.c]⟩, ⟨p5, 23, #[Value.int .i64 r.l, Value.int .i64 r.c]⟩, ⟨p3, 23, #[Value.int .i64 q.l, Value.int .i64 q.c]⟩, ⟨p1, 23, #[Value.int .i64 p.l, Value.int .i64 p.c]⟩] w33 := hH33
        clear hf
        clear he32 a32 hH31
        refine wpList_nil ?_
        refine then_ok ?_
        refine wp_seq ?_
        refine reg_cut (fun a w' => Env 87 [(5, Value.pointer (some ⟨p5, 0, none⟩)), (4, Value.pointer (some ⟨p3, 0, none⟩)), (3, Value.pointer (some ⟨p1, 0, none⟩))] a ∧ Hp w [⟨p29, 23, #[Value.int .i64 q.l, Value.int .i64 q.c]⟩, ⟨p27, 23, #[Value.int .i64 p.l, Value.int .i64 p.c]⟩, ⟨p5, 23, #[Value.int .i64 r.l, Value.int .i64 r.c]⟩, ⟨p3, 23, #[Value.int .i64 q.l, Value.int .i64 q.c]⟩, ⟨p1, 23, #[Value.int .i64 p.l, Value.int .i64 p.c]⟩] w') ?_ ?_
        · skip
          refine wp_seq ?_
          refine wp_region_lit ?_
          refine lV (Value.int .i64 0) he34 rfl rfl (wanted_plain rfl _) (rn_mv rfl (he34.op rfl) w33) ?_
          intro a35 he35
          clear he34 a34
          refine lV (Value.bool false) he35 rfl rfl (wanted_plain rfl _) (rn_gtI rfl (he35.op rfl) (he35.op rfl) (by decide) w33) ?_
          intro a36 he36
          clear he35 a35
          refine lV (Value.bool false) he36 rfl rfl (wanted_plain rfl _) (rn_mv rfl (he36.op rfl) w33) ?_
          intro a37 he37
          clear he36 a36
          refine lSkip he37 rfl rfl (he37.wantNot rfl rfl rfl rfl rfl rfl) ?_
          intro a38 he38
          clear he37 a37
          refine lSkip he38 rfl rfl (he38.wantNot rfl rfl rfl rfl rfl rfl) ?_
          intro a39 he39
          clear he38 a38
          refine lSkip he39 rfl rfl (he39.wantNot rfl rfl rfl rfl rfl rfl) ?_
          intro a40 he40
          clear he39 a39
          refine lSkip he40 rfl rfl (he40.wantNot rfl rfl rfl rfl rfl rfl) ?_
          intro a41 he41
          clear he40 a40
          refine lSkip he41 rfl rfl (he41.wantU rfl rfl rfl rfl rfl) ?_
          intro a42 he42
          clear he41 a41
          refine lSkip he42 rfl rfl (he42.wantU rfl rfl rfl rfl rfl) ?_
          intro a43 he43
          clear he42 a42
          refine lSkip he43 rfl rfl (he43.wantU rfl rfl rfl rfl rfl) ?_
          intro a44 he44
          clear he43 a43
          refine lSkip he44 rfl rfl (he44.wantNot rfl rfl rfl rfl rfl rfl) ?_
          intro a45 he45
          clear he44 a44
          refine lV (Value.bool false) he45 rfl rfl (wanted_plain rfl _) (rn_pk0 rfl (he45.op rfl) (he45.op rfl) w33) ?_
          intro a46 he46
          clear he45 a45
          refine lV (Value.bool false) he46 rfl rfl (wanted_plain rfl _) (rn_mv rfl (he46.op rfl) w33) ?_
          intro a47 he47
          clear he46 a46
          refine lV (Value.int .i64 0) he47 rfl rfl (he47.want rfl rfl rfl rfl rfl) (rn_mv rfl (he47.op rfl) w33) ?_
          intro a48 he48
          clear he47 a47
          refine lV (Value.bool true) he48 rfl rfl (he48.want rfl rfl rfl rfl rfl) (rn_leI rfl (he48.op rfl) (he48.op rfl) (by decide) w33) ?_
          intro a49 he49
          clear he48 a48
          refine lV (Value.bool true) he49 rfl rfl (he49.want rfl rfl rfl rfl rfl) (rn_mv rfl (he49.op rfl) w33) ?_
          intro a50 he50
          clear he49 a49
          refine lV (Value.agg #[Value.int .i64 p.l, Value.int .i64 p.c]) he50 rfl rfl (he50.want rfl rfl rfl rfl rfl) (rn_ldp [Value.int .i64 p.l, Value.int .i64 p.c] rfl (he50.op rfl) undZ rfl infoZ2 (hH33.at (i := 1) rfl) rfl) ?_
          intro a51 he51
          clear he50 a50
          refine lV (Value.agg #[Value.int .i64 p.l, Value.int .i64 p.c]) he51 rfl rfl (he51.want rfl rfl rfl rfl rfl) (rn_ldp [Value.int .i64 p.l, Value.int .i64 p.c] rfl (he51.op rfl) undZ rfl infoZ2 (hH33.at (i := 4) rfl) rfl) ?_
          intro a52 he52
          clear he51 a51
          refine lV (Value.bool false) he52 rfl rfl (he52.want rfl rfl rfl rfl rfl) (rn_neZ (p := p) (q := p) rfl (he52.op rfl) (he52.op rfl) (ndT (pl_eq.2 (pl_eq.1 rfl))) w33) ?_
          intro a53 he53
          clear he52 a52
          refine lV (Value.bool false) he53 rfl rfl (he53.want rfl rfl rfl rfl rfl) (rn_mv rfl (he53.op rfl) w33) ?_
          intro a54 he54
          clear he53 a53
          refine lV (Value.agg #[Value.int .i64 q.l, Value.int .i64 q.c]) he54 rfl rfl (he54.want rfl rfl rfl rfl rfl) (rn_ldp [Value.int .i64 q.l, Value.int .i64 q.c] rfl (he54.op rfl) undZ rfl infoZ2 (hH33.at (i := 0) rfl) rfl) ?_
          intro a55 he55
          clear he54 a54
          refine lV (Value.agg #[Value.int .i64 q.l, Value.int .i64 q.c]) he55 rfl rfl (he55.want rfl rfl rfl rfl rfl) (rn_ldp [Value.int .i64 q.l, Value.int .i64 q.c] rfl (he55.op rfl) undZ rfl infoZ2 (hH33.at (i := 3) rfl) rfl) ?_
          intro a56 he56
          clear he55 a55
          refine lV (Value.bool false) he56 rfl rfl (he56.want rfl rfl rfl rfl rfl) (rn_neZ (p := q) (q := q) rfl (he56.op rfl) (he56.op rfl) (ndT (pl_eq.2 (pl_eq.1 rfl))) w33) ?_
          intro a57 he57
          clear he56 a56
          refine lV (Value.bool false) he57 rfl rfl (he57.want rfl rfl rfl rfl rfl) (rn_pk0 rfl (he57.op rfl) (he57.op rfl) w33) ?_
          intro a58 he58
          clear he57 a57
          refine lV (Value.bool false) he58 rfl rfl (he58.want rfl rfl rfl rfl rfl) (rn_pk rfl (he58.op rfl) (he58.op rfl) w33) ?_
          intro a59 he59
          clear he58 a58
          refine lV (Value.bool false) he59 rfl rfl (wanted_plain rfl _) (rn_pk0 rfl (he59.op rfl) (he59.op rfl) w33) ?_
          intro a60 he60
          clear he59 a59
          refine wpList_nil ?_
          refine then_ok ?_
          refine wp_cond_false (he60.op rfl) ?_
          refine wp_skip ?_
          refine then_ok ?_
          exact ⟨he60.mem ⟨rfl, rfl, rfl, trivial⟩, hH33⟩
        · skip
          clear hH33 he34
          rintro a35 w35 ⟨he35, hH35⟩
          refine wp_seq ?_
          refine wp_region_held_drew (S := Hp w [⟨p29, 23, #[Value.int .i64 q.l, Value.int .i64 q.c]⟩, ⟨p27, 23, #[Value.int .i64 p.l, Value.int .i64 p.c]⟩, ⟨p5, 23, #[Value.int .i64 r.l, Value.int .i64 r.c]⟩, ⟨p3, 23, #[Value.int .i64 q.l, Value.int .i64 q.c]⟩, ⟨p1, 23, #[Value.int .i64 p.l, Value.int .i64 p.c]⟩]) (by kernel_rfl) (hH35.drew) (fun _ => ?_)
          have hn : New w35 (World.drew w35) := (Fr.refl _ _).drew
          clear hn
          have hH36 := hH35.drew
          clear hH35
          generalize World.drew w35 = w36 at *
          refine hV (fuel := 17) (i := 0) (Value.agg #[Value.int .i64 p.l, Value.int .i64 p.c]) he35 rfl rfl rfl (by kernel_rfl) (by kernel_rfl) (by kernel_rfl) (fun _ _ _ h => h) (wanted_plain rfl _) (fun w' hw' => rn_ldp [Value.int .i64 p.l, Value.int .i64 p.c] rfl (he35.op rfl) undZ rfl infoZ2 (hw'.at (i := 4) rfl) rfl) hH36 ?_
          intro a37 he37
          clear he35 a35
          refine hV (fuel := 16) (i := 1) (Value.agg #[Value.int .i64 q.l, Value.int .i64 q.c]) he37 rfl rfl rfl (by kernel_rfl) (by kernel_rfl) (by kernel_rfl) (fun _ _ _ h => h) (wanted_plain rfl _) (fun w' hw' => rn_ldp [Value.int .i64 q.l, Value.int .i64 q.c] rfl (he37.op rfl) undZ rfl infoZ2 (hw'.at (i := 3) rfl) rfl) hH36 ?_
          intro a38 he38
          clear he37 a37
          refine hV (fuel := 15) (i := 2) (Value.agg #[Value.int .i64 r.l, Value.int .i64 r.c]) he38 rfl rfl rfl (by kernel_rfl) (by kernel_rfl) (by kernel_rfl) (fun _ _ _ h => h) (wanted_plain rfl _) (fun w' hw' => rn_ldp [Value.int .i64 r.l, Value.int .i64 r.c] rfl (he38.op rfl) undZ rfl infoZ2 (hw'.at (i := 2) rfl) rfl) hH36 ?_
          intro a39 he39
          clear he38 a38
          refine hV (fuel := 14) (i := 4) (Value.agg #[Value.int .i64 p.l, Value.int .i64 p.c]) he39 rfl rfl rfl (by kernel_rfl) (by kernel_rfl) (by kernel_rfl) (fun _ _ _ h => h) (wanted_plain rfl _) (fun w' hw' => rn_ldp [Value.int .i64 p.l, Value.int .i64 p.c] rfl (he39.op rfl) undZ rfl infoZ2 (hw'.at (i := 4) rfl) rfl) hH36 ?_
          intro a40 he40
          clear he39 a39
          refine hV (fuel := 13) (i := 5) (Value.agg #[Value.int .i64 q.l, Value.int .i64 q.c]) he40 rfl rfl rfl (by kernel_rfl) (by kernel_rfl) (by kernel_rfl) (fun _ _ _ h => h) (wanted_plain rfl _) (fun w' hw' => rn_ldp [Value.int .i64 q.l, Value.int .i64 q.c] rfl (he40.op rfl) undZ rfl infoZ2 (hw'.at (i := 3) rfl) rfl) hH36 ?_
          intro a41 he41
          clear he40 a40
          by_cases hb4 : witP p q r
          · skip
            refine hC (fuel := 12) (i := 3) he41 (by kernel_rfl) rfl rfl rfl Tryd.func13 (by kernel_rfl) rfl rfl (wanted_plain rfl _) rfl (Within_c p q r true (decide_eq_true hb4) w36) ?_
            rintro _ w42 ⟨rfl, hn⟩
            have hH42 := hH36.call hn
            refine ⟨_, rfl, hH42, ?_⟩
            intro a43 he43
            clear he41 a41 hH36 hn
            refine hC (fuel := 11) (i := 6) he43 (by kernel_rfl) rfl rfl rfl Tryd.func8 (by kernel_rfl) rfl rfl (wanted_plain rfl _) rfl (RBefore_c p q false (decide_eq_false hb0) w42) ?_
            rintro _ w44 ⟨rfl, hn⟩
            have hH44 := hH42.call hn
            refine ⟨_, rfl, hH44, ?_⟩
            intro a45 he45
            clear he43 a43 hH42 hn
            refine hV (fuel := 10) (i := 7) (Value.bool true) he45 rfl rfl rfl (by kernel_rfl) (by kernel_rfl) (by kernel_rfl) (fun _ _ _ h => h) (wanted_plain rfl _) (fun w' _ => rn_not (b := false) rfl (he45.op rfl) w') hH44 ?_
            intro a46 he46
            clear he45 a45
            refine hV (fuel := 9) (i := 8) (Value.bool true) he46 rfl rfl rfl (by kernel_rfl) (by kernel_rfl) (by kernel_rfl) (fun _ _ _ h => h) (wanted_plain rfl _) (fun w' _ => rn_mv rfl (he46.op rfl) w') hH44 ?_
            intro a47 he47
            clear he46 a46
            refine hV (fuel := 8) (i := 9) (Value.agg #[Value.int .i64 p.l, Value.int .i64 p.c]) he47 rfl rfl rfl (by kernel_rfl) (by kernel_rfl) (by kernel_rfl) (fun _ _ _ h => h) (he47.want rfl rfl rfl rfl rfl) (fun w' hw' => rn_ldp [Value.int .i64 p.l, Value.int .i64 p.c] rfl (he47.op rfl) undZ rfl infoZ2 (hw'.at (i := 4) rfl) rfl) hH44 ?_
            intro a48 he48
            clear he47 a47
            refine hV (fuel := 7) (i := 10) (Value.agg #[Value.int .i64 r.l, Value.int .i64 r.c]) he48 rfl rfl rfl (by kernel_rfl) (by kernel_rfl) (by kernel_rfl) (fun _ _ _ h => h) (he48.want rfl rfl rfl rfl rfl) (fun w' hw' => rn_ldp [Value.int .i64 r.l, Value.int .i64 r.c] rfl (he48.op rfl) undZ rfl infoZ2 (hw'.at (i := 2) rfl) rfl) hH44 ?_
            intro a49 he49
            clear he48 a48
            by_cases hb5 : befP p r
            · skip
              refine hC (fuel := 6) (i := 11) he49 (by kernel_rfl) rfl rfl rfl Tryd.func8 (by kernel_rfl) rfl rfl (he49.want rfl rfl rfl rfl rfl) rfl (RBefore_c p r true (decide_eq_true hb5) w44) ?_
              rintro _ w50 ⟨rfl, hn⟩
              have hH50 := hH44.call hn
              refine ⟨_, rfl, hH50, ?_⟩
              intro a51 he51
              clear he49 a49 hH44 hn
              refine hV (fuel := 5) (i := 12) (Value.bool true) he51 rfl rfl rfl (by kernel_rfl) (by kernel_rfl) (by kernel_rfl) (fun _ _ _ h => h) (wanted_plain rfl _) (fun w' _ => rn_pk rfl (he51.op rfl) (he51.op rfl) w') hH50 ?_
              intro a52 he52
              clear he51 a51
              refine hV (fuel := 4) (i := 13) (Value.bool true) he52 rfl rfl rfl (by kernel_rfl) (by kernel_rfl) (by kernel_rfl) (fun _ _ _ h => h) (wanted_plain rfl _) (fun w' _ => rn_eqB (i := true) (j := true) rfl (he52.op rfl) (he52.op rfl) rfl w') hH50 ?_
              intro a53 he53
              clear he52 a52
              refine hV (fuel := 3) (i := 14) (Value.bool true) he53 rfl rfl rfl (by kernel_rfl) (by kernel_rfl) (by kernel_rfl) (fun _ _ _ h => h) (wanted_plain rfl _) (fun w' _ => rn_mv rfl (he53.op rfl) w') hH50 ?_
              intro a54 he54
              clear he53 a53
              refine hC (fuel := 2) (i := 15) he54 (by kernel_rfl) rfl rfl rfl Tryd.func14 (by kernel_rfl) rfl rfl (he54.want rfl rfl rfl rfl rfl) rfl (known_c w50 (hT.new hH50.new)) ?_
              rintro _ w55 ⟨rfl, hn⟩
              have hH55 := hH50.call hn
              refine ⟨_, rfl, hH55, ?_⟩
              intro a56 he56
              clear he54 a54 hH50 hn
              refine hV (fuel := 1) (i := 16) (Value.bool true) he56 rfl rfl rfl (by kernel_rfl) (by kernel_rfl) (by kernel_rfl) (fun _ _ _ h => h) (wanted_plain rfl _) (fun w' _ => rn_pk rfl (he56.op rfl) (he56.op rfl) w') hH55 ?_
              intro a57 he57
              clear he56 a56
              refine hV (fuel := 0) (i := 17) (Value.bool true) he57 rfl rfl rfl (by kernel_rfl) (by kernel_rfl) (by kernel_rfl) (fun _ _ _ h => h) (wanted_plain rfl _) (fun w' _ => rn_asg rfl (he57.op rfl) w') hH55 ?_
              intro a58 he58
              clear he57 a57
              refine wpAnyH_done (by kernel_rfl) ?_ _
              refine then_ok ?_
              refine wp_ret ?_
              try simp only [Exit.then, Exit.inBlock, Exit.noGoto]
              exact ret_env rfl he58 rfl ⟨by first | rfl | (exfalso; omega), hH55.new⟩
            · skip
              refine hC (fuel := 6) (i := 11) he49 (by kernel_rfl) rfl rfl rfl Tryd.func8 (by kernel_rfl) rfl rfl (he49.want rfl rfl rfl rfl rfl) rfl (RBefore_c p r false (decide_eq_false hb5) w44) ?_
              rintro _ w50 ⟨rfl, hn⟩
              have hH50 := hH44.call hn
              refine ⟨_, rfl, hH50, ?_⟩
              intro a51 he51
              clear he49 a49 hH44 hn
              refine hV (fuel := 5) (i := 12) (Value.bool false) he51 rfl rfl rfl (by kernel_rfl) (by kernel_rfl) (by kernel_rfl) (fun _ _ _ h => h) (wanted_plain rfl _) (fun w' _ => rn_pk rfl (he51.op rfl) (he51.op rfl) w') hH50 ?_
              intro a52 he52
              clear he51 a51
              refine hV (fuel := 4) (i := 13) (Value.bool false) he52 rfl rfl rfl (by kernel_rfl) (by kernel_rfl) (by kernel_rfl) (fun _ _ _ h => h) (wanted_plain rfl _) (fun w' _ => rn_eqB (i := true) (j := false) rfl (he52.op rfl) (he52.op rfl) rfl w') hH50 ?_
              intro a53 he53
              clear he52 a52
              refine hV (fuel := 3) (i := 14) (Value.bool false) he53 rfl rfl rfl (by kernel_rfl) (by kernel_rfl) (by kernel_rfl) (fun _ _ _ h => h) (wanted_plain rfl _) (fun w' _ => rn_mv rfl (he53.op rfl) w') hH50 ?_
              intro a54 he54
              clear he53 a53
              refine hSkip (fuel := 2) (i := 15) he54 rfl rfl rfl (by kernel_rfl) (by kernel_rfl) (by kernel_rfl) (fun _ _ _ h => h) (he54.wantNot rfl rfl rfl rfl rfl rfl) hH50 ?_
              intro a55 he55
              clear he54 a54
              refine hV (fuel := 1) (i := 16) (Value.bool false) he55 rfl rfl rfl (by kernel_rfl) (by kernel_rfl) (by kernel_rfl) (fun _ _ _ h => h) (wanted_plain rfl _) (fun w' _ => rn_pk0 rfl (he55.op rfl) (he55.op rfl) w') hH50 ?_
              intro a56 he56
              clear he55 a55
              refine hV (fuel := 0) (i := 17) (Value.bool false) he56 rfl rfl rfl (by kernel_rfl) (by kernel_rfl) (by kernel_rfl) (fun _ _ _ h => h) (wanted_plain rfl _) (fun w' _ => rn_asg rfl (he56.op rfl) w') hH50 ?_
              intro a57 he57
              clear he56 a56
              refine wpAnyH_done (by kernel_rfl) ?_ _
              refine then_ok ?_
              refine wp_ret ?_
              try simp only [Exit.then, Exit.inBlock, Exit.noGoto]
              exact ret_env rfl he57 rfl ⟨by first | rfl | (exfalso; omega), hH50.new⟩
          · skip
            refine hC (fuel := 12) (i := 3) he41 (by kernel_rfl) rfl rfl rfl Tryd.func13 (by kernel_rfl) rfl rfl (wanted_plain rfl _) rfl (Within_c p q r false (decide_eq_false hb4) w36) ?_
            rintro _ w42 ⟨rfl, hn⟩
            have hH42 := hH36.call hn
            refine ⟨_, rfl, hH42, ?_⟩
            intro a43 he43
            clear he41 a41 hH36 hn
            refine hC (fuel := 11) (i := 6) he43 (by kernel_rfl) rfl rfl rfl Tryd.func8 (by kernel_rfl) rfl rfl (wanted_plain rfl _) rfl (RBefore_c p q false (decide_eq_false hb0) w42) ?_
            rintro _ w44 ⟨rfl, hn⟩
            have hH44 := hH42.call hn
            refine ⟨_, rfl, hH44, ?_⟩
            intro a45 he45
            clear he43 a43 hH42 hn
            refine hV (fuel := 10) (i := 7) (Value.bool true) he45 rfl rfl rfl (by kernel_rfl) (by kernel_rfl) (by kernel_rfl) (fun _ _ _ h => h) (wanted_plain rfl _) (fun w' _ => rn_not (b := false) rfl (he45.op rfl) w') hH44 ?_
            intro a46 he46
            clear he45 a45
            refine hV (fuel := 9) (i := 8) (Value.bool true) he46 rfl rfl rfl (by kernel_rfl) (by kernel_rfl) (by kernel_rfl) (fun _ _ _ h => h) (wanted_plain rfl _) (fun w' _ => rn_mv rfl (he46.op rfl) w') hH44 ?_
            intro a47 he47
            clear he46 a46
            refine hV (fuel := 8) (i := 9) (Value.agg #[Value.int .i64 p.l, Value.int .i64 p.c]) he47 rfl rfl rfl (by kernel_rfl) (by kernel_rfl) (by kernel_rfl) (fun _ _ _ h => h) (he47.want rfl rfl rfl rfl rfl) (fun w' hw' => rn_ldp [Value.int .i64 p.l, Value.int .i64 p.c] rfl (he47.op rfl) undZ rfl infoZ2 (hw'.at (i := 4) rfl) rfl) hH44 ?_
            intro a48 he48
            clear he47 a47
            refine hV (fuel := 7) (i := 10) (Value.agg #[Value.int .i64 r.l, Value.int .i64 r.c]) he48 rfl rfl rfl (by kernel_rfl) (by kernel_rfl) (by kernel_rfl) (fun _ _ _ h => h) (he48.want rfl rfl rfl rfl rfl) (fun w' hw' => rn_ldp [Value.int .i64 r.l, Value.int .i64 r.c] rfl (he48.op rfl) undZ rfl infoZ2 (hw'.at (i := 2) rfl) rfl) hH44 ?_
            intro a49 he49
            clear he48 a48
            by_cases hb5 : befP p r
            · skip
              refine hC (fuel := 6) (i := 11) he49 (by kernel_rfl) rfl rfl rfl Tryd.func8 (by kernel_rfl) rfl rfl (he49.want rfl rfl rfl rfl rfl) rfl (RBefore_c p r true (decide_eq_true hb5) w44) ?_
              rintro _ w50 ⟨rfl, hn⟩
              have hH50 := hH44.call hn
              refine ⟨_, rfl, hH50, ?_⟩
              intro a51 he51
              clear he49 a49 hH44 hn
              refine hV (fuel := 5) (i := 12) (Value.bool true) he51 rfl rfl rfl (by kernel_rfl) (by kernel_rfl) (by kernel_rfl) (fun _ _ _ h => h) (wanted_plain rfl _) (fun w' _ => rn_pk rfl (he51.op rfl) (he51.op rfl) w') hH50 ?_
              intro a52 he52
              clear he51 a51
              refine hV (fuel := 4) (i := 13) (Value.bool false) he52 rfl rfl rfl (by kernel_rfl) (by kernel_rfl) (by kernel_rfl) (fun _ _ _ h => h) (wanted_plain rfl _) (fun w' _ => rn_eqB (i := false) (j := true) rfl (he52.op rfl) (he52.op rfl) rfl w') hH50 ?_
              intro a53 he53
              clear he52 a52
              refine hV (fuel := 3) (i := 14) (Value.bool false) he53 rfl rfl rfl (by kernel_rfl) (by kernel_rfl) (by kernel_rfl) (fun _ _ _ h => h) (wanted_plain rfl _) (fun w' _ => rn_mv rfl (he53.op rfl) w') hH50 ?_
              intro a54 he54
              clear he53 a53
              refine hSkip (fuel := 2) (i := 15) he54 rfl rfl rfl (by kernel_rfl) (by kernel_rfl) (by kernel_rfl) (fun _ _ _ h => h) (he54.wantNot rfl rfl rfl rfl rfl rfl) hH50 ?_
              intro a55 he55
              clear he54 a54
              refine hV (fuel := 1) (i := 16) (Value.bool false) he55 rfl rfl rfl (by kernel_rfl) (by kernel_rfl) (by kernel_rfl) (fun _ _ _ h => h) (wanted_plain rfl _) (fun w' _ => rn_pk0 rfl (he55.op rfl) (he55.op rfl) w') hH50 ?_
              intro a56 he56
              clear he55 a55
              refine hV (fuel := 0) (i := 17) (Value.bool false) he56 rfl rfl rfl (by kernel_rfl) (by kernel_rfl) (by kernel_rfl) (fun _ _ _ h => h) (wanted_plain rfl _) (fun w' _ => rn_asg rfl (he56.op rfl) w') hH50 ?_
              intro a57 he57
              clear he56 a56
              refine wpAnyH_done (by kernel_rfl) ?_ _
              refine then_ok ?_
              refine wp_ret ?_
              try simp only [Exit.then, Exit.inBlock, Exit.noGoto]
              exact ret_env rfl he57 rfl ⟨by first | rfl | (exfalso; omega), hH50.new⟩
            · skip
              refine hC (fuel := 6) (i := 11) he49 (by kernel_rfl) rfl rfl rfl Tryd.func8 (by kernel_rfl) rfl rfl (he49.want rfl rfl rfl rfl rfl) rfl (RBefore_c p r false (decide_eq_false hb5) w44) ?_
              rintro _ w50 ⟨rfl, hn⟩
              have hH50 := hH44.call hn
              refine ⟨_, rfl, hH50, ?_⟩
              intro a51 he51
              clear he49 a49 hH44 hn
              refine hV (fuel := 5) (i := 12) (Value.bool false) he51 rfl rfl rfl (by kernel_rfl) (by kernel_rfl) (by kernel_rfl) (fun _ _ _ h => h) (wanted_plain rfl _) (fun w' _ => rn_pk rfl (he51.op rfl) (he51.op rfl) w') hH50 ?_
              intro a52 he52
              clear he51 a51
              refine hV (fuel := 4) (i := 13) (Value.bool true) he52 rfl rfl rfl (by kernel_rfl) (by kernel_rfl) (by kernel_rfl) (fun _ _ _ h => h) (wanted_plain rfl _) (fun w' _ => rn_eqB (i := false) (j := false) rfl (he52.op rfl) (he52.op rfl) rfl w') hH50 ?_
              intro a53 he53
              clear he52 a52
              refine hV (fuel := 3) (i := 14) (Value.bool true) he53 rfl rfl rfl (by kernel_rfl) (by kernel_rfl) (by kernel_rfl) (fun _ _ _ h => h) (wanted_plain rfl _) (fun w' _ => rn_mv rfl (he53.op rfl) w') hH50 ?_
              intro a54 he54
              clear he53 a53
              refine hC (fuel := 2) (i := 15) he54 (by kernel_rfl) rfl rfl rfl Tryd.func14 (by kernel_rfl) rfl rfl (he54.want rfl rfl rfl rfl rfl) rfl (known_c w50 (hT.new hH50.new)) ?_
              rintro _ w55 ⟨rfl, hn⟩
              have hH55 := hH50.call hn
              refine ⟨_, rfl, hH55, ?_⟩
              intro a56 he56
              clear he54 a54 hH50 hn
              refine hV (fuel := 1) (i := 16) (Value.bool true) he56 rfl rfl rfl (by kernel_rfl) (by kernel_rfl) (by kernel_rfl) (fun _ _ _ h => h) (wanted_plain rfl _) (fun w' _ => rn_pk rfl (he56.op rfl) (he56.op rfl) w') hH55 ?_
              intro a57 he57
              clear he56 a56
              refine hV (fuel := 0) (i := 17) (Value.bool true) he57 rfl rfl rfl (by kernel_rfl) (by kernel_rfl) (by kernel_rfl) (fun _ _ _ h => h) (wanted_plain rfl _) (fun w' _ => rn_asg rfl (he57.op rfl) w') hH55 ?_
              intro a58 he58
              clear he57 a57
              refine wpAnyH_done (by kernel_rfl) ?_ _
              refine then_ok ?_
              refine wp_ret ?_
              try simp only [Exit.then, Exit.inBlock, Exit.noGoto]
              exact ret_env rfl he58 rfl ⟨by first | rfl | (exfalso; omega), hH55.new⟩
set_option linter.unusedSimpArgs false in
set_option maxRecDepth 100000 in
set_option maxHeartbeats 1600000 in
theorem PlaceClamps_w (p : Pl) (f n c : Int) (w : World) (hT : Tab w) : Calls Tryd.prog 4 #[.agg #[.int .i64 p.l, .int .i64 p.c], .int .i64 f, .int .i64 n, .int .i64 c] w fun e w' => e = .returned (.bool true) ∧ New w w' := by
  refine calls_args (vl := [Value.agg #[Value.int .i64 p.l, Value.int .i64 p.c], Value.int .i64 f, Value.int .i64 n, Value.int .i64 c]) 29 Tryd.func4 rfl Tryd.ntmps4 (by kernel_rfl) (fun a he => ?_)
  have he0 : Env 29 [(0, Value.agg #[Value.int .i64 p.l, Value.int .i64 p.c]), (1, Value.int .i64 f), (2, Value.int .i64 n), (3, Value.int .i64 c)] a := he
  clear he
  have hH := Hp.start w
  refine wp_seq ?_
  refine wp_region_lit ?_
  refine lNewP (fun p => .pointer (some ⟨p, 0, none⟩)) he0 hH rfl rfl (wanted_plain rfl _) (rn_boxZ rfl (he0.op rfl) w) ?_
  intro p1 w1 a2 hp hn hH1 he2
  clear he0 a hH hn hp
  refine lV (Value.bool false) he2 rfl rfl (wanted_plain rfl _) (rn_asg rfl (he2.op rfl) w1) ?_
  intro a3 he3
  clear he2 a2
  refine wpList_nil ?_
  refine then_ok ?_
  refine wp_seq ?_
  refine wp_region_lit ?_
  refine lV (Value.agg #[Value.int .i64 p.l, Value.int .i64 p.c]) he3 rfl rfl (wanted_plain rfl _) (rn_ldp [Value.int .i64 p.l, Value.int .i64 p.c] rfl (he3.op rfl) undZ rfl infoZ2 (hH1.at (i := 0) rfl) rfl) ?_
  intro a4 he4
  clear he3 a3
  refine lV (Value.int .i64 f) he4 rfl rfl (wanted_plain rfl _) (rn_mv rfl (he4.op rfl) w1) ?_
  intro a5 he5
  clear he4 a4
  refine lV (Value.int .i64 n) he5 rfl rfl (wanted_plain rfl _) (rn_mv rfl (he5.op rfl) w1) ?_
  intro a6 he6
  clear he5 a5
  refine lV (Value.int .i64 c) he6 rfl rfl (wanted_plain rfl _) (rn_mv rfl (he6.op rfl) w1) ?_
  intro a7 he7
  clear he6 a6
  refine lC he7 rfl rfl Tryd.func15 (by kernel_rfl) rfl rfl (wanted_plain rfl _) rfl (RClamp_c p f n c (clampP p f n c).1 (clampP p f n c).2 rfl w1) ?_
  intro w8 a9 hn he9
  have hH8 := hH1.call hn
  clear he7 a7 hH1 hn
  refine lV (Value.tuple #[Value.agg #[Value.int .i64 (clampP p f n c).1.l, Value.int .i64 (clampP p f n c).1.c], Value.int .i64 (clampP p f n c).2]) he9 rfl rfl (wanted_plain rfl _) (rn_mv rfl (he9.op rfl) w8) ?_
  intro a10 he10
  clear he9 a9
  refine lV (Value.agg #[Value.int .i64 (clampP p f n c).1.l, Value.int .i64 (clampP p f n c).1.c]) he10 rfl rfl (wanted_plain rfl _) (rn_ext rfl (he10.op rfl) rfl w8) ?_
  intro a11 he11
  clear he10 a10
  refine lV (Value.int .i64 (clampP p f n c).2) he11 rfl rfl (wanted_plain rfl _) (rn_ext rfl (he11.op rfl) rfl w8) ?_
  intro a12 he12
  clear he11 a11
  refine lNewP (fun p => .pointer (some ⟨p, 0, none⟩)) he12 hH8 rfl rfl (wanted_plain rfl _) (rn_allocZ rfl w8) ?_
  intro p13 w13 a14 hp hn hH13 he14
  clear he12 a12 hH8 hn hp
  refine lSetF 0 #[Value.int .i64 (clampP p f n c).1.l, Value.int .i64 (clampP p f n c).1.c] (cs := #[Value.int .i64 (clampP p f n c).1.l, Value.int .i64 (clampP p f n c).1.c]) he14 hH13 rfl (wanted_plain rfl _) rfl rfl rfl rfl rfl (by kernel_rfl) (by kernel_rfl) (by kernel_rfl) rfl ?_
  intro w15 a16 hH15 hf he16
  replace hH15 : Hp w [⟨p13, 23, #[Value.int .i64 (clampP p f n c).1.l, Value.int .i64 (clampP p f n c).1.c]⟩, ⟨p1, 23, #[Value.int .i64 p.l, Value.int .i64 p.c]⟩] w15 := hH15
  clear hf
  clear he14 a14 hH13
  refine lV (Value.int .i64 (clampP p f n c).2) he16 rfl rfl (wanted_plain rfl _) (rn_asg rfl (he16.op rfl) w15) ?_
  intro a17 he17
  clear he16 a16
  refine wpList_nil ?_
  refine then_ok ?_
  refine wp_seq ?_
  refine wp_region_lit ?_
  refine lV (Value.agg #[Value.int .i64 p.l, Value.int .i64 p.c]) he17 rfl rfl (wanted_plain rfl _) (rn_ldp [Value.int .i64 p.l, Value.int .i64 p.c] rfl (he17.op rfl) undZ rfl infoZ2 (hH15.at (i := 1) rfl) rfl) ?_
  intro a18 he18
  clear he17 a17
  refine lV (Value.int .i64 f) he18 rfl rfl (wanted_plain rfl _) (rn_mv rfl (he18.op rfl) w15) ?_
  intro a19 he19
  clear he18 a18
  refine lV (Value.int .i64 n) he19 rfl rfl (wanted_plain rfl _) (rn_mv rfl (he19.op rfl) w15) ?_
  intro a20 he20
  clear he19 a19
  refine lV (Value.int .i64 c) he20 rfl rfl (wanted_plain rfl _) (rn_mv rfl (he20.op rfl) w15) ?_
  intro a21 he21
  clear he20 a20
  refine lV (Value.agg #[Value.int .i64 (clampP p f n c).1.l, Value.int .i64 (clampP p f n c).1.c]) he21 rfl rfl (wanted_plain rfl _) (rn_ldp [Value.int .i64 (clampP p f n c).1.l, Value.int .i64 (clampP p f n c).1.c] rfl (he21.op rfl) undZ rfl infoZ2 (hH15.at (i := 0) rfl) rfl) ?_
  intro a22 he22
  clear he21 a21
  refine lV (Value.int .i64 (clampP p f n c).2) he22 rfl rfl (wanted_plain rfl _) (rn_mv rfl (he22.op rfl) w15) ?_
  intro a23 he23
  clear he22 a22
  refine lC he23 rfl rfl Tryd.func16 (by kernel_rfl) rfl rfl (wanted_plain rfl _) rfl (clamps_c p f n c (clampP p f n c).1 (clampP p f n c).2 true (decide_eq_true rfl) w15) ?_
  intro w24 a25 hn he25
  have hH24 := hH15.call hn
  clear he23 a23 hH15 hn
  refine lV (Value.bool true) he25 rfl rfl (wanted_plain rfl _) (rn_mv rfl (he25.op rfl) w24) ?_
  intro a26 he26
  clear he25 a25
  refine lC he26 rfl rfl Tryd.func14 (by kernel_rfl) rfl rfl (he26.want rfl rfl rfl rfl rfl) rfl (known_c w24 (hT.new hH24.new)) ?_
  intro w27 a28 hn he28
  have hH27 := hH24.call hn
  clear he26 a26 hH24 hn
  refine lV (Value.bool true) he28 rfl rfl (wanted_plain rfl _) (rn_pk rfl (he28.op rfl) (he28.op rfl) w27) ?_
  intro a29 he29
  clear he28 a28
  refine lV (Value.bool true) he29 rfl rfl (wanted_plain rfl _) (rn_asg rfl (he29.op rfl) w27) ?_
  intro a30 he30
  clear he29 a29
  refine wpList_nil ?_
  refine then_ok ?_
  refine wp_ret ?_
  try simp only [Exit.then, Exit.inBlock, Exit.noGoto]
  exact ret_env rfl he30 rfl ⟨by first | rfl | (exfalso; omega), hH27.new⟩
set_option linter.unusedSimpArgs false in
set_option maxRecDepth 100000 in
set_option maxHeartbeats 1600000 in
theorem PlaceSteps_w (p q : Pl) (n c : Int) (hn : I64 n) (w : World) (hT : Tab w) : Calls Tryd.prog 5 #[.agg #[.int .i64 p.l, .int .i64 p.c], .agg #[.int .i64 q.l, .int .i64 q.c], .int .i64 n, .int .i64 c] w fun e w' => e = .returned (.bool true) ∧ New w w' := by
  refine calls_args (vl := [Value.agg #[Value.int .i64 p.l, Value.int .i64 p.c], Value.agg #[Value.int .i64 q.l, Value.int .i64 q.c], Value.int .i64 n, Value.int .i64 c]) 73 Tryd.func5 rfl Tryd.ntmps5 (by kernel_rfl) (fun a he => ?_)
  have he0 : Env 73 [(0, Value.agg #[Value.int .i64 p.l, Value.int .i64 p.c]), (1, Value.agg #[Value.int .i64 q.l, Value.int .i64 q.c]), (2, Value.int .i64 n), (3, Value.int .i64 c)] a := he
  clear he
  have hH := Hp.start w
  refine wp_seq ?_
  refine wp_region_lit ?_
  refine lNewP (fun p => .pointer (some ⟨p, 0, none⟩)) he0 hH rfl rfl (wanted_plain rfl _) (rn_boxZ rfl (he0.op rfl) w) ?_
  intro p1 w1 a2 hp hn hH1 he2
  clear he0 a hH hn hp
  refine lNewP (fun p => .pointer (some ⟨p, 0, none⟩)) he2 hH1 rfl rfl (wanted_plain rfl _) (rn_boxZ rfl (he2.op rfl) w1) ?_
  intro p3 w3 a4 hp hn hH3 he4
  clear he2 a2 hH1 hn hp
  refine lV (Value.bool false) he4 rfl rfl (wanted_plain rfl _) (rn_asg rfl (he4.op rfl) w3) ?_
  intro a5 he5
  clear he4 a4
  refine wpList_nil ?_
  refine then_ok ?_
  refine wp_seq ?_
  refine wp_region_lit ?_
  refine lV (Value.agg #[Value.int .i64 p.l, Value.int .i64 p.c]) he5 rfl rfl (wanted_plain rfl _) (rn_ldp [Value.int .i64 p.l, Value.int .i64 p.c] rfl (he5.op rfl) undZ rfl infoZ2 (hH3.at (i := 1) rfl) rfl) ?_
  intro a6 he6
  clear he5 a5
  refine lV (Value.int .i64 n) he6 rfl rfl (wanted_plain rfl _) (rn_mv rfl (he6.op rfl) w3) ?_
  intro a7 he7
  clear he6 a6
  refine lV (Value.int .i64 c) he7 rfl rfl (wanted_plain rfl _) (rn_mv rfl (he7.op rfl) w3) ?_
  intro a8 he8
  clear he7 a7
  refine lC he8 rfl rfl Tryd.func17 (by kernel_rfl) rfl rfl (wanted_plain rfl _) rfl (RStep_c p n c hn (stepP p n c).1 (stepP p n c).2 rfl w3) ?_
  intro w9 a10 hn he10
  have hH9 := hH3.call hn
  clear he8 a8 hH3 hn
  refine lV (Value.tuple #[Value.agg #[Value.int .i64 (stepP p n c).1.l, Value.int .i64 (stepP p n c).1.c], Value.int .i64 (stepP p n c).2]) he10 rfl rfl (wanted_plain rfl _) (rn_mv rfl (he10.op rfl) w9) ?_
  intro a11 he11
  clear he10 a10
  refine lV (Value.agg #[Value.int .i64 (stepP p n c).1.l, Value.int .i64 (stepP p n c).1.c]) he11 rfl rfl (wanted_plain rfl _) (rn_ext rfl (he11.op rfl) rfl w9) ?_
  intro a12 he12
  clear he11 a11
  refine lV (Value.int .i64 (stepP p n c).2) he12 rfl rfl (wanted_plain rfl _) (rn_ext rfl (he12.op rfl) rfl w9) ?_
  intro a13 he13
  clear he12 a12
  refine lNewP (fun p => .pointer (some ⟨p, 0, none⟩)) he13 hH9 rfl rfl (wanted_plain rfl _) (rn_allocZ rfl w9) ?_
  intro p14 w14 a15 hp hn hH14 he15
  clear he13 a13 hH9 hn hp
  refine lSetF 0 #[Value.int .i64 (stepP p n c).1.l, Value.int .i64 (stepP p n c).1.c] (cs := #[Value.int .i64 (stepP p n c).1.l, Value.int .i64 (stepP p n c).1.c]) he15 hH14 rfl (wanted_plain rfl _) rfl rfl rfl rfl rfl (by kernel_rfl) (by kernel_rfl) (by kernel_rfl) rfl ?_
  intro w16 a17 hH16 hf he17
  replace hH16 : Hp w [⟨p14, 23, #[Value.int .i64 (stepP p n c).1.l, Value.int .i64 (stepP p n c).1.c]⟩, ⟨p3, 23, #[Value.int .i64 q.l, Value.int .i64 q.c]⟩, ⟨p1, 23, #[Value.int .i64 p.l, Value.int .i64 p.c]⟩] w16 := hH16
  clear hf
  clear he15 a15 hH14
  refine lV (Value.int .i64 (stepP p n c).2) he17 rfl rfl (wanted_plain rfl _) (rn_asg rfl (he17.op rfl) w16) ?_
  intro a18 he18
  clear he17 a17
  refine wpList_nil ?_
  refine then_ok ?_
  refine wp_seq ?_
  refine wp_seq ?_
  refine wp_region_lit ?_
  refine lV (Value.agg #[Value.int .i64 p.l, Value.int .i64 p.c]) he18 rfl rfl (wanted_plain rfl _) (rn_ldp [Value.int .i64 p.l, Value.int .i64 p.c] rfl (he18.op rfl) undZ rfl infoZ2 (hH16.at (i := 2) rfl) rfl) ?_
  intro a19 he19
  clear he18 a18
  refine lV (Value.int .i64 n) he19 rfl rfl (wanted_plain rfl _) (rn_mv rfl (he19.op rfl) w16) ?_
  intro a20 he20
  clear he19 a19
  refine lV (Value.int .i64 c) he20 rfl rfl (wanted_plain rfl _) (rn_mv rfl (he20.op rfl) w16) ?_
  intro a21 he21
  clear he20 a20
  refine lV (Value.agg #[Value.int .i64 (stepP p n c).1.l, Value.int .i64 (stepP p n c).1.c]) he21 rfl rfl (wanted_plain rfl _) (rn_ldp [Value.int .i64 (stepP p n c).1.l, Value.int .i64 (stepP p n c).1.c] rfl (he21.op rfl) undZ rfl infoZ2 (hH16.at (i := 0) rfl) rfl) ?_
  intro a22 he22
  clear he21 a21
  refine lV (Value.int .i64 (stepP p n c).2) he22 rfl rfl (wanted_plain rfl _) (rn_mv rfl (he22.op rfl) w16) ?_
  intro a23 he23
  clear he22 a22
  refine lC he23 rfl rfl Tryd.func18 (by kernel_rfl) rfl rfl (wanted_plain rfl _) rfl (steps_c p n c hn (stepP p n c).1 (stepP p n c).2 true (decide_eq_true rfl) w16) ?_
  intro w24 a25 hn he25
  have hH24 := hH16.call hn
  clear he23 a23 hH16 hn
  refine lV (Value.bool false) he25 rfl rfl (wanted_plain rfl _) (rn_not (b := true) rfl (he25.op rfl) w24) ?_
  intro a26 he26
  clear he25 a25
  refine wpList_nil ?_
  refine then_ok ?_
  refine wp_cond_false (he26.op rfl) ?_
  refine wp_skip ?_
  refine then_ok ?_
  refine wp_seq ?_
  refine wp_seq ?_
  refine wp_region_lit ?_
  refine lV (Value.agg #[Value.int .i64 p.l, Value.int .i64 p.c]) he26 rfl rfl (wanted_plain rfl _) (rn_ldp [Value.int .i64 p.l, Value.int .i64 p.c] rfl (he26.op rfl) undZ rfl infoZ2 (hH24.at (i := 2) rfl) rfl) ?_
  intro a27 he27
  clear he26 a26
  refine lV (Value.int .i64 c) he27 rfl rfl (wanted_plain rfl _) (rn_mv rfl (he27.op rfl) w24) ?_
  intro a28 he28
  clear he27 a27
  by_cases hb0 : colP c ∧ inP p c
  · skip
    refine lC he28 rfl rfl Tryd.func19 (by kernel_rfl) rfl rfl (wanted_plain rfl _) rfl (RIn_c p c true (decide_eq_true hb0) w24) ?_
    intro w29 a30 hn he30
    have hH29 := hH24.call hn
    clear he28 a28 hH24 hn
    refine lV (Value.bool false) he30 rfl rfl (wanted_plain rfl _) (rn_not (b := true) rfl (he30.op rfl) w29) ?_
    intro a31 he31
    clear he30 a30
    refine lV (Value.bool false) he31 rfl rfl (wanted_plain rfl _) (rn_mv rfl (he31.op rfl) w29) ?_
    intro a32 he32
    clear he31 a31
    refine lV (Value.agg #[Value.int .i64 q.l, Value.int .i64 q.c]) he32 rfl rfl (he32.want rfl rfl rfl rfl rfl) (rn_ldp [Value.int .i64 q.l, Value.int .i64 q.c] rfl (he32.op rfl) undZ rfl infoZ2 (hH29.at (i := 1) rfl) rfl) ?_
    intro a33 he33
    clear he32 a32
    refine lV (Value.int .i64 c) he33 rfl rfl (he33.want rfl rfl rfl rfl rfl) (rn_mv rfl (he33.op rfl) w29) ?_
    intro a34 he34
    clear he33 a33
    by_cases hb1 : colP c ∧ inP q c
    · skip
      refine lC he34 rfl rfl Tryd.func19 (by kernel_rfl) rfl rfl (he34.want rfl rfl rfl rfl rfl) rfl (RIn_c q c true (decide_eq_true hb1) w29) ?_
      intro w35 a36 hn he36
      have hH35 := hH29.call hn
      clear he34 a34 hH29 hn
      refine lV (Value.bool false) he36 rfl rfl (he36.want rfl rfl rfl rfl rfl) (rn_not (b := true) rfl (he36.op rfl) w35) ?_
      intro a37 he37
      clear he36 a36
      refine lV (Value.bool false) he37 rfl rfl (wanted_plain rfl _) (rn_pk0 rfl (he37.op rfl) (he37.op rfl) w35) ?_
      intro a38 he38
      clear he37 a37
      refine wpList_nil ?_
      refine then_ok ?_
      refine wp_cond_false (he38.op rfl) ?_
      refine wp_skip ?_
      refine then_ok ?_
      refine wp_seq ?_
      refine wp_region_lit ?_
      refine lV (Value.agg #[Value.int .i64 p.l, Value.int .i64 p.c]) he38 rfl rfl (wanted_plain rfl _) (rn_ldp [Value.int .i64 p.l, Value.int .i64 p.c] rfl (he38.op rfl) undZ rfl infoZ2 (hH35.at (i := 2) rfl) rfl) ?_
      intro a39 he39
      clear he38 a38
      refine lV (Value.agg #[Value.int .i64 q.l, Value.int .i64 q.c]) he39 rfl rfl (wanted_plain rfl _) (rn_ldp [Value.int .i64 q.l, Value.int .i64 q.c] rfl (he39.op rfl) undZ rfl infoZ2 (hH35.at (i := 1) rfl) rfl) ?_
      intro a40 he40
      clear he39 a39
      refine lV (Value.int .i64 c) he40 rfl rfl (wanted_plain rfl _) (rn_mv rfl (he40.op rfl) w35) ?_
      intro a41 he41
      clear he40 a40
      refine lC he41 rfl rfl Tryd.func21 (by kernel_rfl) rfl rfl (wanted_plain rfl _) rfl (Distance_c p q c ((q.l * c + q.c) - (p.l * c + p.c)) 0 (if_pos (by omega)) w35) ?_
      intro w42 a43 hn he43
      have hH42 := hH35.call hn
      clear he41 a41 hH35 hn
      refine lV (Value.tuple #[Value.int .i64 ((q.l * c + q.c) - (p.l * c + p.c)), Value.int .i64 0]) he43 rfl rfl (wanted_plain rfl _) (rn_mv rfl (he43.op rfl) w42) ?_
      intro a44 he44
      clear he43 a43
      refine lV (Value.int .i64 ((q.l * c + q.c) - (p.l * c + p.c))) he44 rfl rfl (wanted_plain rfl _) (rn_ext rfl (he44.op rfl) rfl w42) ?_
      intro a45 he45
      clear he44 a44
      refine lV (Value.int .i64 0) he45 rfl rfl (wanted_plain rfl _) (rn_ext rfl (he45.op rfl) rfl w42) ?_
      intro a46 he46
      clear he45 a45
      refine lV (Value.int .i64 ((q.l * c + q.c) - (p.l * c + p.c))) he46 rfl rfl (wanted_plain rfl _) (rn_asg rfl (he46.op rfl) w42) ?_
      intro a47 he47
      clear he46 a46
      refine lV (Value.int .i64 0) he47 rfl rfl (wanted_plain rfl _) (rn_asg rfl (he47.op rfl) w42) ?_
      intro a48 he48
      clear he47 a47
      refine wpList_nil ?_
      refine then_ok ?_
      refine wp_seq ?_
      refine wp_region_lit ?_
      refine lV (Value.agg #[Value.int .i64 p.l, Value.int .i64 p.c]) he48 rfl rfl (wanted_plain rfl _) (rn_ldp [Value.int .i64 p.l, Value.int .i64 p.c] rfl (he48.op rfl) undZ rfl infoZ2 (hH42.at (i := 2) rfl) rfl) ?_
      intro a49 he49
      clear he48 a48
      refine lV (Value.int .i64 ((q.l * c + q.c) - (p.l * c + p.c))) he49 rfl rfl (wanted_plain rfl _) (rn_mv rfl (he49.op rfl) w42) ?_
      intro a50 he50
      clear he49 a49
      refine lV (Value.int .i64 c) he50 rfl rfl (wanted_plain rfl _) (rn_mv rfl (he50.op rfl) w42) ?_
      intro a51 he51
      clear he50 a50
      refine lC he51 rfl rfl Tryd.func17 (by kernel_rfl) rfl rfl (wanted_plain rfl _) rfl (RStep_c p ((q.l * c + q.c) - (p.l * c + p.c)) c (dist_I64 (by omega) (by omega) (by omega)) q 0 (step_dist (by omega) (by omega) (by omega)) w42) ?_
      intro w52 a53 hn he53
      have hH52 := hH42.call hn
      clear he51 a51 hH42 hn
      refine lV (Value.tuple #[Value.agg #[Value.int .i64 q.l, Value.int .i64 q.c], Value.int .i64 0]) he53 rfl rfl (wanted_plain rfl _) (rn_mv rfl (he53.op rfl) w52) ?_
      intro a54 he54
      clear he53 a53
      refine lV (Value.agg #[Value.int .i64 q.l, Value.int .i64 q.c]) he54 rfl rfl (wanted_plain rfl _) (rn_ext rfl (he54.op rfl) rfl w52) ?_
      intro a55 he55
      clear he54 a54
      refine lV (Value.int .i64 0) he55 rfl rfl (wanted_plain rfl _) (rn_ext rfl (he55.op rfl) rfl w52) ?_
      intro a56 he56
      clear he55 a55
      refine lNewP (fun p => .pointer (some ⟨p, 0, none⟩)) he56 hH52 rfl rfl (wanted_plain rfl _) (rn_allocZ rfl w52) ?_
      intro p57 w57 a58 hp hn hH57 he58
      clear he56 a56 hH52 hn hp
      refine lSetF 0 #[Value.int .i64 q.l, Value.int .i64 q.c] (cs := #[Value.int .i64 q.l, Value.int .i64 q.c]) he58 hH57 rfl (wanted_plain rfl _) rfl rfl rfl rfl rfl (by kernel_rfl) (by kernel_rfl) (by kernel_rfl) rfl ?_
      intro w59 a60 hH59 hf he60
      replace hH59 : Hp w [⟨p57, 23, #[Value.int .i64 q.l, Value.int .i64 q.c]⟩, ⟨p14, 23, #[Value.int .i64 (stepP p n c).1.l, Value.int .i64 (stepP p n c).1.c]⟩, ⟨p3, 23, #[Value.int .i64 q.l, Value.int .i64 q.c]⟩, ⟨p1, 23, #[Value.int .i64 p.l, Value.int .i64 p.c]⟩] w59 := hH59
      clear hf
      clear he58 a58 hH57
      refine lV (Value.int .i64 0) he60 rfl rfl (wanted_plain rfl _) (rn_asg rfl (he60.op rfl) w59) ?_
      intro a61 he61
      clear he60 a60
      refine wpList_nil ?_
      refine then_ok ?_
      refine wp_seq ?_
      refine wp_region_lit ?_
      refine lV (Value.int .i64 0) he61 rfl rfl (wanted_plain rfl _) (rn_mv rfl (he61.op rfl) w59) ?_
      intro a62 he62
      clear he61 a61
      refine lV (Value.bool true) he62 rfl rfl (wanted_plain rfl _) (rn_eqE rfl (he62.op rfl) (he62.op rfl) (by decide) w59) ?_
      intro a63 he63
      clear he62 a62
      refine lV (Value.bool true) he63 rfl rfl (wanted_plain rfl _) (rn_mv rfl (he63.op rfl) w59) ?_
      intro a64 he64
      clear he63 a63
      refine lV (Value.int .i64 0) he64 rfl rfl (he64.want rfl rfl rfl rfl rfl) (rn_mv rfl (he64.op rfl) w59) ?_
      intro a65 he65
      clear he64 a64
      refine lV (Value.bool true) he65 rfl rfl (he65.want rfl rfl rfl rfl rfl) (rn_eqI rfl (he65.op rfl) (he65.op rfl) (by decide) w59) ?_
      intro a66 he66
      clear he65 a65
      refine lV (Value.bool true) he66 rfl rfl (wanted_plain rfl _) (rn_pk rfl (he66.op rfl) (he66.op rfl) w59) ?_
      intro a67 he67
      clear he66 a66
      refine lV (Value.bool true) he67 rfl rfl (wanted_plain rfl _) (rn_mv rfl (he67.op rfl) w59) ?_
      intro a68 he68
      clear he67 a67
      refine lV (Value.agg #[Value.int .i64 q.l, Value.int .i64 q.c]) he68 rfl rfl (he68.want rfl rfl rfl rfl rfl) (rn_ldp [Value.int .i64 q.l, Value.int .i64 q.c] rfl (he68.op rfl) undZ rfl infoZ2 (hH59.at (i := 0) rfl) rfl) ?_
      intro a69 he69
      clear he68 a68
      refine lV (Value.agg #[Value.int .i64 q.l, Value.int .i64 q.c]) he69 rfl rfl (he69.want rfl rfl rfl rfl rfl) (rn_ldp [Value.int .i64 q.l, Value.int .i64 q.c] rfl (he69.op rfl) undZ rfl infoZ2 (hH59.at (i := 2) rfl) rfl) ?_
      intro a70 he70
      clear he69 a69
      refine lV (Value.bool true) he70 rfl rfl (he70.want rfl rfl rfl rfl rfl) (rn_eqZ (p := q) (q := q) rfl (he70.op rfl) (he70.op rfl) (decide_eq_true (pl_eq.2 (pl_eq.1 rfl))) w59) ?_
      intro a71 he71
      clear he70 a70
      refine lV (Value.bool true) he71 rfl rfl (wanted_plain rfl _) (rn_pk rfl (he71.op rfl) (he71.op rfl) w59) ?_
      intro a72 he72
      clear he71 a71
      refine lV (Value.bool true) he72 rfl rfl (wanted_plain rfl _) (rn_mv rfl (he72.op rfl) w59) ?_
      intro a73 he73
      clear he72 a72
      refine lC he73 rfl rfl Tryd.func14 (by kernel_rfl) rfl rfl (he73.want rfl rfl rfl rfl rfl) rfl (known_c w59 (hT.new hH59.new)) ?_
      intro w74 a75 hn he75
      have hH74 := hH59.call hn
      clear he73 a73 hH59 hn
      refine lV (Value.bool true) he75 rfl rfl (wanted_plain rfl _) (rn_pk rfl (he75.op rfl) (he75.op rfl) w74) ?_
      intro a76 he76
      clear he75 a75
      refine lV (Value.bool true) he76 rfl rfl (wanted_plain rfl _) (rn_asg rfl (he76.op rfl) w74) ?_
      intro a77 he77
      clear he76 a76
      refine wpList_nil ?_
      refine then_ok ?_
      refine wp_ret ?_
      try simp only [Exit.then, Exit.inBlock, Exit.noGoto]
      exact ret_env rfl he77 rfl ⟨by first | rfl | (exfalso; omega), hH74.new⟩
    · skip
      refine lC he34 rfl rfl Tryd.func19 (by kernel_rfl) rfl rfl (he34.want rfl rfl rfl rfl rfl) rfl (RIn_c q c false (decide_eq_false hb1) w29) ?_
      intro w35 a36 hn he36
      have hH35 := hH29.call hn
      clear he34 a34 hH29 hn
      refine lV (Value.bool true) he36 rfl rfl (he36.want rfl rfl rfl rfl rfl) (rn_not (b := false) rfl (he36.op rfl) w35) ?_
      intro a37 he37
      clear he36 a36
      refine lV (Value.bool true) he37 rfl rfl (wanted_plain rfl _) (rn_pk0 rfl (he37.op rfl) (he37.op rfl) w35) ?_
      intro a38 he38
      clear he37 a37
      refine wpList_nil ?_
      refine then_ok ?_
      refine wp_cond_true (he38.op rfl) ?_
      refine wp_seq ?_
      refine wp_region_lit ?_
      refine lV (Value.agg #[Value.int .i64 p.l, Value.int .i64 p.c]) he38 rfl rfl (wanted_plain rfl _) (rn_ldp [Value.int .i64 p.l, Value.int .i64 p.c] rfl (he38.op rfl) undZ rfl infoZ2 (hH35.at (i := 2) rfl) rfl) ?_
      intro a39 he39
      clear he38 a38
      refine lV (Value.agg #[Value.int .i64 q.l, Value.int .i64 q.c]) he39 rfl rfl (wanted_plain rfl _) (rn_ldp [Value.int .i64 q.l, Value.int .i64 q.c] rfl (he39.op rfl) undZ rfl infoZ2 (hH35.at (i := 1) rfl) rfl) ?_
      intro a40 he40
      clear he39 a39
      refine lV (Value.int .i64 c) he40 rfl rfl (wanted_plain rfl _) (rn_mv rfl (he40.op rfl) w35) ?_
      intro a41 he41
      clear he40 a40
      refine lC he41 rfl rfl Tryd.func20 (by kernel_rfl) rfl rfl (wanted_plain rfl _) rfl (distance_c p q c 0 2 true (decide_eq_true (if_neg (by omega))) w35) ?_
      intro w42 a43 hn he43
      have hH42 := hH35.call hn
      clear he41 a41 hH35 hn
      refine lV (Value.bool true) he43 rfl rfl (wanted_plain rfl _) (rn_mv rfl (he43.op rfl) w42) ?_
      intro a44 he44
      clear he43 a43
      refine lC he44 rfl rfl Tryd.func14 (by kernel_rfl) rfl rfl (he44.want rfl rfl rfl rfl rfl) rfl (known_c w42 (hT.new hH42.new)) ?_
      intro w45 a46 hn he46
      have hH45 := hH42.call hn
      clear he44 a44 hH42 hn
      refine lV (Value.bool true) he46 rfl rfl (wanted_plain rfl _) (rn_pk rfl (he46.op rfl) (he46.op rfl) w45) ?_
      intro a47 he47
      clear he46 a46
      refine lV (Value.bool true) he47 rfl rfl (wanted_plain rfl _) (rn_asg rfl (he47.op rfl) w45) ?_
      intro a48 he48
      clear he47 a47
      refine wpList_nil ?_
      refine then_ok ?_
      refine wp_ret ?_
      try simp only [Exit.then, Exit.inBlock, Exit.noGoto]
      exact ret_env rfl he48 rfl ⟨by first | rfl | (exfalso; omega), hH45.new⟩
  · skip
    refine lC he28 rfl rfl Tryd.func19 (by kernel_rfl) rfl rfl (wanted_plain rfl _) rfl (RIn_c p c false (decide_eq_false hb0) w24) ?_
    intro w29 a30 hn he30
    have hH29 := hH24.call hn
    clear he28 a28 hH24 hn
    refine lV (Value.bool true) he30 rfl rfl (wanted_plain rfl _) (rn_not (b := false) rfl (he30.op rfl) w29) ?_
    intro a31 he31
    clear he30 a30
    refine lV (Value.bool true) he31 rfl rfl (wanted_plain rfl _) (rn_mv rfl (he31.op rfl) w29) ?_
    intro a32 he32
    clear he31 a31
    refine lSkip he32 rfl rfl (he32.wantNot rfl rfl rfl rfl rfl rfl) ?_
    intro a33 he33
    clear he32 a32
    refine lSkip he33 rfl rfl (he33.wantNot rfl rfl rfl rfl rfl rfl) ?_
    intro a34 he34
    clear he33 a33
    refine lSkip he34 rfl rfl (he34.wantNot rfl rfl rfl rfl rfl rfl) ?_
    intro a35 he35
    clear he34 a34
    refine lSkip he35 rfl rfl (he35.wantNot rfl rfl rfl rfl rfl rfl) ?_
    intro a36 he36
    clear he35 a35
    refine lV (Value.bool true) he36 rfl rfl (wanted_plain rfl _) (rn_pk rfl (he36.op rfl) (he36.op rfl) w29) ?_
    intro a37 he37
    clear he36 a36
    refine wpList_nil ?_
    refine then_ok ?_
    refine wp_cond_true (he37.op rfl) ?_
    refine wp_seq ?_
    refine wp_region_lit ?_
    refine lV (Value.agg #[Value.int .i64 p.l, Value.int .i64 p.c]) he37 rfl rfl (wanted_plain rfl _) (rn_ldp [Value.int .i64 p.l, Value.int .i64 p.c] rfl (he37.op rfl) undZ rfl infoZ2 (hH29.at (i := 2) rfl) rfl) ?_
    intro a38 he38
    clear he37 a37
    refine lV (Value.agg #[Value.int .i64 q.l, Value.int .i64 q.c]) he38 rfl rfl (wanted_plain rfl _) (rn_ldp [Value.int .i64 q.l, Value.int .i64 q.c] rfl (he38.op rfl) undZ rfl infoZ2 (hH29.at (i := 1) rfl) rfl) ?_
    intro a39 he39
    clear he38 a38
    refine lV (Value.int .i64 c) he39 rfl rfl (wanted_plain rfl _) (rn_mv rfl (he39.op rfl) w29) ?_
    intro a40 he40
    clear he39 a39
    refine lC he40 rfl rfl Tryd.func20 (by kernel_rfl) rfl rfl (wanted_plain rfl _) rfl (distance_c p q c 0 2 true (decide_eq_true (if_neg (by omega))) w29) ?_
    intro w41 a42 hn he42
    have hH41 := hH29.call hn
    clear he40 a40 hH29 hn
    refine lV (Value.bool true) he42 rfl rfl (wanted_plain rfl _) (rn_mv rfl (he42.op rfl) w41) ?_
    intro a43 he43
    clear he42 a42
    refine lC he43 rfl rfl Tryd.func14 (by kernel_rfl) rfl rfl (he43.want rfl rfl rfl rfl rfl) rfl (known_c w41 (hT.new hH41.new)) ?_
    intro w44 a45 hn he45
    have hH44 := hH41.call hn
    clear he43 a43 hH41 hn
    refine lV (Value.bool true) he45 rfl rfl (wanted_plain rfl _) (rn_pk rfl (he45.op rfl) (he45.op rfl) w44) ?_
    intro a46 he46
    clear he45 a45
    refine lV (Value.bool true) he46 rfl rfl (wanted_plain rfl _) (rn_asg rfl (he46.op rfl) w44) ?_
    intro a47 he47
    clear he46 a46
    refine wpList_nil ?_
    refine then_ok ?_
    refine wp_ret ?_
    try simp only [Exit.then, Exit.inBlock, Exit.noGoto]
    exact ret_env rfl he47 rfl ⟨by first | rfl | (exfalso; omega), hH44.new⟩
theorem parseE_none {l : List UInt8} (h : parseR l = none) : parseE l = (zPl, 6) := by unfold parseE; rw [parseS_R, h]
theorem parseE_some {l : List UInt8} {x : Pl} (h : parseR l = some x) : parseE l = (x, 0) := by unfold parseE; rw [parseS_R, h]
set_option linter.unusedSimpArgs false in
set_option maxRecDepth 100000 in
set_option maxHeartbeats 1600000 in
theorem PlaceTexts_w (p : Pl) (l : List UInt8) (w : World) (hT : Tab w) : Calls Tryd.prog 6 #[.agg #[.int .i64 p.l, .int .i64 p.c], .string (bs l)] w fun e w' => e = .returned (.bool true) ∧ New w w' := by
  refine calls_args (vl := [Value.agg #[Value.int .i64 p.l, Value.int .i64 p.c], Value.string (bs l)]) 48 Tryd.func6 rfl Tryd.ntmps6 (by kernel_rfl) (fun a he => ?_)
  have he0 : Env 48 [(0, Value.agg #[Value.int .i64 p.l, Value.int .i64 p.c]), (1, Value.string (bs l))] a := he
  clear he
  have hH := Hp.start w
  refine wp_seq ?_
  refine wp_region_lit ?_
  refine lNewP (fun p => .pointer (some ⟨p, 0, none⟩)) he0 hH rfl rfl (wanted_plain rfl _) (rn_boxZ rfl (he0.op rfl) w) ?_
  intro p1 w1 a2 hp hn hH1 he2
  clear he0 a hH hn hp
  refine lV (Value.bool false) he2 rfl rfl (wanted_plain rfl _) (rn_asg rfl (he2.op rfl) w1) ?_
  intro a3 he3
  clear he2 a2
  refine wpList_nil ?_
  refine then_ok ?_
  refine wp_seq ?_
  refine wp_seq ?_
  refine wp_region_lit ?_
  refine lV (Value.string (bs l)) he3 rfl rfl (wanted_plain rfl _) (rn_mv rfl (he3.op rfl) w1) ?_
  intro a4 he4
  clear he3 a3
  refine lV (Value.int .i64 ((l.length : Nat) : Int)) he4 rfl rfl (wanted_plain rfl _) (rn_lenS rfl (he4.op rfl) w1) ?_
  intro a5 he5
  clear he4 a4
  by_cases hb0 : 40 < ((l.length : Nat) : Int)
  · skip
    refine lV (Value.bool true) he5 rfl rfl (wanted_plain rfl _) (rn_gtI rfl (he5.op rfl) (he5.op rfl) (decide_eq_true hb0) w1) ?_
    intro a6 he6
    clear he5 a5
    refine wpList_nil ?_
    refine then_ok ?_
    refine wp_cond_true (he6.op rfl) ?_
    refine wp_seq ?_
    refine wp_region_lit ?_
    refine lC he6 rfl rfl Tryd.func14 (by kernel_rfl) rfl rfl (wanted_plain rfl _) rfl (known_c w1 (hT.new hH1.new)) ?_
    intro w7 a8 hn he8
    have hH7 := hH1.call hn
    clear he6 a6 hH1 hn
    refine lV (Value.bool true) he8 rfl rfl (wanted_plain rfl _) (rn_asg rfl (he8.op rfl) w7) ?_
    intro a9 he9
    clear he8 a8
    refine wpList_nil ?_
    refine then_ok ?_
    refine wp_ret ?_
    try simp only [Exit.then, Exit.inBlock, Exit.noGoto]
    exact ret_env rfl he9 rfl ⟨by first | rfl | (exfalso; omega), hH7.new⟩
  · skip
    refine lV (Value.bool false) he5 rfl rfl (wanted_plain rfl _) (rn_gtI rfl (he5.op rfl) (he5.op rfl) (decide_eq_false hb0) w1) ?_
    intro a6 he6
    clear he5 a5
    refine wpList_nil ?_
    refine then_ok ?_
    refine wp_cond_false (he6.op rfl) ?_
    refine wp_skip ?_
    refine then_ok ?_
    refine wp_seq ?_
    refine wp_seq ?_
    refine wp_region_lit ?_
    refine lV (Value.agg #[Value.int .i64 p.l, Value.int .i64 p.c]) he6 rfl rfl (wanted_plain rfl _) (rn_ldp [Value.int .i64 p.l, Value.int .i64 p.c] rfl (he6.op rfl) undZ rfl infoZ2 (hH1.at (i := 0) rfl) rfl) ?_
    intro a7 he7
    clear he6 a6
    by_cases hb1 : okP p
    · skip
      refine lC he7 rfl rfl Tryd.func10 (by kernel_rfl) rfl rfl (wanted_plain rfl _) rfl (RValid_c p true (decide_eq_true hb1) w1) ?_
      intro w8 a9 hn he9
      have hH8 := hH1.call hn
      clear he7 a7 hH1 hn
      refine lV (Value.bool false) he9 rfl rfl (wanted_plain rfl _) (rn_not (b := true) rfl (he9.op rfl) w8) ?_
      intro a10 he10
      clear he9 a9
      refine wpList_nil ?_
      refine then_ok ?_
      refine wp_cond_false (he10.op rfl) ?_
      refine wp_seq ?_
      refine wp_region_held_drew (S := Hp w [⟨p1, 23, #[Value.int .i64 p.l, Value.int .i64 p.c]⟩]) (by kernel_rfl) (hH8.drew) (fun _ => ?_)
      have hn : New w8 (World.drew w8) := (Fr.refl _ _).drew
      clear hn
      have hH11 := hH8.drew
      clear hH8
      generalize World.drew w8 = w11 at *
      refine hV (fuel := 11) (i := 0) (Value.agg #[Value.int .i64 p.l, Value.int .i64 p.c]) he10 rfl rfl rfl (by kernel_rfl) (by kernel_rfl) (by kernel_rfl) (fun _ _ _ h => h) (wanted_plain rfl _) (fun w' hw' => rn_ldp [Value.int .i64 p.l, Value.int .i64 p.c] rfl (he10.op rfl) undZ rfl infoZ2 (hw'.at (i := 0) rfl) rfl) hH11 ?_
      intro a12 he12
      clear he10 a10
      refine hV (fuel := 10) (i := 1) (Value.agg #[Value.int .i64 p.l, Value.int .i64 p.c]) he12 rfl rfl rfl (by kernel_rfl) (by kernel_rfl) (by kernel_rfl) (fun _ _ _ h => h) (wanted_plain rfl _) (fun w' hw' => rn_ldp [Value.int .i64 p.l, Value.int .i64 p.c] rfl (he12.op rfl) undZ rfl infoZ2 (hw'.at (i := 0) rfl) rfl) hH11 ?_
      intro a13 he13
      clear he12 a12
      refine hC (fuel := 9) (i := 2) he13 (by kernel_rfl) rfl rfl rfl Tryd.func23 (by kernel_rfl) rfl rfl (wanted_plain rfl _) rfl (RText_c p hb1 w11) ?_
      rintro _ w14 ⟨rfl, hn⟩
      have hH14 := hH11.call hn
      refine ⟨_, rfl, hH14, ?_⟩
      intro a15 he15
      clear he13 a13 hH11 hn
      refine hC (fuel := 8) (i := 3) he15 (by kernel_rfl) rfl rfl rfl Tryd.func22 (by kernel_rfl) rfl rfl (wanted_plain rfl _) rfl (text_c p (textL p) 0 true (decide_eq_true (if_pos (by assumption))) w14 (hT.new hH14.new)) ?_
      rintro _ w16 ⟨rfl, hn⟩
      have hH16 := hH14.call hn
      refine ⟨_, rfl, hH16, ?_⟩
      intro a17 he17
      clear he15 a15 hH14 hn
      refine hV (fuel := 7) (i := 4) (Value.bool false) he17 rfl rfl rfl (by kernel_rfl) (by kernel_rfl) (by kernel_rfl) (fun _ _ _ h => h) (wanted_plain rfl _) (fun w' _ => rn_not (b := true) rfl (he17.op rfl) w') hH16 ?_
      intro a18 he18
      clear he17 a17
      refine hV (fuel := 6) (i := 5) (Value.bool false) he18 rfl rfl rfl (by kernel_rfl) (by kernel_rfl) (by kernel_rfl) (fun _ _ _ h => h) (wanted_plain rfl _) (fun w' _ => rn_mv rfl (he18.op rfl) w') hH16 ?_
      intro a19 he19
      clear he18 a18
      refine hV (fuel := 5) (i := 6) (Value.agg #[Value.int .i64 p.l, Value.int .i64 p.c]) he19 rfl rfl rfl (by kernel_rfl) (by kernel_rfl) (by kernel_rfl) (fun _ _ _ h => h) (he19.want rfl rfl rfl rfl rfl) (fun w' hw' => rn_ldp [Value.int .i64 p.l, Value.int .i64 p.c] rfl (he19.op rfl) undZ rfl infoZ2 (hw'.at (i := 0) rfl) rfl) hH16 ?_
      intro a20 he20
      clear he19 a19
      refine hV (fuel := 4) (i := 8) (Value.agg #[Value.int .i64 p.l, Value.int .i64 p.c]) he20 rfl rfl rfl (by kernel_rfl) (by kernel_rfl) (by kernel_rfl) (fun _ _ _ h => h) (he20.want rfl rfl rfl rfl rfl) (fun w' hw' => rn_ldp [Value.int .i64 p.l, Value.int .i64 p.c] rfl (he20.op rfl) undZ rfl infoZ2 (hw'.at (i := 0) rfl) rfl) hH16 ?_
      intro a21 he21
      clear he20 a20
      refine hC (fuel := 3) (i := 7) he21 (by kernel_rfl) rfl rfl rfl Tryd.func23 (by kernel_rfl) rfl rfl (he21.want rfl rfl rfl rfl rfl) rfl (RText_c p hb1 w16) ?_
      rintro _ w22 ⟨rfl, hn⟩
      have hH22 := hH16.call hn
      refine ⟨_, rfl, hH22, ?_⟩
      intro a23 he23
      clear he21 a21 hH16 hn
      refine hC (fuel := 2) (i := 9) he23 (by kernel_rfl) rfl rfl rfl Tryd.func24 (by kernel_rfl) rfl rfl (he23.want rfl rfl rfl rfl rfl) rfl (parses_c (textL p) (by have := textL_len p (by assumption); omega) p 0 true (decide_eq_true (parseE_text p (by assumption))) w22 (hT.new hH22.new)) ?_
      rintro _ w24 ⟨rfl, hn⟩
      have hH24 := hH22.call hn
      refine ⟨_, rfl, hH24, ?_⟩
      intro a25 he25
      clear he23 a23 hH22 hn
      refine hV (fuel := 1) (i := 10) (Value.bool false) he25 rfl rfl rfl (by kernel_rfl) (by kernel_rfl) (by kernel_rfl) (fun _ _ _ h => h) (he25.want rfl rfl rfl rfl rfl) (fun w' _ => rn_not (b := true) rfl (he25.op rfl) w') hH24 ?_
      intro a26 he26
      clear he25 a25
      refine hV (fuel := 0) (i := 11) (Value.bool false) he26 rfl rfl rfl (by kernel_rfl) (by kernel_rfl) (by kernel_rfl) (fun _ _ _ h => h) (wanted_plain rfl _) (fun w' _ => rn_pk0 rfl (he26.op rfl) (he26.op rfl) w') hH24 ?_
      intro a27 he27
      clear he26 a26
      refine wpAnyH_done (by kernel_rfl) ?_ _
      refine then_ok ?_
      refine wp_cond_false (he27.op rfl) ?_
      refine wp_skip ?_
      refine then_ok ?_
      refine wp_seq ?_
      refine wp_region_lit ?_
      refine lV (Value.string (bs l)) he27 rfl rfl (wanted_plain rfl _) (rn_mv rfl (he27.op rfl) w24) ?_
      intro a28 he28
      clear he27 a27
      by_cases hb2 : (parseR l).isSome = true
      · skip
        obtain ⟨x, hx⟩ := Option.isSome_iff_exists.1 hb2
        refine lC he28 rfl rfl Tryd.func25 (by kernel_rfl) rfl rfl (wanted_plain rfl _) rfl (RParse_c l (by omega) (some x) hx w24) ?_
        intro w29 a30 hn he30
        have hH29 := hH24.call hn
        clear he28 a28 hH24 hn
        refine lV (Value.tuple #[Value.agg #[Value.int .i64 x.l, Value.int .i64 x.c], Value.bool true]) he30 rfl rfl (wanted_plain rfl _) (rn_mv rfl (he30.op rfl) w29) ?_
        intro a31 he31
        clear he30 a30
        refine lV (Value.agg #[Value.int .i64 x.l, Value.int .i64 x.c]) he31 rfl rfl (wanted_plain rfl _) (rn_ext rfl (he31.op rfl) rfl w29) ?_
        intro a32 he32
        clear he31 a31
        refine lV (Value.bool true) he32 rfl rfl (wanted_plain rfl _) (rn_ext rfl (he32.op rfl) rfl w29) ?_
        intro a33 he33
        clear he32 a32
        refine lNewP (fun p => .pointer (some ⟨p, 0, none⟩)) he33 hH29 rfl rfl (wanted_plain rfl _) (rn_allocZ rfl w29) ?_
        intro p34 w34 a35 hp hn hH34 he35
        clear he33 a33 hH29 hn hp
        refine lSetF 0 #[Value.int .i64 x.l, Value.int .i64 x.c] (cs := #[Value.int .i64 x.l, Value.int .i64 x.c]) he35 hH34 rfl (wanted_plain rfl _) rfl rfl rfl rfl rfl (by kernel_rfl) (by kernel_rfl) (by kernel_rfl) rfl ?_
        intro w36 a37 hH36 hf he37
        replace hH36 : Hp w [⟨p34, 23, #[Value.int .i64 x.l, Value.int .i64 x.c]⟩, ⟨p1, 23, #[Value.int .i64 p.l, Value.int .i64 p.c]⟩] w36 := hH36
        clear hf
        clear he35 a35 hH34
        refine lV (Value.bool true) he37 rfl rfl (wanted_plain rfl _) (rn_asg rfl (he37.op rfl) w36) ?_
        intro a38 he38
        clear he37 a37
        refine wpList_nil ?_
        refine then_ok ?_
        refine wp_seq ?_
        refine wp_seq ?_
        refine wp_region_lit ?_
        refine lV (Value.bool true) he38 rfl rfl (wanted_plain rfl _) (rn_mv rfl (he38.op rfl) w36) ?_
        intro a39 he39
        clear he38 a38
        refine lV (Value.bool false) he39 rfl rfl (wanted_plain rfl _) (rn_not (b := true) rfl (he39.op rfl) w36) ?_
        intro a40 he40
        clear he39 a39
        refine wpList_nil ?_
        refine then_ok ?_
        refine wp_cond_false (he40.op rfl) ?_
        refine wp_skip ?_
        refine then_ok ?_
        refine wp_seq ?_
        refine wp_region_lit ?_
        refine lV (Value.string (bs l)) he40 rfl rfl (wanted_plain rfl _) (rn_mv rfl (he40.op rfl) w36) ?_
        intro a41 he41
        clear he40 a40
        refine lV (Value.agg #[Value.int .i64 x.l, Value.int .i64 x.c]) he41 rfl rfl (wanted_plain rfl _) (rn_ldp [Value.int .i64 x.l, Value.int .i64 x.c] rfl (he41.op rfl) undZ rfl infoZ2 (hH36.at (i := 0) rfl) rfl) ?_
        intro a42 he42
        clear he41 a41
        refine lC he42 rfl rfl Tryd.func24 (by kernel_rfl) rfl rfl (wanted_plain rfl _) rfl (parses_c l (by omega) x 0 true (decide_eq_true (parseE_some hx)) w36 (hT.new hH36.new)) ?_
        intro w43 a44 hn he44
        have hH43 := hH36.call hn
        clear he42 a42 hH36 hn
        refine lV (Value.bool true) he44 rfl rfl (wanted_plain rfl _) (rn_mv rfl (he44.op rfl) w43) ?_
        intro a45 he45
        clear he44 a44
        refine lC he45 rfl rfl Tryd.func14 (by kernel_rfl) rfl rfl (he45.want rfl rfl rfl rfl rfl) rfl (known_c w43 (hT.new hH43.new)) ?_
        intro w46 a47 hn he47
        have hH46 := hH43.call hn
        clear he45 a45 hH43 hn
        refine lV (Value.bool true) he47 rfl rfl (wanted_plain rfl _) (rn_pk rfl (he47.op rfl) (he47.op rfl) w46) ?_
        intro a48 he48
        clear he47 a47
        refine lV (Value.bool true) he48 rfl rfl (wanted_plain rfl _) (rn_asg rfl (he48.op rfl) w46) ?_
        intro a49 he49
        clear he48 a48
        refine wpList_nil ?_
        refine then_ok ?_
        refine wp_ret ?_
        try simp only [Exit.then, Exit.inBlock, Exit.noGoto]
        exact ret_env rfl he49 rfl ⟨by first | rfl | (exfalso; omega), hH46.new⟩
      · skip
        have hx : parseR l = none := by simpa using hb2
        refine lC he28 rfl rfl Tryd.func25 (by kernel_rfl) rfl rfl (wanted_plain rfl _) rfl (RParse_c l (by omega) none hx w24) ?_
        intro w29 a30 hn he30
        have hH29 := hH24.call hn
        clear he28 a28 hH24 hn
        refine lV (Value.tuple #[Value.agg #[Value.int .i64 0, Value.int .i64 0], Value.bool false]) he30 rfl rfl (wanted_plain rfl _) (rn_mv rfl (he30.op rfl) w29) ?_
        intro a31 he31
        clear he30 a30
        refine lV (Value.agg #[Value.int .i64 0, Value.int .i64 0]) he31 rfl rfl (wanted_plain rfl _) (rn_ext rfl (he31.op rfl) rfl w29) ?_
        intro a32 he32
        clear he31 a31
        refine lV (Value.bool false) he32 rfl rfl (wanted_plain rfl _) (rn_ext rfl (he32.op rfl) rfl w29) ?_
        intro a33 he33
        clear he32 a32
        refine lNewP (fun p => .pointer (some ⟨p, 0, none⟩)) he33 hH29 rfl rfl (wanted_plain rfl _) (rn_allocZ rfl w29) ?_
        intro p34 w34 a35 hp hn hH34 he35
        clear he33 a33 hH29 hn hp
        refine lSetF 0 #[Value.int .i64 0, Value.int .i64 0] (cs := #[Value.int .i64 0, Value.int .i64 0]) he35 hH34 rfl (wanted_plain rfl _) rfl rfl rfl rfl rfl (by kernel_rfl) (by kernel_rfl) (by kernel_rfl) rfl ?_
        intro w36 a37 hH36 hf he37
        replace hH36 : Hp w [⟨p34, 23, #[Value.int .i64 0, Value.int .i64 0]⟩, ⟨p1, 23, #[Value.int .i64 p.l, Value.int .i64 p.c]⟩] w36 := hH36
        clear hf
        clear he35 a35 hH34
        refine lV (Value.bool false) he37 rfl rfl (wanted_plain rfl _) (rn_asg rfl (he37.op rfl) w36) ?_
        intro a38 he38
        clear he37 a37
        refine wpList_nil ?_
        refine then_ok ?_
        refine wp_seq ?_
        refine wp_seq ?_
        refine wp_region_lit ?_
        refine lV (Value.bool false) he38 rfl rfl (wanted_plain rfl _) (rn_mv rfl (he38.op rfl) w36) ?_
        intro a39 he39
        clear he38 a38
        refine lV (Value.bool true) he39 rfl rfl (wanted_plain rfl _) (rn_not (b := false) rfl (he39.op rfl) w36) ?_
        intro a40 he40
        clear he39 a39
        refine wpList_nil ?_
        refine then_ok ?_
        refine wp_cond_true (he40.op rfl) ?_
        refine wp_seq ?_
        refine wp_region_lit ?_
        refine lV (Value.string (bs l)) he40 rfl rfl (wanted_plain rfl _) (rn_mv rfl (he40.op rfl) w36) ?_
        intro a41 he41
        clear he40 a40
        refine lV (Value.agg #[Value.int .i64 0, Value.int .i64 0]) he41 rfl rfl (wanted_plain rfl _) (rn_bZ rfl  w36) ?_
        intro a42 he42
        clear he41 a41
        refine lC he42 rfl rfl Tryd.func24 (by kernel_rfl) rfl rfl (wanted_plain rfl _) rfl (parses_c l (by omega) zPl 6 true (decide_eq_true (parseE_none hx)) w36 (hT.new hH36.new)) ?_
        intro w43 a44 hn he44
        have hH43 := hH36.call hn
        clear he42 a42 hH36 hn
        refine lV (Value.bool true) he44 rfl rfl (wanted_plain rfl _) (rn_mv rfl (he44.op rfl) w43) ?_
        intro a45 he45
        clear he44 a44
        refine lC he45 rfl rfl Tryd.func14 (by kernel_rfl) rfl rfl (he45.want rfl rfl rfl rfl rfl) rfl (known_c w43 (hT.new hH43.new)) ?_
        intro w46 a47 hn he47
        have hH46 := hH43.call hn
        clear he45 a45 hH43 hn
        refine lV (Value.bool true) he47 rfl rfl (wanted_plain rfl _) (rn_pk rfl (he47.op rfl) (he47.op rfl) w46) ?_
        intro a48 he48
        clear he47 a47
        refine lV (Value.bool true) he48 rfl rfl (wanted_plain rfl _) (rn_asg rfl (he48.op rfl) w46) ?_
        intro a49 he49
        clear he48 a48
        refine wpList_nil ?_
        refine then_ok ?_
        refine wp_ret ?_
        try simp only [Exit.then, Exit.inBlock, Exit.noGoto]
        exact ret_env rfl he49 rfl ⟨by first | rfl | (exfalso; omega), hH46.new⟩
    · skip
      refine lC he7 rfl rfl Tryd.func10 (by kernel_rfl) rfl rfl (wanted_plain rfl _) rfl (RValid_c p false (decide_eq_false hb1) w1) ?_
      intro w8 a9 hn he9
      have hH8 := hH1.call hn
      clear he7 a7 hH1 hn
      refine lV (Value.bool true) he9 rfl rfl (wanted_plain rfl _) (rn_not (b := false) rfl (he9.op rfl) w8) ?_
      intro a10 he10
      clear he9 a9
      refine wpList_nil ?_
      refine then_ok ?_
      refine wp_cond_true (he10.op rfl) ?_
      refine wp_seq ?_
      refine wp_region_lit ?_
      refine lV (Value.agg #[Value.int .i64 p.l, Value.int .i64 p.c]) he10 rfl rfl (wanted_plain rfl _) (rn_ldp [Value.int .i64 p.l, Value.int .i64 p.c] rfl (he10.op rfl) undZ rfl infoZ2 (hH8.at (i := 0) rfl) rfl) ?_
      intro a11 he11
      clear he10 a10
      refine lC he11 rfl rfl Tryd.func22 (by kernel_rfl) rfl rfl (wanted_plain rfl _) rfl (text_c p [] 2 true (decide_eq_true (if_neg (by assumption))) w8 (hT.new hH8.new)) ?_
      intro w12 a13 hn he13
      have hH12 := hH8.call hn
      clear he11 a11 hH8 hn
      refine lV (Value.bool false) he13 rfl rfl (wanted_plain rfl _) (rn_not (b := true) rfl (he13.op rfl) w12) ?_
      intro a14 he14
      clear he13 a13
      refine wpList_nil ?_
      refine then_ok ?_
      refine wp_cond_false (he14.op rfl) ?_
      refine wp_skip ?_
      refine then_ok ?_
      refine wp_seq ?_
      refine wp_region_lit ?_
      refine lV (Value.string (bs l)) he14 rfl rfl (wanted_plain rfl _) (rn_mv rfl (he14.op rfl) w12) ?_
      intro a15 he15
      clear he14 a14
      by_cases hb2 : (parseR l).isSome = true
      · skip
        obtain ⟨x, hx⟩ := Option.isSome_iff_exists.1 hb2
        refine lC he15 rfl rfl Tryd.func25 (by kernel_rfl) rfl rfl (wanted_plain rfl _) rfl (RParse_c l (by omega) (some x) hx w12) ?_
        intro w16 a17 hn he17
        have hH16 := hH12.call hn
        clear he15 a15 hH12 hn
        refine lV (Value.tuple #[Value.agg #[Value.int .i64 x.l, Value.int .i64 x.c], Value.bool true]) he17 rfl rfl (wanted_plain rfl _) (rn_mv rfl (he17.op rfl) w16) ?_
        intro a18 he18
        clear he17 a17
        refine lV (Value.agg #[Value.int .i64 x.l, Value.int .i64 x.c]) he18 rfl rfl (wanted_plain rfl _) (rn_ext rfl (he18.op rfl) rfl w16) ?_
        intro a19 he19
        clear he18 a18
        refine lV (Value.bool true) he19 rfl rfl (wanted_plain rfl _) (rn_ext rfl (he19.op rfl) rfl w16) ?_
        intro a20 he20
        clear he19 a19
        refine lNewP (fun p => .pointer (some ⟨p, 0, none⟩)) he20 hH16 rfl rfl (wanted_plain rfl _) (rn_allocZ rfl w16) ?_
        intro p21 w21 a22 hp hn hH21 he22
        clear he20 a20 hH16 hn hp
        refine lSetF 0 #[Value.int .i64 x.l, Value.int .i64 x.c] (cs := #[Value.int .i64 x.l, Value.int .i64 x.c]) he22 hH21 rfl (wanted_plain rfl _) rfl rfl rfl rfl rfl (by kernel_rfl) (by kernel_rfl) (by kernel_rfl) rfl ?_
        intro w23 a24 hH23 hf he24
        replace hH23 : Hp w [⟨p21, 23, #[Value.int .i64 x.l, Value.int .i64 x.c]⟩, ⟨p1, 23, #[Value.int .i64 p.l, Value.int .i64 p.c]⟩] w23 := hH23
        clear hf
        clear he22 a22 hH21
        refine lV (Value.bool true) he24 rfl rfl (wanted_plain rfl _) (rn_asg rfl (he24.op rfl) w23) ?_
        intro a25 he25
        clear he24 a24
        refine wpList_nil ?_
        refine then_ok ?_
        refine wp_seq ?_
        refine wp_seq ?_
        refine wp_region_lit ?_
        refine lV (Value.bool true) he25 rfl rfl (wanted_plain rfl _) (rn_mv rfl (he25.op rfl) w23) ?_
        intro a26 he26
        clear he25 a25
        refine lV (Value.bool false) he26 rfl rfl (wanted_plain rfl _) (rn_not (b := true) rfl (he26.op rfl) w23) ?_
        intro a27 he27
        clear he26 a26
        refine wpList_nil ?_
        refine then_ok ?_
        refine wp_cond_false (he27.op rfl) ?_
        refine wp_skip ?_
        refine then_ok ?_
        refine wp_seq ?_
        refine wp_region_lit ?_
        refine lV (Value.string (bs l)) he27 rfl rfl (wanted_plain rfl _) (rn_mv rfl (he27.op rfl) w23) ?_
        intro a28 he28
        clear he27 a27
        refine lV (Value.agg #[Value.int .i64 x.l, Value.int .i64 x.c]) he28 rfl rfl (wanted_plain rfl _) (rn_ldp [Value.int .i64 x.l, Value.int .i64 x.c] rfl (he28.op rfl) undZ rfl infoZ2 (hH23.at (i := 0) rfl) rfl) ?_
        intro a29 he29
        clear he28 a28
        refine lC he29 rfl rfl Tryd.func24 (by kernel_rfl) rfl rfl (wanted_plain rfl _) rfl (parses_c l (by omega) x 0 true (decide_eq_true (parseE_some hx)) w23 (hT.new hH23.new)) ?_
        intro w30 a31 hn he31
        have hH30 := hH23.call hn
        clear he29 a29 hH23 hn
        refine lV (Value.bool true) he31 rfl rfl (wanted_plain rfl _) (rn_mv rfl (he31.op rfl) w30) ?_
        intro a32 he32
        clear he31 a31
        refine lC he32 rfl rfl Tryd.func14 (by kernel_rfl) rfl rfl (he32.want rfl rfl rfl rfl rfl) rfl (known_c w30 (hT.new hH30.new)) ?_
        intro w33 a34 hn he34
        have hH33 := hH30.call hn
        clear he32 a32 hH30 hn
        refine lV (Value.bool true) he34 rfl rfl (wanted_plain rfl _) (rn_pk rfl (he34.op rfl) (he34.op rfl) w33) ?_
        intro a35 he35
        clear he34 a34
        refine lV (Value.bool true) he35 rfl rfl (wanted_plain rfl _) (rn_asg rfl (he35.op rfl) w33) ?_
        intro a36 he36
        clear he35 a35
        refine wpList_nil ?_
        refine then_ok ?_
        refine wp_ret ?_
        try simp only [Exit.then, Exit.inBlock, Exit.noGoto]
        exact ret_env rfl he36 rfl ⟨by first | rfl | (exfalso; omega), hH33.new⟩
      · skip
        have hx : parseR l = none := by simpa using hb2
        refine lC he15 rfl rfl Tryd.func25 (by kernel_rfl) rfl rfl (wanted_plain rfl _) rfl (RParse_c l (by omega) none hx w12) ?_
        intro w16 a17 hn he17
        have hH16 := hH12.call hn
        clear he15 a15 hH12 hn
        refine lV (Value.tuple #[Value.agg #[Value.int .i64 0, Value.int .i64 0], Value.bool false]) he17 rfl rfl (wanted_plain rfl _) (rn_mv rfl (he17.op rfl) w16) ?_
        intro a18 he18
        clear he17 a17
        refine lV (Value.agg #[Value.int .i64 0, Value.int .i64 0]) he18 rfl rfl (wanted_plain rfl _) (rn_ext rfl (he18.op rfl) rfl w16) ?_
        intro a19 he19
        clear he18 a18
        refine lV (Value.bool false) he19 rfl rfl (wanted_plain rfl _) (rn_ext rfl (he19.op rfl) rfl w16) ?_
        intro a20 he20
        clear he19 a19
        refine lNewP (fun p => .pointer (some ⟨p, 0, none⟩)) he20 hH16 rfl rfl (wanted_plain rfl _) (rn_allocZ rfl w16) ?_
        intro p21 w21 a22 hp hn hH21 he22
        clear he20 a20 hH16 hn hp
        refine lSetF 0 #[Value.int .i64 0, Value.int .i64 0] (cs := #[Value.int .i64 0, Value.int .i64 0]) he22 hH21 rfl (wanted_plain rfl _) rfl rfl rfl rfl rfl (by kernel_rfl) (by kernel_rfl) (by kernel_rfl) rfl ?_
        intro w23 a24 hH23 hf he24
        replace hH23 : Hp w [⟨p21, 23, #[Value.int .i64 0, Value.int .i64 0]⟩, ⟨p1, 23, #[Value.int .i64 p.l, Value.int .i64 p.c]⟩] w23 := hH23
        clear hf
        clear he22 a22 hH21
        refine lV (Value.bool false) he24 rfl rfl (wanted_plain rfl _) (rn_asg rfl (he24.op rfl) w23) ?_
        intro a25 he25
        clear he24 a24
        refine wpList_nil ?_
        refine then_ok ?_
        refine wp_seq ?_
        refine wp_seq ?_
        refine wp_region_lit ?_
        refine lV (Value.bool false) he25 rfl rfl (wanted_plain rfl _) (rn_mv rfl (he25.op rfl) w23) ?_
        intro a26 he26
        clear he25 a25
        refine lV (Value.bool true) he26 rfl rfl (wanted_plain rfl _) (rn_not (b := false) rfl (he26.op rfl) w23) ?_
        intro a27 he27
        clear he26 a26
        refine wpList_nil ?_
        refine then_ok ?_
        refine wp_cond_true (he27.op rfl) ?_
        refine wp_seq ?_
        refine wp_region_lit ?_
        refine lV (Value.string (bs l)) he27 rfl rfl (wanted_plain rfl _) (rn_mv rfl (he27.op rfl) w23) ?_
        intro a28 he28
        clear he27 a27
        refine lV (Value.agg #[Value.int .i64 0, Value.int .i64 0]) he28 rfl rfl (wanted_plain rfl _) (rn_bZ rfl  w23) ?_
        intro a29 he29
        clear he28 a28
        refine lC he29 rfl rfl Tryd.func24 (by kernel_rfl) rfl rfl (wanted_plain rfl _) rfl (parses_c l (by omega) zPl 6 true (decide_eq_true (parseE_none hx)) w23 (hT.new hH23.new)) ?_
        intro w30 a31 hn he31
        have hH30 := hH23.call hn
        clear he29 a29 hH23 hn
        refine lV (Value.bool true) he31 rfl rfl (wanted_plain rfl _) (rn_mv rfl (he31.op rfl) w30) ?_
        intro a32 he32
        clear he31 a31
        refine lC he32 rfl rfl Tryd.func14 (by kernel_rfl) rfl rfl (he32.want rfl rfl rfl rfl rfl) rfl (known_c w30 (hT.new hH30.new)) ?_
        intro w33 a34 hn he34
        have hH33 := hH30.call hn
        clear he32 a32 hH30 hn
        refine lV (Value.bool true) he34 rfl rfl (wanted_plain rfl _) (rn_pk rfl (he34.op rfl) (he34.op rfl) w33) ?_
        intro a35 he35
        clear he34 a34
        refine lV (Value.bool true) he35 rfl rfl (wanted_plain rfl _) (rn_asg rfl (he35.op rfl) w33) ?_
        intro a36 he36
        clear he35 a35
        refine wpList_nil ?_
        refine then_ok ?_
        refine wp_ret ?_
        try simp only [Exit.then, Exit.inBlock, Exit.noGoto]
        exact ret_env rfl he36 rfl ⟨by first | rfl | (exfalso; omega), hH33.new⟩
end Go.Proofs.YtijaemfalljdoaaDoor
