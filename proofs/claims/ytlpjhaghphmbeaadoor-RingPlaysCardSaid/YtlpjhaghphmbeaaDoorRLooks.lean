/-
  The law's look at a ring; how many calls there are.
-/
import Derived.Test.YtlpjhaghphmbeaaDoorRRead
import Derived.Test.YtlpjhaghphmbeaaDoorRRefB
namespace Go.Proofs.YtlpjhaghphmbeaaDoor
open Go.RowKit

set_option linter.unusedSimpArgs false in
set_option maxRecDepth 100000 in
set_option maxHeartbeats 1600000 in
theorem looks_b (F : FP) (p : Nat) (R : RS) (A B : Option Addr) (c d : Nat) (w : World) (hs : (ringD p R).P w F) (hsm : R.L.length ≤ 1000) (hr : LnsR w (.slice A R.L.length c) R.L) (hT : Tab w) : Calls Tryd.prog 12 #[.pointer (some ⟨p, 0, none⟩), .agg #[.int .i64 R.mo, .int .i64 R.pl, .int .i64 R.fi, .slice A R.L.length c, .slice B (pgI R.P).length d]] w fun e w' => e = .returned (.bool true) ∧ New w w' := by
  have hnb : bigN = 1000000000 := rfl
  have hnn : R.nx = R.fi + R.L.length := rfl
  have hn8 := hs.1.nx
  have hbig : ∀ l ∈ R.L, l.1.length ≤ 1000000 := fun l hl => by have := okL_len (hs.1.ln l hl); omega
  have hr0 := hr
  clear hr
  refine calls_args (vl := [.pointer (some ⟨p, 0, none⟩), .agg #[.int .i64 R.mo, .int .i64 R.pl, .int .i64 R.fi, .slice A R.L.length c, .slice B (pgI R.P).length d]]) 81 Tryd.func12 rfl Tryd.ntmps12 (by kernel_rfl) (fun a he => ?_)
  have he0 : Env 81 [(0, .pointer (some ⟨p, 0, none⟩)), (1, .agg #[.int .i64 R.mo, .int .i64 R.pl, .int .i64 R.fi, .slice A R.L.length c, .slice B (pgI R.P).length d])] a := he
  clear he
  have hH := Hp.start w
  have hD := Dt.start hT
  refine wp_seq (wp_region_lit ?_)
  refine lNewP (fun p => .pointer (some ⟨p, 0, none⟩)) he0 hH rfl rfl (wanted_plain rfl _) (rn_boxQ rfl (he0.op rfl) w) ?_
  intro p1 w1 a2 hp hn hH1 he2
  replace hD := hD.cons hn hp (hH1.at (i := 0) rfl).lt
  clear he0 a hH hn hp
  refine lW (.bool false) he2 rfl (rn_asg rfl (he2.op rfl) w1) ?_
  intro a3 he3
  clear he2 a2
  refine wpList_nil (then_ok ?_)
  refine wp_seq ?_
  refine wp_seq ?_
  refine wp_region_held_drew (S := Hp w [⟨p1, 33, #[.int .i64 R.mo, .int .i64 R.pl, .int .i64 R.fi, .slice A R.L.length c, .slice B (pgI R.P).length d]⟩]) (by kernel_rfl) (hH1.drew) (fun _ => ?_)
  have hn : New w1 (World.drew w1) := (Fr.refl _ _).drew
  replace hD := (hD).new hn
  clear hn
  have hH4 := hH1.drew
  clear hH1
  generalize World.drew w1 = w4 at *
  refine hW (fuel := 34) (i := 0) (.pointer (some ⟨p, 0, none⟩)) he3 rfl (by kernel_rfl) (fun _ _ _ h => h) (fun w' _ => rn_mv rfl (he3.op rfl) w') hH4 ?_
  intro a5 he5
  clear he3 a3
  refine hW (fuel := 33) (i := 2) (.pointer (some ⟨p1, 2, none⟩)) he5 rfl (by kernel_rfl) (fun _ _ _ h => h) (fun w' _ => rn_faQ2 rfl (he5.op rfl) rfl w') hH4 ?_
  intro a6 he6
  clear he5 a5
  refine hW (fuel := 32) (i := 3) (.int .i64 R.fi) he6 rfl (by kernel_rfl) (fun _ _ _ h => h) (fun w' hw' => rn_ld1 rfl (he6.op rfl) Tryd.underlying3 (hw'.at (i := 0) rfl) rfl) hH4 ?_
  intro a7 he7
  clear he6 a6
  refine hC (fuel := 31) (i := 1) he7 (by kernel_rfl) rfl rfl rfl Tryd.func19 (by kernel_rfl) rfl rfl (wanted_plain rfl _) rfl (rFirst_d (R := R) ((ringD _ _).fr hs hD.fr (fun _ _ h => h)) hD.tab) ?_
  rintro _ w8 ⟨rfl, hn⟩
  have hH8 := hH4.call hn
  replace hD := (hD).new hn
  refine ⟨_, rfl, hH8, ?_⟩
  intro a9 he9
  clear he7 a7 hH4 hn
  refine hW (fuel := 30) (i := 4) (.bool false) he9 rfl (by kernel_rfl) (fun _ _ _ h => h) (fun w' _ => rn_neI rfl (he9.op rfl) (he9.op rfl) (by simp) w') hH8 ?_
  intro a10 he10
  clear he9 a9
  refine hW (fuel := 29) (i := 5) (.bool false) he10 rfl (by kernel_rfl) (fun _ _ _ h => h) (fun w' _ => rn_mv rfl (he10.op rfl) w') hH8 ?_
  intro a11 he11
  clear he10 a10
  refine hV (fuel := 28) (i := 6) (.pointer (some ⟨p, 0, none⟩)) he11 rfl rfl rfl (by kernel_rfl) (by kernel_rfl) (by kernel_rfl) (fun _ _ _ h => h) (he11.want rfl rfl rfl rfl rfl) (fun w' _ => rn_mv rfl (he11.op rfl) w') hH8 ?_
  intro a12 he12
  clear he11 a11
  refine hV (fuel := 27) (i := 8) (.agg #[.int .i64 R.mo, .int .i64 R.pl, .int .i64 R.fi, .slice A R.L.length c, .slice B (pgI R.P).length d]) he12 rfl rfl rfl (by kernel_rfl) (by kernel_rfl) (by kernel_rfl) (fun _ _ _ h => h) (he12.want rfl rfl rfl rfl rfl) (fun w' hw' => rn_ldp _ rfl (he12.op rfl) undQ rfl infoQ5 (hw'.at (i := 0) rfl) rfl) hH8 ?_
  intro a13 he13
  clear he12 a12
  refine hC (fuel := 26) (i := 7) he13 (by kernel_rfl) rfl rfl rfl Tryd.func20 (by kernel_rfl) rfl rfl (he13.want rfl rfl rfl rfl rfl) rfl (rNext_d (R := R) ((ringD _ _).fr hs hD.fr (fun _ _ h => h)) hD.tab) ?_
  rintro _ w14 ⟨rfl, hn⟩
  have hH14 := hH8.call hn
  replace hD := (hD).new hn
  refine ⟨_, rfl, hH14, ?_⟩
  intro a15 he15
  clear he13 a13 hH8 hn
  refine hC (fuel := 25) (i := 9) he15 (by kernel_rfl) rfl rfl rfl Tryd.func36 (by kernel_rfl) rfl rfl (he15.want rfl rfl rfl rfl rfl) rfl (qNext _ _ _ (R.nx : Int) _ _ _ _ _ _ w14 (by rw [hnn]; omega) (by omega) (by omega)) ?_
  rintro _ w16 ⟨rfl, hn⟩
  have hH16 := hH14.call hn
  replace hD := (hD).new hn
  refine ⟨_, rfl, hH16, ?_⟩
  intro a17 he17
  clear he15 a15 hH14 hn
  refine hV (fuel := 24) (i := 10) (.bool false) he17 rfl rfl rfl (by kernel_rfl) (by kernel_rfl) (by kernel_rfl) (fun _ _ _ h => h) (he17.want rfl rfl rfl rfl rfl) (fun w' _ => rn_neI rfl (he17.op rfl) (he17.op rfl) (by simp) w') hH16 ?_
  intro a18 he18
  clear he17 a17
  refine hW (fuel := 23) (i := 11) (.bool false) he18 rfl (by kernel_rfl) (fun _ _ _ h => h) (fun w' _ => rn_pk0 rfl (he18.op rfl) (he18.op rfl) w') hH16 ?_
  intro a19 he19
  clear he18 a18
  refine hW (fuel := 22) (i := 12) (.bool false) he19 rfl (by kernel_rfl) (fun _ _ _ h => h) (fun w' _ => rn_mv rfl (he19.op rfl) w') hH16 ?_
  intro a20 he20
  clear he19 a19
  refine hV (fuel := 21) (i := 13) (.pointer (some ⟨p, 0, none⟩)) he20 rfl rfl rfl (by kernel_rfl) (by kernel_rfl) (by kernel_rfl) (fun _ _ _ h => h) (he20.want rfl rfl rfl rfl rfl) (fun w' _ => rn_mv rfl (he20.op rfl) w') hH16 ?_
  intro a21 he21
  clear he20 a20
  refine hV (fuel := 20) (i := 15) (.pointer (some ⟨p1, 3, none⟩)) he21 rfl rfl rfl (by kernel_rfl) (by kernel_rfl) (by kernel_rfl) (fun _ _ _ h => h) (he21.want rfl rfl rfl rfl rfl) (fun w' _ => rn_faQ3 rfl (he21.op rfl) rfl w') hH16 ?_
  intro a22 he22
  clear he21 a21
  refine hV (fuel := 19) (i := 16) (.slice A R.L.length c) he22 rfl rfl rfl (by kernel_rfl) (by kernel_rfl) (by kernel_rfl) (fun _ _ _ h => h) (he22.want rfl rfl rfl rfl rfl) (fun w' hw' => rn_ldLs rfl (he22.op rfl) (hw'.at (i := 0) rfl) rfl) hH16 ?_
  intro a23 he23
  clear he22 a22
  refine hV (fuel := 18) (i := 17) (.int .i64 R.L.length) he23 rfl rfl rfl (by kernel_rfl) (by kernel_rfl) (by kernel_rfl) (fun _ _ _ h => h) (he23.want rfl rfl rfl rfl rfl) (fun w' _ => rn_lenL rfl (he23.op rfl) w') hH16 ?_
  intro a24 he24
  clear he23 a23
  refine hC (fuel := 17) (i := 14) he24 (by kernel_rfl) rfl rfl rfl Tryd.func28 (by kernel_rfl) rfl rfl (he24.want rfl rfl rfl rfl rfl) rfl (rLen_d (R := R) ((ringD _ _).fr hs hD.fr (fun _ _ h => h)) hD.tab) ?_
  rintro _ w25 ⟨rfl, hn⟩
  have hH25 := hH16.call hn
  replace hD := (hD).new hn
  refine ⟨_, rfl, hH25, ?_⟩
  intro a26 he26
  clear he24 a24 hH16 hn
  refine hV (fuel := 16) (i := 18) (.bool false) he26 rfl rfl rfl (by kernel_rfl) (by kernel_rfl) (by kernel_rfl) (fun _ _ _ h => h) (he26.want rfl rfl rfl rfl rfl) (fun w' _ => rn_neI rfl (he26.op rfl) (he26.op rfl) (by simp) w') hH25 ?_
  intro a27 he27
  clear he26 a26
  refine hW (fuel := 15) (i := 19) (.bool false) he27 rfl (by kernel_rfl) (fun _ _ _ h => h) (fun w' _ => rn_pk0 rfl (he27.op rfl) (he27.op rfl) w') hH25 ?_
  intro a28 he28
  clear he27 a27
  refine hW (fuel := 14) (i := 20) (.bool false) he28 rfl (by kernel_rfl) (fun _ _ _ h => h) (fun w' _ => rn_mv rfl (he28.op rfl) w') hH25 ?_
  intro a29 he29
  clear he28 a28
  refine hV (fuel := 13) (i := 21) (.pointer (some ⟨p, 0, none⟩)) he29 rfl rfl rfl (by kernel_rfl) (by kernel_rfl) (by kernel_rfl) (fun _ _ _ h => h) (he29.want rfl rfl rfl rfl rfl) (fun w' _ => rn_mv rfl (he29.op rfl) w') hH25 ?_
  intro a30 he30
  clear he29 a29
  refine hV (fuel := 12) (i := 23) (.pointer (some ⟨p1, 0, none⟩)) he30 rfl rfl rfl (by kernel_rfl) (by kernel_rfl) (by kernel_rfl) (fun _ _ _ h => h) (he30.want rfl rfl rfl rfl rfl) (fun w' _ => rn_faQ0 rfl (he30.op rfl) rfl w') hH25 ?_
  intro a31 he31
  clear he30 a30
  refine hV (fuel := 11) (i := 24) (.int .i64 R.mo) he31 rfl rfl rfl (by kernel_rfl) (by kernel_rfl) (by kernel_rfl) (fun _ _ _ h => h) (he31.want rfl rfl rfl rfl rfl) (fun w' hw' => rn_ld1 rfl (he31.op rfl) Tryd.underlying3 (hw'.at (i := 0) rfl) rfl) hH25 ?_
  intro a32 he32
  clear he31 a31
  refine hC (fuel := 10) (i := 22) he32 (by kernel_rfl) rfl rfl rfl Tryd.func29 (by kernel_rfl) rfl rfl (he32.want rfl rfl rfl rfl rfl) rfl (rMost_d (R := R) ((ringD _ _).fr hs hD.fr (fun _ _ h => h)) hD.tab) ?_
  rintro _ w33 ⟨rfl, hn⟩
  have hH33 := hH25.call hn
  replace hD := (hD).new hn
  refine ⟨_, rfl, hH33, ?_⟩
  intro a34 he34
  clear he32 a32 hH25 hn
  refine hV (fuel := 9) (i := 25) (.bool false) he34 rfl rfl rfl (by kernel_rfl) (by kernel_rfl) (by kernel_rfl) (fun _ _ _ h => h) (he34.want rfl rfl rfl rfl rfl) (fun w' _ => rn_neI rfl (he34.op rfl) (he34.op rfl) (by simp) w') hH33 ?_
  intro a35 he35
  clear he34 a34
  refine hW (fuel := 8) (i := 26) (.bool false) he35 rfl (by kernel_rfl) (fun _ _ _ h => h) (fun w' _ => rn_pk0 rfl (he35.op rfl) (he35.op rfl) w') hH33 ?_
  intro a36 he36
  clear he35 a35
  refine hW (fuel := 7) (i := 27) (.bool false) he36 rfl (by kernel_rfl) (fun _ _ _ h => h) (fun w' _ => rn_mv rfl (he36.op rfl) w') hH33 ?_
  intro a37 he37
  clear he36 a36
  refine hV (fuel := 6) (i := 28) (.pointer (some ⟨p, 0, none⟩)) he37 rfl rfl rfl (by kernel_rfl) (by kernel_rfl) (by kernel_rfl) (fun _ _ _ h => h) (he37.want rfl rfl rfl rfl rfl) (fun w' _ => rn_mv rfl (he37.op rfl) w') hH33 ?_
  intro a38 he38
  clear he37 a37
  refine hV (fuel := 5) (i := 30) (.pointer (some ⟨p1, 4, none⟩)) he38 rfl rfl rfl (by kernel_rfl) (by kernel_rfl) (by kernel_rfl) (fun _ _ _ h => h) (he38.want rfl rfl rfl rfl rfl) (fun w' _ => rn_faQ4 rfl (he38.op rfl) rfl w') hH33 ?_
  intro a39 he39
  clear he38 a38
  refine hV (fuel := 4) (i := 31) (.slice B (pgI R.P).length d) he39 rfl rfl rfl (by kernel_rfl) (by kernel_rfl) (by kernel_rfl) (fun _ _ _ h => h) (he39.want rfl rfl rfl rfl rfl) (fun w' hw' => rn_ldDs rfl (he39.op rfl) (hw'.at (i := 0) rfl) rfl) hH33 ?_
  intro a40 he40
  clear he39 a39
  refine hV (fuel := 3) (i := 32) (.int .i64 ((pgI R.P).length : Nat)) he40 rfl rfl rfl (by kernel_rfl) (by kernel_rfl) (by kernel_rfl) (fun _ _ _ h => h) (he40.want rfl rfl rfl rfl rfl) (fun w' _ => rn_lenD rfl (he40.op rfl) w') hH33 ?_
  intro a41 he41
  clear he40 a40
  refine hC (fuel := 2) (i := 29) he41 (by kernel_rfl) rfl rfl rfl Tryd.func21 (by kernel_rfl) rfl rfl (he41.want rfl rfl rfl rfl rfl) rfl (rPages_d (R := R) ((ringD _ _).fr hs hD.fr (fun _ _ h => h)) hD.tab) ?_
  rintro _ w42 ⟨rfl, hn⟩
  have hH42 := hH33.call hn
  replace hD := (hD).new hn
  refine ⟨_, rfl, hH42, ?_⟩
  intro a43 he43
  clear he41 a41 hH33 hn
  refine hV (fuel := 1) (i := 33) (.bool false) he43 rfl rfl rfl (by kernel_rfl) (by kernel_rfl) (by kernel_rfl) (fun _ _ _ h => h) (he43.want rfl rfl rfl rfl rfl) (fun w' _ => rn_neI rfl (he43.op rfl) (he43.op rfl) (by rw [pgI_len]; simp) w') hH42 ?_
  intro a44 he44
  clear he43 a43
  refine hW (fuel := 0) (i := 34) (.bool false) he44 rfl (by kernel_rfl) (fun _ _ _ h => h) (fun w' _ => rn_pk0 rfl (he44.op rfl) (he44.op rfl) w') hH42 ?_
  intro a45 he45
  clear he44 a44
  refine wpAnyH_done (by kernel_rfl) ?_ _
  refine then_ok ?_
  refine wp_cond_false (he45.op rfl) ?_
  refine wp_skip ?_
  refine then_ok ?_
  have he46 : Env 81 [(3, .pointer (some ⟨p1, 0, none⟩)), (0, .pointer (some ⟨p, 0, none⟩))] a45 := he45.mem ⟨rfl, rfl, trivial⟩
  clear he45
  as_aux_lemma =>
    refine wp_seq ?_
    refine wp_region_held_drew (S := Hp w [⟨p1, 33, #[.int .i64 R.mo, .int .i64 R.pl, .int .i64 R.fi, .slice A R.L.length c, .slice B (pgI R.P).length d]⟩]) (by kernel_rfl) (hH42.drew) (fun _ => ?_)
    have hn : New w42 (World.drew w42) := (Fr.refl _ _).drew
    replace hD := (hD).new hn
    clear hn
    have hH47 := hH42.drew
    clear hH42
    generalize World.drew w42 = w47 at *
    refine hW (fuel := 10) (i := 0) (.pointer (some ⟨p, 0, none⟩)) he46 rfl (by kernel_rfl) (fun _ _ _ h => h) (fun w' _ => rn_mv rfl (he46.op rfl) w') hH47 ?_
    intro a48 he48
    clear he46 a45
    refine hW (fuel := 9) (i := 1) (.pointer (some ⟨p1, 2, none⟩)) he48 rfl (by kernel_rfl) (fun _ _ _ h => h) (fun w' _ => rn_faQ2 rfl (he48.op rfl) rfl w') hH47 ?_
    intro a49 he49
    clear he48 a48
    refine hW (fuel := 8) (i := 2) (.int .i64 R.fi) he49 rfl (by kernel_rfl) (fun _ _ _ h => h) (fun w' hw' => rn_ld1 rfl (he49.op rfl) Tryd.underlying3 (hw'.at (i := 0) rfl) rfl) hH47 ?_
    intro a50 he50
    clear he49 a49
    refine hW (fuel := 7) (i := 3) (.agg #[.int .i64 R.mo, .int .i64 R.pl, .int .i64 R.fi, .slice A R.L.length c, .slice B (pgI R.P).length d]) he50 rfl (by kernel_rfl) (fun _ _ _ h => h) (fun w' hw' => rn_ldp _ rfl (he50.op rfl) undQ rfl infoQ5 (hw'.at (i := 0) rfl) rfl) hH47 ?_
    intro a51 he51
    clear he50 a50
    refine hC (fuel := 6) (i := 4) he51 (by kernel_rfl) rfl rfl rfl Tryd.func36 (by kernel_rfl) rfl rfl (wanted_plain rfl _) rfl (qNext _ _ _ (R.nx : Int) _ _ _ _ _ _ w47 (by rw [hnn]; omega) (by omega) (by omega)) ?_
    rintro _ w52 ⟨rfl, hn⟩
    have hH52 := hH47.call hn
    replace hD := (hD).new hn
    refine ⟨_, rfl, hH52, ?_⟩
    intro a53 he53
    clear he51 a51 hH47 hn
    refine hC (fuel := 5) (i := 5) he53 (by kernel_rfl) rfl rfl rfl Tryd.func22 (by kernel_rfl) rfl rfl (wanted_plain rfl _) rfl ((by have hc_ := rRange p R R.fi R.nx F w52 ((ringD _ _).fr hs hD.fr (fun _ _ h => h)) hD.tab; rw [rangeE_all, rangeL_all] at hc_; exact hc_)) ?_
    rintro _ w54 ⟨A2, c2, rfl, ht⟩
    have hD2 := hD.made ht
    have hH54 := hH52.call ht.new
    replace hD := hD2
    clear hD2 ht
    refine ⟨_, rfl, hH54, ?_⟩
    intro a55 he55
    clear he53 a53 hH52
    refine hW (fuel := 4) (i := 6) (.tuple #[.slice A2 R.L.length c2, .int .i64 0]) he55 rfl (by kernel_rfl) (fun _ _ _ h => h) (fun w' _ => rn_mv rfl (he55.op rfl) w') hH54 ?_
    intro a56 he56
    clear he55 a55
    refine hW (fuel := 3) (i := 7) (.slice A2 R.L.length c2) he56 rfl (by kernel_rfl) (fun _ _ _ h => h) (fun w' _ => rn_ext rfl (he56.op rfl) rfl w') hH54 ?_
    intro a57 he57
    clear he56 a56
    refine hW (fuel := 2) (i := 8) (.int .i64 0) he57 rfl (by kernel_rfl) (fun _ _ _ h => h) (fun w' _ => rn_ext rfl (he57.op rfl) rfl w') hH54 ?_
    intro a58 he58
    clear he57 a57
    refine hW (fuel := 1) (i := 9) (.slice A2 R.L.length c2) he58 rfl (by kernel_rfl) (fun _ _ _ h => h) (fun w' _ => rn_asg rfl (he58.op rfl) w') hH54 ?_
    intro a59 he59
    clear he58 a58
    refine hW (fuel := 0) (i := 10) (.int .i64 0) he59 rfl (by kernel_rfl) (fun _ _ _ h => h) (fun w' _ => rn_asg rfl (he59.op rfl) w') hH54 ?_
    intro a60 he60
    clear he59 a59
    refine wpAnyH_done (by kernel_rfl) ?_ _
    refine then_ok ?_
    refine wp_seq ?_
    refine wp_seq (wp_region_lit ?_)
    refine lW (.int .i64 0) he60 rfl (rn_mv rfl (he60.op rfl) w54) ?_
    intro a61 he61
    clear he60 a60
    refine lW (.bool false) he61 rfl (rn_neE rfl (he61.op rfl) (he61.op rfl) (by simp) w54) ?_
    intro a62 he62
    clear he61 a61
    refine lW (.bool false) he62 rfl (rn_mv rfl (he62.op rfl) w54) ?_
    intro a63 he63
    clear he62 a62
    refine lV (.slice A2 R.L.length c2) he63 rfl rfl (he63.want rfl rfl rfl rfl rfl) (rn_mv rfl (he63.op rfl) w54) ?_
    intro a64 he64
    clear he63 a63
    refine lV (.pointer (some ⟨p1, 3, none⟩)) he64 rfl rfl (he64.want rfl rfl rfl rfl rfl) (rn_faQ3 rfl (he64.op rfl) rfl w54) ?_
    intro a65 he65
    clear he64 a64
    refine lV (.slice A R.L.length c) he65 rfl rfl (he65.want rfl rfl rfl rfl rfl) (rn_ldLs rfl (he65.op rfl) (hH54.at (i := 0) rfl) rfl) ?_
    intro a66 he66
    clear he65 a65
    refine lC he66 rfl rfl Tryd.func42 (by kernel_rfl) rfl rfl (he66.want rfl rfl rfl rfl rfl) rfl (all_b _ _ R.L R.L true (by simp) hbig hbig (by omega) (by omega) w54 (lines_lns (hD.get (i := 0) rfl).choose_spec).r (hr0.new hH54.new)) ?_
    intro w67 a68 hn he68
    have hH67 := hH54.call hn
    replace hD := (hD).new hn
    clear he66 a66 hH54 hn
    refine lV (.bool false) he68 rfl rfl (he68.want rfl rfl rfl rfl rfl) (rn_not (b := true) rfl (he68.op rfl) w67) ?_
    intro a69 he69
    clear he68 a68
    refine lW (.bool false) he69 rfl (rn_pk0 rfl (he69.op rfl) (he69.op rfl) w67) ?_
    intro a70 he70
    clear he69 a69
    refine wpList_nil (then_ok ?_)
    refine wp_cond_false (he70.op rfl) ?_
    refine wp_skip ?_
    refine then_ok ?_
    obtain ⟨ys, hD3⟩ := Dt.lines hD
    clear hD
    have hD := hD3
    clear hD3
    have hyl : ys.length = R.L.length := (hD.get (i := 1) rfl).choose_spec.1
    refine wp_seq ?_
    refine wp_seq (wp_region_lit ?_)
    refine lW (.slice A2 R.L.length c2) he70 rfl (rn_mv rfl (he70.op rfl) w67) ?_
    intro a71 he71
    clear he70 a70
    refine lW (.int .i64 R.L.length) he71 rfl (rn_lenL rfl (he71.op rfl) w67) ?_
    intro a72 he72
    clear he71 a71
    refine lW (.int .i64 0) he72 rfl (rn_mv rfl (he72.op rfl) w67) ?_
    intro a73 he73
    clear he72 a72
    refine wpList_nil (then_ok ?_)
    have he74 : Env 81 [(63, .int .i64 0), (62, .int .i64 R.L.length), (5, .slice A2 R.L.length c2), (3, .pointer (some ⟨p1, 0, none⟩)), (0, .pointer (some ⟨p, 0, none⟩))] a73 := he73.mem ⟨rfl, rfl, rfl, rfl, rfl, trivial⟩
    clear he73
    as_aux_lemma =>
      refine wp_block ?_
      refine loop_nat (fun q a w' => ∃ (k : Nat), q = R.L.length - k ∧ k ≤ R.L.length ∧ Env 81 [(0, .pointer (some ⟨p, 0, none⟩)), (3, .pointer (some ⟨p1, 0, none⟩)), (5, .slice A2 R.L.length c2), (62, .int .i64 R.L.length), (63, .int .i64 k)] a ∧ Hp w [⟨p1, 33, #[.int .i64 R.mo, .int .i64 R.pl, .int .i64 R.fi, .slice A R.L.length c, .slice B (pgI R.P).length d]⟩] w' ∧ Dt w w (fun _ => False) 0 [p1] [rowD (.slice A2 R.L.length c2) ys, elsD (ys.drop k) (R.L.drop k)] w') R.L.length ⟨0, by omega, by omega, he74.mem ⟨rfl, rfl, rfl, rfl, rfl, trivial⟩, hH67, hD⟩ ?_
      clear he74 hH67
      rintro q a75 w75 ⟨k, rfl, hk, he75, hH75, hD⟩
      by_cases hkn : k < R.L.length
      · skip
        refine wp_seq (wp_region_lit ?_)
        refine lW (.bool true) he75 rfl (rn_lss rfl (he75.op rfl) (he75.op rfl) (decide_eq_true (by omega)) w75) ?_
        intro a76 he76
        clear he75 a75
        refine wpList_nil (then_ok ?_)
        refine wp_seq ?_
        refine wp_cond_true (he76.op rfl) ?_
        refine wp_skip ?_
        refine then_ok ?_
        obtain ⟨m, hLk⟩ : ∃ m, R.L[k]? = some m := ⟨_, List.getElem?_eq_getElem (by omega)⟩
        obtain ⟨x, hX⟩ : ∃ m, ys[k]? = some m := ⟨_, List.getElem?_eq_getElem (by omega)⟩
        have hml := hbig m (List.mem_of_getElem? hLk)
        have ed1 : ys.drop k = x :: ys.drop (k + 1) := by obtain ⟨h1, h2⟩ := List.getElem?_eq_some_iff.1 hX; rw [List.drop_eq_getElem_cons h1, h2]
        have ed2 : R.L.drop k = m :: R.L.drop (k + 1) := by obtain ⟨h1, h2⟩ := List.getElem?_eq_some_iff.1 hLk; rw [List.drop_eq_getElem_cons h1, h2]
        rw [ed1, ed2] at hD
        replace hD := hD.pick 1 rfl
        replace hD := Dt.front (A := [elsD (x :: ys.drop (k + 1)) (m :: R.L.drop (k + 1))]) (B := [cellsD x.v m.1, elsD (ys.drop (k + 1)) (R.L.drop (k + 1))]) (D := [rowD (.slice A2 R.L.length c2) ys]) hD (fun G h => (els_head h.the).2)
        have hxg := cells_sl (hD.get (i := 0) rfl).choose_spec
        obtain ⟨Ax, cx, hxe⟩ := hxg.shape
        clear hxg
        obtain ⟨xa_, xn, xc, xz⟩ := x
        simp only [Value.slice.injEq] at hxe
        obtain ⟨rfl, rfl, rfl⟩ := hxe
        obtain ⟨by_, hrd, -, -, -⟩ := (show OwnO rL _ _ _ _ from (hD.get (i := 2) rfl).choose_spec).rdg
        obtain ⟨oy, eA⟩ := hrd.base (by omega)
        subst eA
        refine wp_seq ?_
        refine wp_block ?_
        refine wp_seq (wp_region_lit ?_)
        refine lW (.int .i64 k) he76 rfl (rn_mv rfl (he76.op rfl) w75) ?_
        intro a77 he77
        clear he76 a76
        refine lW (.int .i64 k) he77 rfl (rn_asg rfl (he77.op rfl) w75) ?_
        intro a78 he78
        clear he77 a77
        refine wpList_nil (then_ok ?_)
        refine wp_region_lit ?_
        refine lW (.slice (some ⟨by_, oy, none⟩) R.L.length c2) he78 rfl (rn_mv rfl (he78.op rfl) w75) ?_
        intro a79 he79
        clear he78 a78
        refine lW (.int .i64 k) he79 rfl (rn_mv rfl (he79.op rfl) w75) ?_
        intro a80 he80
        clear he79 a79
        refine lW (.pointer (some ⟨by_, oy + k * 2, none⟩)) he80 rfl (rn_idxL (i := k) rfl (he80.op rfl) (he80.op rfl) (by omega) (by rw [addr_add]) w75) ?_
        intro a81 he81
        clear he80 a80
        refine lW (.pointer (some ⟨by_, oy + k * 2 + 0, none⟩)) he81 rfl (rn_faL0 rfl (he81.op rfl) rfl w75) ?_
        intro a82 he82
        clear he81 a81
        refine lW (.slice xa_ m.1.length xc) he82 rfl (rn_ldLn0 (i := k) rfl (he82.op rfl) hrd rfl hX) ?_
        intro a83 he83
        clear he82 a82
        obtain ⟨F_, hsep, hF, hstep⟩ := Dt.step (A := [cellsD (.slice xa_ m.1.length xc) m.1]) (D := [elsD (ys.drop (k + 1)) (R.L.drop (k + 1)), rowD (.slice (some ⟨by_, oy, none⟩) R.L.length c2) ys]) hD
        refine lCx he83 rfl rfl Tryd.func37 (by kernel_rfl) rfl rfl (wanted_plain rfl _) rfl (stain_d hsep.the (by omega)) ?_
        rintro _ w84 ⟨rfl, ht⟩
        obtain ⟨hD2, hHs⟩ := hstep _ _ ht
        have hH84 := hHs _ rfl hH75
        clear hHs hstep hsep hF
        replace hD := hD2
        clear hD2 ht
        refine ⟨_, rfl, ?_⟩
        intro a85 he85
        clear he83 a83 hH75
        refine wpList_nil ?_
        refine block_ok ?_
        refine then_ok ?_
        refine wp_region_lit ?_
        refine lW (.int .i64 ((k + 1 : Nat) : Int)) he85 rfl (rn_add1 rfl (he85.op rfl) (he85.op rfl) (by rw [IntWalk.i64_in _ ⟨by omega, by omega⟩]; omega) w84) ?_
        intro a86 he86
        clear he85 a85
        refine lW (.int .i64 ((k + 1 : Nat) : Int)) he86 rfl (rn_mv rfl (he86.op rfl) w84) ?_
        intro a87 he87
        clear he86 a86
        refine wpList_nil (then_ok ?_)
        replace hD := hD.pick 1 rfl
        exact ⟨R.L.length - (k + 1), by omega, k + 1, rfl, by omega, he87.mem ⟨rfl, rfl, rfl, rfl, rfl, trivial⟩, hH84, hD⟩
      refine wp_seq (wp_region_lit ?_)
      refine lW (.bool false) he75 rfl (rn_lss rfl (he75.op rfl) (he75.op rfl) (decide_eq_false (by omega)) w75) ?_
      intro a88 he88
      clear he75 a75
      refine wpList_nil (then_ok ?_)
      refine wp_seq ?_
      refine wp_cond_false (he88.op rfl) ?_
      refine wp_exit ?_
      simp only [Exit.then, Exit.inBlock, if_true]
      have he89 : Env 81 [(0, .pointer (some ⟨p, 0, none⟩)), (3, .pointer (some ⟨p1, 0, none⟩))] a88 := he88.mem ⟨rfl, rfl, trivial⟩
      clear he88
      as_aux_lemma =>
        replace hD := hD.drop.drop
        refine wp_seq ?_
        refine wp_region_held_drew (S := Hp w [⟨p1, 33, #[.int .i64 R.mo, .int .i64 R.pl, .int .i64 R.fi, .slice A R.L.length c, .slice B (pgI R.P).length d]⟩]) (by kernel_rfl) (hH75.drew) (fun _ => ?_)
        have hn : New w75 (World.drew w75) := (Fr.refl _ _).drew
        replace hD := (hD).new hn
        clear hn
        have hH90 := hH75.drew
        clear hH75
        generalize World.drew w75 = w90 at *
        refine hW (fuel := 8) (i := 0) (.pointer (some ⟨p, 0, none⟩)) he89 rfl (by kernel_rfl) (fun _ _ _ h => h) (fun w' _ => rn_mv rfl (he89.op rfl) w') hH90 ?_
        intro a91 he91
        clear he89 a88
        refine hW (fuel := 7) (i := 1) (.pointer (some ⟨p1, 2, none⟩)) he91 rfl (by kernel_rfl) (fun _ _ _ h => h) (fun w' _ => rn_faQ2 rfl (he91.op rfl) rfl w') hH90 ?_
        intro a92 he92
        clear he91 a91
        refine hW (fuel := 6) (i := 2) (.int .i64 R.fi) he92 rfl (by kernel_rfl) (fun _ _ _ h => h) (fun w' hw' => rn_ld1 rfl (he92.op rfl) Tryd.underlying3 (hw'.at (i := 0) rfl) rfl) hH90 ?_
        intro a93 he93
        clear he92 a92
        refine hW (fuel := 5) (i := 3) (.agg #[.int .i64 R.mo, .int .i64 R.pl, .int .i64 R.fi, .slice A R.L.length c, .slice B (pgI R.P).length d]) he93 rfl (by kernel_rfl) (fun _ _ _ h => h) (fun w' hw' => rn_ldp _ rfl (he93.op rfl) undQ rfl infoQ5 (hw'.at (i := 0) rfl) rfl) hH90 ?_
        intro a94 he94
        clear he93 a93
        refine hW (fuel := 4) (i := 5) (.pointer (some ⟨p1, 3, none⟩)) he94 rfl (by kernel_rfl) (fun _ _ _ h => h) (fun w' _ => rn_faQ3 rfl (he94.op rfl) rfl w') hH90 ?_
        intro a95 he95
        clear he94 a94
        refine hW (fuel := 3) (i := 6) (.slice A R.L.length c) he95 rfl (by kernel_rfl) (fun _ _ _ h => h) (fun w' hw' => rn_ldLs rfl (he95.op rfl) (hw'.at (i := 0) rfl) rfl) hH90 ?_
        intro a96 he96
        clear he95 a95
        refine hC (fuel := 2) (i := 4) he96 (by kernel_rfl) rfl rfl rfl Tryd.func36 (by kernel_rfl) rfl rfl (wanted_plain rfl _) rfl (qNext _ _ _ (R.nx : Int) _ _ _ _ _ _ w90 (by rw [hnn]; omega) (by omega) (by omega)) ?_
        rintro _ w97 ⟨rfl, hn⟩
        have hH97 := hH90.call hn
        replace hD := (hD).new hn
        refine ⟨_, rfl, hH97, ?_⟩
        intro a98 he98
        clear he96 a96 hH90 hn
        refine hC (fuel := 1) (i := 7) he98 (by kernel_rfl) rfl rfl rfl Tryd.func16 (by kernel_rfl) rfl rfl (wanted_plain rfl _) rfl (ranges_b p R R.fi R.nx _ R.L 0 F w97 ((ringD _ _).fr hs hD.fr (fun _ _ h => h)) (by omega) (rangeE_all R) (rangeL_all R) (hr0.new hH97.new) hD.tab) ?_
        rintro _ w99 ⟨rfl, hn⟩
        have hH99 := hH97.call hn
        replace hD := (hD).new hn
        refine ⟨_, rfl, hH99, ?_⟩
        intro a100 he100
        clear he98 a98 hH97 hn
        refine hW (fuel := 0) (i := 8) (.bool true) he100 rfl (by kernel_rfl) (fun _ _ _ h => h) (fun w' _ => rn_asg rfl (he100.op rfl) w') hH99 ?_
        intro a101 he101
        clear he100 a100
        refine wpAnyH_done (by kernel_rfl) ?_ _
        refine then_ok ?_
        refine wp_ret ?_
        try simp only [Exit.then, Exit.inBlock]
        exact ret_env rfl he101 rfl ⟨rfl, hD.fr⟩
end Go.Proofs.YtlpjhaghphmbeaaDoor
