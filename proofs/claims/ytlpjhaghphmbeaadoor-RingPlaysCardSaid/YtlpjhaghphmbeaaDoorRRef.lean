/-
  The specification's rings.
-/
import Derived.Test.YtlpjhaghphmbeaaDoorRPgs
import Derived.Test.YtlpjhaghphmbeaaDoorRRingC
namespace Go.Proofs.YtlpjhaghphmbeaaDoor
open Go.RowKit

set_option linter.unusedSimpArgs false in
set_option maxRecDepth 100000 in
set_option maxHeartbeats 1600000 in
theorem qNext (mo pl fi k : Int) (A B : Option Addr) (n c n8 d : Nat) (w : World) (hk : fi + n = k) (h0 : 0 ≤ fi) (h1 : k ≤ 4000000000) : Calls Tryd.prog 36 #[.agg #[.int .i64 mo, .int .i64 pl, .int .i64 fi, .slice A n c, .slice B n8 d]] w fun e w' => e = .returned (.int .i64 k) ∧ New w w' := by
  refine calls_args (vl := [.agg #[.int .i64 mo, .int .i64 pl, .int .i64 fi, .slice A n c, .slice B n8 d]]) 9 Tryd.func36 rfl Tryd.ntmps36 (by kernel_rfl) (fun a he => ?_)
  have he0 : Env 9 [(0, .agg #[.int .i64 mo, .int .i64 pl, .int .i64 fi, .slice A n c, .slice B n8 d])] a := he
  clear he
  have hH := Hp.start w
  refine wp_seq (wp_region_lit ?_)
  refine lNewP (fun p => .pointer (some ⟨p, 0, none⟩)) he0 hH rfl rfl (wanted_plain rfl _) (rn_boxQ rfl (he0.op rfl) w) ?_
  intro p1 w1 a2 hp hn hH1 he2
  clear he0 a hH hn hp
  refine lW (.int .i64 0) he2 rfl (rn_asg rfl (he2.op rfl) w1) ?_
  intro a3 he3
  clear he2 a2
  refine wpList_nil (then_ok ?_)
  refine wp_seq (wp_region_lit ?_)
  refine lW (.pointer (some ⟨p1, 2, none⟩)) he3 rfl (rn_faQ2 rfl (he3.op rfl) rfl w1) ?_
  intro a4 he4
  clear he3 a3
  refine lW (.int .i64 fi) he4 rfl (rn_ld1 rfl (he4.op rfl) Tryd.underlying3 (hH1.at (i := 0) rfl) rfl) ?_
  intro a5 he5
  clear he4 a4
  refine lW (.pointer (some ⟨p1, 3, none⟩)) he5 rfl (rn_faQ3 rfl (he5.op rfl) rfl w1) ?_
  intro a6 he6
  clear he5 a5
  refine lW (.slice A n c) he6 rfl (rn_ldLs rfl (he6.op rfl) (hH1.at (i := 0) rfl) rfl) ?_
  intro a7 he7
  clear he6 a6
  refine lW (.int .i64 n) he7 rfl (rn_lenL rfl (he7.op rfl) w1) ?_
  intro a8 he8
  clear he7 a7
  refine lW (.int .i64 k) he8 rfl (rn_add1 rfl (he8.op rfl) (he8.op rfl) (by rw [IntWalk.i64_in _ ⟨by omega, by omega⟩]; omega) w1) ?_
  intro a9 he9
  clear he8 a8
  refine lW (.int .i64 k) he9 rfl (rn_asg rfl (he9.op rfl) w1) ?_
  intro a10 he10
  clear he9 a9
  refine wpList_nil (then_ok ?_)
  refine wp_ret ?_
  try simp only [Exit.then, Exit.inBlock]
  exact ret_env rfl he10 rfl ⟨rfl, hH1.new⟩
set_option linter.unusedSimpArgs false in
set_option maxRecDepth 100000 in
set_option maxHeartbeats 1600000 in
theorem qAt (R : RS) (A B : Option Addr) (c n8 d : Nat) (i : Int) (w : World) (hn8 : R.nx ≤ bigN) : Calls Tryd.prog 43 #[.agg #[.int .i64 R.mo, .int .i64 R.pl, .int .i64 R.fi, .slice A R.L.length c, .slice B n8 d], .int .i64 i] w fun e w' => e = .returned (.int .i64 (missR R i)) ∧ New w w' := by
  have hnb : bigN = 1000000000 := rfl
  have hnn : R.nx = R.fi + R.L.length := rfl
  refine calls_args (vl := [.agg #[.int .i64 R.mo, .int .i64 R.pl, .int .i64 R.fi, .slice A R.L.length c, .slice B n8 d], .int .i64 i]) 19 Tryd.func43 rfl Tryd.ntmps43 (by kernel_rfl) (fun a he => ?_)
  have he0 : Env 19 [(0, .agg #[.int .i64 R.mo, .int .i64 R.pl, .int .i64 R.fi, .slice A R.L.length c, .slice B n8 d]), (1, .int .i64 i)] a := he
  clear he
  have hH := Hp.start w
  refine wp_seq (wp_region_lit ?_)
  refine lNewP (fun p => .pointer (some ⟨p, 0, none⟩)) he0 hH rfl rfl (wanted_plain rfl _) (rn_boxQ rfl (he0.op rfl) w) ?_
  intro p1 w1 a2 hp hn hH1 he2
  clear he0 a hH hn hp
  refine lW (.int .i64 0) he2 rfl (rn_asg rfl (he2.op rfl) w1) ?_
  intro a3 he3
  clear he2 a2
  refine wpList_nil (then_ok ?_)
  refine wp_seq ?_
  refine wp_block ?_
  by_cases h0 : i < 0
  · skip
    refine wp_seq (wp_region_lit ?_)
    refine lW (.int .i64 i) he3 rfl (rn_mv rfl (he3.op rfl) w1) ?_
    intro a4 he4
    clear he3 a3
    refine lW (.bool true) he4 rfl (rn_lss rfl (he4.op rfl) (he4.op rfl) (decide_eq_true h0) w1) ?_
    intro a5 he5
    clear he4 a4
    refine lW (.bool true) he5 rfl (rn_mv rfl (he5.op rfl) w1) ?_
    intro a6 he6
    clear he5 a5
    refine lSkip he6 rfl rfl (he6.wantNot rfl rfl rfl rfl rfl rfl) ?_
    intro a7 he7
    clear he6 a6
    refine lSkip he7 rfl rfl (he7.wantNot rfl rfl rfl rfl rfl rfl) ?_
    intro a8 he8
    clear he7 a7
    refine lSkip he8 rfl rfl (he8.wantNot rfl rfl rfl rfl rfl rfl) ?_
    intro a9 he9
    clear he8 a8
    refine lSkip he9 rfl rfl (he9.wantNot rfl rfl rfl rfl rfl rfl) ?_
    intro a10 he10
    clear he9 a9
    refine lW (.bool true) he10 rfl (rn_pk rfl (he10.op rfl) (he10.op rfl) w1) ?_
    intro a11 he11
    clear he10 a10
    refine lW (.bool true) he11 rfl (rn_asg rfl (he11.op rfl) w1) ?_
    intro a12 he12
    clear he11 a11
    refine wpList_nil (then_ok ?_)
    refine wp_cond_true (he12.op rfl) ?_
    refine wp_seq (wp_region_lit ?_)
    refine lW (.int .i64 3) he12 rfl (rn_asg rfl (he12.op rfl) w1) ?_
    intro a13 he13
    clear he12 a12
    refine wpList_nil (then_ok ?_)
    have e_ : missR R i = 3 := if_pos (.inl h0)
    rw [e_]
    refine wp_ret ?_
    try simp only [Exit.then, Exit.inBlock]
    exact ret_env rfl he13 rfl ⟨rfl, hH1.new⟩
  by_cases h1 : (R.nx : Int) ≤ i
  · skip
    refine wp_seq (wp_region_lit ?_)
    refine lW (.int .i64 i) he3 rfl (rn_mv rfl (he3.op rfl) w1) ?_
    intro a14 he14
    clear he3 a3
    refine lW (.bool false) he14 rfl (rn_lss rfl (he14.op rfl) (he14.op rfl) (decide_eq_false h0) w1) ?_
    intro a15 he15
    clear he14 a14
    refine lW (.bool false) he15 rfl (rn_mv rfl (he15.op rfl) w1) ?_
    intro a16 he16
    clear he15 a15
    refine lV (.int .i64 i) he16 rfl rfl (he16.want rfl rfl rfl rfl rfl) (rn_mv rfl (he16.op rfl) w1) ?_
    intro a17 he17
    clear he16 a16
    refine lV (.agg #[.int .i64 R.mo, .int .i64 R.pl, .int .i64 R.fi, .slice A R.L.length c, .slice B n8 d]) he17 rfl rfl (he17.want rfl rfl rfl rfl rfl) (rn_ldp _ rfl (he17.op rfl) undQ rfl infoQ5 (hH1.at (i := 0) rfl) rfl) ?_
    intro a18 he18
    clear he17 a17
    refine lC he18 rfl rfl Tryd.func36 (by kernel_rfl) rfl rfl (he18.want rfl rfl rfl rfl rfl) rfl (qNext _ _ _ (R.nx : Int) _ _ _ _ _ _ w1 (by rw [hnn]; omega) (by omega) (by omega)) ?_
    intro w19 a20 hn he20
    have hH19 := hH1.call hn
    clear he18 a18 hH1 hn
    refine lV (.bool true) he20 rfl rfl (he20.want rfl rfl rfl rfl rfl) (rn_geq rfl (he20.op rfl) (he20.op rfl) (decide_eq_true h1) w19) ?_
    intro a21 he21
    clear he20 a20
    refine lW (.bool true) he21 rfl (rn_pk0 rfl (he21.op rfl) (he21.op rfl) w19) ?_
    intro a22 he22
    clear he21 a21
    refine lW (.bool true) he22 rfl (rn_asg rfl (he22.op rfl) w19) ?_
    intro a23 he23
    clear he22 a22
    refine wpList_nil (then_ok ?_)
    refine wp_cond_true (he23.op rfl) ?_
    refine wp_seq (wp_region_lit ?_)
    refine lW (.int .i64 3) he23 rfl (rn_asg rfl (he23.op rfl) w19) ?_
    intro a24 he24
    clear he23 a23
    refine wpList_nil (then_ok ?_)
    have e_ : missR R i = 3 := if_pos (.inr h1)
    rw [e_]
    refine wp_ret ?_
    try simp only [Exit.then, Exit.inBlock]
    exact ret_env rfl he24 rfl ⟨rfl, hH19.new⟩
  refine wp_seq (wp_region_lit ?_)
  refine lW (.int .i64 i) he3 rfl (rn_mv rfl (he3.op rfl) w1) ?_
  intro a25 he25
  clear he3 a3
  refine lW (.bool false) he25 rfl (rn_lss rfl (he25.op rfl) (he25.op rfl) (decide_eq_false h0) w1) ?_
  intro a26 he26
  clear he25 a25
  refine lW (.bool false) he26 rfl (rn_mv rfl (he26.op rfl) w1) ?_
  intro a27 he27
  clear he26 a26
  refine lV (.int .i64 i) he27 rfl rfl (he27.want rfl rfl rfl rfl rfl) (rn_mv rfl (he27.op rfl) w1) ?_
  intro a28 he28
  clear he27 a27
  refine lV (.agg #[.int .i64 R.mo, .int .i64 R.pl, .int .i64 R.fi, .slice A R.L.length c, .slice B n8 d]) he28 rfl rfl (he28.want rfl rfl rfl rfl rfl) (rn_ldp _ rfl (he28.op rfl) undQ rfl infoQ5 (hH1.at (i := 0) rfl) rfl) ?_
  intro a29 he29
  clear he28 a28
  refine lC he29 rfl rfl Tryd.func36 (by kernel_rfl) rfl rfl (he29.want rfl rfl rfl rfl rfl) rfl (qNext _ _ _ (R.nx : Int) _ _ _ _ _ _ w1 (by rw [hnn]; omega) (by omega) (by omega)) ?_
  intro w30 a31 hn he31
  have hH30 := hH1.call hn
  clear he29 a29 hH1 hn
  refine lV (.bool false) he31 rfl rfl (he31.want rfl rfl rfl rfl rfl) (rn_geq rfl (he31.op rfl) (he31.op rfl) (decide_eq_false h1) w30) ?_
  intro a32 he32
  clear he31 a31
  refine lW (.bool false) he32 rfl (rn_pk0 rfl (he32.op rfl) (he32.op rfl) w30) ?_
  intro a33 he33
  clear he32 a32
  refine lW (.bool false) he33 rfl (rn_asg rfl (he33.op rfl) w30) ?_
  intro a34 he34
  clear he33 a33
  refine wpList_nil (then_ok ?_)
  refine wp_cond_false (he34.op rfl) ?_
  by_cases h2 : i < (R.fi : Int)
  · skip
    refine wp_seq (wp_region_lit ?_)
    refine lW (.int .i64 i) he34 rfl (rn_mv rfl (he34.op rfl) w30) ?_
    intro a35 he35
    clear he34 a34
    refine lW (.pointer (some ⟨p1, 2, none⟩)) he35 rfl (rn_faQ2 rfl (he35.op rfl) rfl w30) ?_
    intro a36 he36
    clear he35 a35
    refine lW (.int .i64 R.fi) he36 rfl (rn_ld1 rfl (he36.op rfl) Tryd.underlying3 (hH30.at (i := 0) rfl) rfl) ?_
    intro a37 he37
    clear he36 a36
    refine lW (.bool true) he37 rfl (rn_lss rfl (he37.op rfl) (he37.op rfl) (decide_eq_true h2) w30) ?_
    intro a38 he38
    clear he37 a37
    refine lW (.bool true) he38 rfl (rn_asg rfl (he38.op rfl) w30) ?_
    intro a39 he39
    clear he38 a38
    refine wpList_nil (then_ok ?_)
    refine wp_cond_true (he39.op rfl) ?_
    have e_ : missR R i = 14 := by unfold missR; rw [if_neg (by omega), if_pos h2]
    rw [e_]
    refine wp_seq (wp_region_lit ?_)
    refine lW (.int .i64 14) he39 rfl (rn_asg rfl (he39.op rfl) w30) ?_
    intro a40 he40
    clear he39 a39
    refine wpList_nil (then_ok ?_)
    refine wp_ret ?_
    try simp only [Exit.then, Exit.inBlock]
    exact ret_env rfl he40 rfl ⟨rfl, hH30.new⟩
  refine wp_seq (wp_region_lit ?_)
  refine lW (.int .i64 i) he34 rfl (rn_mv rfl (he34.op rfl) w30) ?_
  intro a41 he41
  clear he34 a34
  refine lW (.pointer (some ⟨p1, 2, none⟩)) he41 rfl (rn_faQ2 rfl (he41.op rfl) rfl w30) ?_
  intro a42 he42
  clear he41 a41
  refine lW (.int .i64 R.fi) he42 rfl (rn_ld1 rfl (he42.op rfl) Tryd.underlying3 (hH30.at (i := 0) rfl) rfl) ?_
  intro a43 he43
  clear he42 a42
  refine lW (.bool false) he43 rfl (rn_lss rfl (he43.op rfl) (he43.op rfl) (decide_eq_false h2) w30) ?_
  intro a44 he44
  clear he43 a43
  refine lW (.bool false) he44 rfl (rn_asg rfl (he44.op rfl) w30) ?_
  intro a45 he45
  clear he44 a44
  refine wpList_nil (then_ok ?_)
  refine wp_cond_false (he45.op rfl) ?_
  have e_ : missR R i = 0 := by unfold missR; rw [if_neg (by omega), if_neg h2]
  rw [e_]
  refine wp_skip ?_
  refine block_ok ?_
  refine then_ok ?_
  refine wp_seq (wp_region_lit ?_)
  refine lW (.int .i64 0) he45 rfl (rn_asg rfl (he45.op rfl) w30) ?_
  intro a46 he46
  clear he45 a45
  refine wpList_nil (then_ok ?_)
  refine wp_ret ?_
  try simp only [Exit.then, Exit.inBlock]
  exact ret_env rfl he46 rfl ⟨rfl, hH30.new⟩
set_option linter.unusedSimpArgs false in
set_option maxRecDepth 100000 in
set_option maxHeartbeats 1600000 in
theorem qCopy (F : FP) (R : RS) (A B : Option Addr) (c d : Nat)  (w : World) (hr : SepL [rdD (.slice A R.L.length c) R.L, rowG (.slice B (pgI R.P).length d) (pgI R.P)] w F) (hsm : R.L.length ≤ 1001) (hPl : R.P.length ≤ 1001) (hF : ∀ k, F k → 2 ≤ k ∧ k < w.heap.size) (hT : Tab w) : Calls Tryd.prog 60 #[.agg #[.int .i64 R.mo, .int .i64 R.pl, .int .i64 R.fi, .slice A R.L.length c, .slice B (pgI R.P).length d]] w fun e w' => ∃ A' c' B' d' xs, e = .returned (.agg #[.int .i64 R.mo, .int .i64 R.pl, .int .i64 R.fi, .slice A' R.L.length c', .slice B' (pgI R.P).length d']) ∧ xs.length = R.L.length ∧ Turned [rowD (.slice A' R.L.length c') xs, rdX xs R.L, rowG (.slice B' (pgI R.P).length d') (pgI R.P)] F w w' := by
  have hGl := pgI_len R.P
  refine calls_args (vl := [.agg #[.int .i64 R.mo, .int .i64 R.pl, .int .i64 R.fi, .slice A R.L.length c, .slice B (pgI R.P).length d]]) 12 Tryd.func60 rfl Tryd.ntmps60 (by kernel_rfl) (fun a he => ?_)
  have he0 : Env 12 [(0, .agg #[.int .i64 R.mo, .int .i64 R.pl, .int .i64 R.fi, .slice A R.L.length c, .slice B (pgI R.P).length d])] a := he
  clear he
  have hH := Hp.bare w
  have hD := Dt.begin hT hr hF
  refine wp_seq (wp_region_lit ?_)
  refine lNewP (fun p => .pointer (some ⟨p, 0, none⟩)) he0 hH rfl rfl (wanted_plain rfl _) (rn_boxQ rfl (he0.op rfl) w) ?_
  intro p1 w1 a2 hp hn hH1 he2
  replace hD := hD.cons hn hp (hH1.at (i := 0) rfl).lt
  clear he0 a hH hn hp
  refine lNewP (fun p => .pointer (some ⟨p, 0, none⟩)) he2 hH1 rfl rfl (wanted_plain rfl _) (rn_allocQ rfl w1) ?_
  intro p3 w3 a4 hp hn hH3 he4
  replace hD := hD.cons hn hp (hH3.at (i := 0) rfl).lt
  clear he2 a2 hH1 hn hp
  refine wpList_nil (then_ok ?_)
  obtain ⟨b2, xs, hlc, hrd, hD3⟩ := hD.rdS
  clear hD
  have hD := hD3
  clear hD3
  have hxl : xs.length = R.L.length := hrd.1
  refine wp_seq (wp_region_lit ?_)
  refine lW (.pointer (some ⟨p1, 3, none⟩)) he4 rfl (rn_faQ3 rfl (he4.op rfl) rfl w3) ?_
  intro a5 he5
  clear he4 a4
  refine lW (.slice A R.L.length c) he5 rfl (rn_ldLs rfl (he5.op rfl) (hH3.at (i := 1) rfl) rfl) ?_
  intro a6 he6
  clear he5 a5
  refine lEx he6 rfl rfl (wanted_plain rfl _) (rg_app0 hrd (by omega) rfl (fun _ => rfl) (he6.op rfl)) ?_
  rintro _ w7 ⟨A1, c1, rfl, ht⟩
  have hD2 := hD.made ht
  have hH7 := hH3.call ht.new
  replace hrd := hrd.new ht.new
  replace hD := hD2
  clear hD2 ht
  intro a8 he8
  clear he6 a6 hH3
  clear hrd
  refine lW (.pointer (some ⟨p1, 3, none⟩)) he8 rfl (rn_faQ3 rfl (he8.op rfl) rfl w7) ?_
  intro a9 he9
  clear he8 a8
  refine lSetF 1 #[.slice A1 xs.length c1] (cs := #[.int .i64 R.mo, .int .i64 R.pl, .int .i64 R.fi, .slice A1 xs.length c1, .slice B (pgI R.P).length d]) he9 hH7 rfl (wanted_plain rfl _) rfl rfl rfl rfl rfl (by kernel_rfl) (by kernel_rfl) (by kernel_rfl) rfl ?_
  intro w10 a11 hH10 hf he11
  replace hD := hD.setb (i := 1) rfl rfl hf
  replace hH10 : Hp (bare w) [⟨p3, 33, #[.int .i64 0, .int .i64 0, .int .i64 0, .slice none 0 0, .slice none 0 0]⟩, ⟨p1, 33, #[.int .i64 R.mo, .int .i64 R.pl, .int .i64 R.fi, .slice A1 xs.length c1, .slice B (pgI R.P).length d]⟩] w10 := hH10
  clear hf
  clear he9 a9 hH7
  refine wpList_nil (then_ok ?_)
  obtain ⟨b3, hrg, -, -⟩ := hD.rdG (i := 2) rfl
  refine wp_seq (wp_region_lit ?_)
  refine lW (.pointer (some ⟨p1, 4, none⟩)) he11 rfl (rn_faQ4 rfl (he11.op rfl) rfl w10) ?_
  intro a12 he12
  clear he11 a11
  refine lW (.slice B (pgI R.P).length d) he12 rfl (rn_ldDs rfl (he12.op rfl) (hH10.at (i := 1) rfl) rfl) ?_
  intro a13 he13
  clear he12 a12
  refine lEx he13 rfl rfl (wanted_plain rfl _) (pg_app0 hrg (by omega) rfl (fun _ => rfl) (he13.op rfl)) ?_
  rintro _ w14 ⟨B1, d1, rfl, ht⟩
  have hD2 := hD.made ht
  have hH14 := hH10.call ht.new
  replace hrg := hrg.new ht.new
  replace hD := hD2
  clear hD2 ht
  intro a15 he15
  clear he13 a13 hH10
  clear hrg
  refine lW (.pointer (some ⟨p1, 4, none⟩)) he15 rfl (rn_faQ4 rfl (he15.op rfl) rfl w14) ?_
  intro a16 he16
  clear he15 a15
  refine lSetF 1 #[.slice B1 (pgI R.P).length d1] (cs := #[.int .i64 R.mo, .int .i64 R.pl, .int .i64 R.fi, .slice A1 xs.length c1, .slice B1 (pgI R.P).length d1]) he16 hH14 rfl (wanted_plain rfl _) rfl rfl rfl rfl rfl (by kernel_rfl) (by kernel_rfl) (by kernel_rfl) rfl ?_
  intro w17 a18 hH17 hf he18
  replace hD := hD.setb (i := 1) rfl rfl hf
  replace hH17 : Hp (bare w) [⟨p3, 33, #[.int .i64 0, .int .i64 0, .int .i64 0, .slice none 0 0, .slice none 0 0]⟩, ⟨p1, 33, #[.int .i64 R.mo, .int .i64 R.pl, .int .i64 R.fi, .slice A1 xs.length c1, .slice B1 (pgI R.P).length d1]⟩] w17 := hH17
  clear hf
  clear he16 a16 hH14
  refine wpList_nil (then_ok ?_)
  refine wp_seq (wp_region_lit ?_)
  refine lW (.agg #[.int .i64 R.mo, .int .i64 R.pl, .int .i64 R.fi, .slice A1 xs.length c1, .slice B1 (pgI R.P).length d1]) he18 rfl (rn_ldp _ rfl (he18.op rfl) undQ rfl infoQ5 (hH17.at (i := 1) rfl) rfl) ?_
  intro a19 he19
  clear he18 a18
  refine lSetF 0 #[.int .i64 R.mo, .int .i64 R.pl, .int .i64 R.fi, .slice A1 xs.length c1, .slice B1 (pgI R.P).length d1] (cs := #[.int .i64 R.mo, .int .i64 R.pl, .int .i64 R.fi, .slice A1 xs.length c1, .slice B1 (pgI R.P).length d1]) he19 hH17 rfl (wanted_plain rfl _) rfl rfl rfl rfl rfl (by kernel_rfl) (by kernel_rfl) (by kernel_rfl) rfl ?_
  intro w20 a21 hH20 hf he21
  replace hD := hD.setb (i := 0) rfl rfl hf
  replace hH20 : Hp (bare w) [⟨p3, 33, #[.int .i64 R.mo, .int .i64 R.pl, .int .i64 R.fi, .slice A1 xs.length c1, .slice B1 (pgI R.P).length d1]⟩, ⟨p1, 33, #[.int .i64 R.mo, .int .i64 R.pl, .int .i64 R.fi, .slice A1 xs.length c1, .slice B1 (pgI R.P).length d1]⟩] w20 := hH20
  clear hf
  clear he19 a19 hH17
  refine wpList_nil (then_ok ?_)
  replace hD := hD.pick 2 rfl
  replace hD := hD.pick 2 rfl
  replace hD := hD.pick 2 rfl
  replace hD := hD.pick 3 rfl
  replace hD := hD.drop
  replace hD := hD.pick 2 rfl
  replace hD := hD.pick 2 rfl
  have hBe := hH20.at (i := 0) rfl
  simp only at hBe
  rw [hxl] at hBe hD
  refine wp_ret ?_
  try simp only [Exit.then, Exit.inBlock, Exit.noGoto]
  exact ret_row rfl he21 rfl hBe undQ rfl infoQ5 ⟨A1, c1, B1, d1, xs, rfl, hxl, hD.turned⟩
set_option linter.unusedSimpArgs false in
set_option maxRecDepth 100000 in
set_option maxHeartbeats 1600000 in
theorem qEvict (F : FP) (R : RS) (A B : Option Addr) (c d : Nat)  (w : World) (hr : SepL [rdD (.slice A R.L.length c) R.L, rowG (.slice B (pgI R.P).length d) (pgI R.P)] w F) (hsm : R.L.length ≤ 1001) (h1 : 1 ≤ R.pl) (h2 : R.pl ≤ 1024) (hpg : PgOk R.pl R.P) (hnx : R.nx ≤ 4000000000) (hF : ∀ k, F k → 2 ≤ k ∧ k < w.heap.size) (hT : Tab w) : Calls Tryd.prog 61 #[.agg #[.int .i64 R.mo, .int .i64 R.pl, .int .i64 R.fi, .slice A R.L.length c, .slice B (pgI R.P).length d]] w fun e w' => ∃ A' c' B' d', e = .returned (.agg #[.int .i64 ((evR R).mo : Int), .int .i64 ((evR R).pl : Int), .int .i64 ((evR R).fi : Int), .slice A' (evR R).L.length c', .slice B' (pgI (evR R).P).length d']) ∧ Turned [rdD (.slice A' (evR R).L.length c') (evR R).L, rowG (.slice B' (pgI (evR R).P).length d') (pgI (evR R).P)] F w w' := by
  have hPl : R.P.length ≤ 1001 := by have h1 := hpg.len_le; have h2 : (flatP R.P).length ≤ 1001 := hsm; omega
  refine calls_args (vl := [.agg #[.int .i64 R.mo, .int .i64 R.pl, .int .i64 R.fi, .slice A R.L.length c, .slice B (pgI R.P).length d]]) 46 Tryd.func61 rfl Tryd.ntmps61 (by kernel_rfl) (fun a he => ?_)
  have he0 : Env 46 [(0, .agg #[.int .i64 R.mo, .int .i64 R.pl, .int .i64 R.fi, .slice A R.L.length c, .slice B (pgI R.P).length d])] a := he
  clear he
  have hH := Hp.bare w
  have hD := Dt.begin hT hr hF
  refine wp_seq (wp_region_lit ?_)
  refine lNewP (fun p => .pointer (some ⟨p, 0, none⟩)) he0 hH rfl rfl (wanted_plain rfl _) (rn_boxQ rfl (he0.op rfl) w) ?_
  intro p1 w1 a2 hp hn hH1 he2
  replace hD := hD.cons hn hp (hH1.at (i := 0) rfl).lt
  clear he0 a hH hn hp
  refine lNewP (fun p => .pointer (some ⟨p, 0, none⟩)) he2 hH1 rfl rfl (wanted_plain rfl _) (rn_allocQ rfl w1) ?_
  intro p3 w3 a4 hp hn hH3 he4
  replace hD := hD.cons hn hp (hH3.at (i := 0) rfl).lt
  clear he2 a2 hH1 hn hp
  refine wpList_nil (then_ok ?_)
  refine wp_seq (wp_region_lit ?_)
  refine lW (.agg #[.int .i64 R.mo, .int .i64 R.pl, .int .i64 R.fi, .slice A R.L.length c, .slice B (pgI R.P).length d]) he4 rfl (rn_ldp _ rfl (he4.op rfl) undQ rfl infoQ5 (hH3.at (i := 1) rfl) rfl) ?_
  intro a5 he5
  clear he4 a4
  replace hD := hD.pick 1 rfl
  replace hD := hD.pick 1 rfl
  obtain ⟨F_, hsep, hF, hstep⟩ := Dt.step (A := [rdD (.slice A R.L.length c) R.L, rowG (.slice B (pgI R.P).length d) (pgI R.P)]) (D := []) hD
  refine lCx he5 rfl rfl Tryd.func60 (by kernel_rfl) rfl rfl (wanted_plain rfl _) rfl (qCopy F_ R _ _ _ _ w3 hsep (by omega) (by omega) hF hD.tab) ?_
  rintro _ w6 ⟨A1, c1, B1, d1, xs, rfl, hxl, ht⟩
  obtain ⟨hD2, hHs⟩ := hstep _ _ ht
  have hH6 := hHs _ rfl hH3
  clear hHs hstep hsep hF
  replace hD := hD2
  clear hD2 ht
  refine ⟨_, rfl, ?_⟩
  intro a7 he7
  clear he5 a5 hH3
  refine lSetF 1 #[.int .i64 R.mo, .int .i64 R.pl, .int .i64 R.fi, .slice A1 R.L.length c1, .slice B1 (pgI R.P).length d1] (cs := #[.int .i64 R.mo, .int .i64 R.pl, .int .i64 R.fi, .slice A1 R.L.length c1, .slice B1 (pgI R.P).length d1]) he7 hH6 rfl (wanted_plain rfl _) rfl rfl rfl rfl rfl (by kernel_rfl) (by kernel_rfl) (by kernel_rfl) rfl ?_
  intro w8 a9 hH8 hf he9
  replace hD := hD.setb (i := 1) rfl rfl hf
  replace hH8 : Hp (bare w) [⟨p3, 33, #[.int .i64 0, .int .i64 0, .int .i64 0, .slice none 0 0, .slice none 0 0]⟩, ⟨p1, 33, #[.int .i64 R.mo, .int .i64 R.pl, .int .i64 R.fi, .slice A1 R.L.length c1, .slice B1 (pgI R.P).length d1]⟩] w8 := hH8
  clear hf
  clear he7 a7 hH6
  refine wpList_nil (then_ok ?_)
  replace hD := Dt.front (A := [rowD (.slice A1 R.L.length c1) xs, rdX xs R.L]) (B := [rdD (.slice A1 R.L.length c1) R.L]) (D := [rowG (.slice B1 (pgI R.P).length d1) (pgI R.P)]) hD (fun G h => rd_shut h)
  refine wp_seq ?_
  refine wp_block ?_
  have he10 : Env 46 [(2, .pointer (some ⟨p3, 0, none⟩)), (1, .pointer (some ⟨p1, 0, none⟩))] a9 := he9.mem ⟨rfl, rfl, trivial⟩
  clear he9
  refine loop_nat (fun q a w' => ∃ (T : RS) (A1 B1 : Option Addr) (c1 d1 : Nat), q = T.L.length - R.mo ∧ evR T = evR R ∧ T.pl = R.pl ∧ T.mo = R.mo ∧ PgOk T.pl T.P ∧ T.nx = R.nx ∧ T.L.length ≤ 1001 ∧ Env 46 [(2, .pointer (some ⟨p3, 0, none⟩)), (1, .pointer (some ⟨p1, 0, none⟩))] a ∧ Hp (bare w) [⟨p3, 33, #[.int .i64 0, .int .i64 0, .int .i64 0, .slice none 0 0, .slice none 0 0]⟩, ⟨p1, 33, #[.int .i64 R.mo, .int .i64 R.pl, .int .i64 T.fi, .slice A1 T.L.length c1, .slice B1 (pgI T.P).length d1]⟩] w' ∧ Dt (bare w) w F 0 [p3, p1] [rdD (.slice A1 T.L.length c1) T.L, rowG (.slice B1 (pgI T.P).length d1) (pgI T.P)] w') (R.L.length - R.mo) ⟨R, _, _, _, _, rfl, rfl, rfl, rfl, hpg, rfl, hsm, he10.mem ⟨rfl, rfl, trivial⟩, hH8, hD⟩ ?_
  clear he10 hH8
  rintro q a11 w11 ⟨T, A1, B1, c1, d1, rfl, hev, hpl, hmo, hpT, hnT, hlT, he11, hH11, hD⟩
  have hnt : T.nx = T.fi + T.L.length := rfl
  have hGl := pgI_len T.P
  by_cases hc : R.mo < T.L.length
  · skip
    refine wp_seq ?_
    refine wp_seq (wp_region_lit ?_)
    refine lW (.pointer (some ⟨p1, 3, none⟩)) he11 rfl (rn_faQ3 rfl (he11.op rfl) rfl w11) ?_
    intro a12 he12
    clear he11 a11
    refine lW (.slice A1 T.L.length c1) he12 rfl (rn_ldLs rfl (he12.op rfl) (hH11.at (i := 1) rfl) rfl) ?_
    intro a13 he13
    clear he12 a12
    refine lW (.int .i64 T.L.length) he13 rfl (rn_lenL rfl (he13.op rfl) w11) ?_
    intro a14 he14
    clear he13 a13
    refine lW (.pointer (some ⟨p1, 0, none⟩)) he14 rfl (rn_faQ0 rfl (he14.op rfl) rfl w11) ?_
    intro a15 he15
    clear he14 a14
    refine lW (.int .i64 R.mo) he15 rfl (rn_ld1 rfl (he15.op rfl) Tryd.underlying3 (hH11.at (i := 1) rfl) rfl) ?_
    intro a16 he16
    clear he15 a15
    refine lW (.bool true) he16 rfl (rn_gtr rfl (he16.op rfl) (he16.op rfl) (decide_eq_true (by omega)) w11) ?_
    intro a17 he17
    clear he16 a16
    refine wpList_nil (then_ok ?_)
    refine wp_cond_true (he17.op rfl) ?_
    refine wp_skip ?_
    refine then_ok ?_
    refine wp_block ?_
    have he18 : Env 46 [(2, .pointer (some ⟨p3, 0, none⟩)), (1, .pointer (some ⟨p1, 0, none⟩))] a17 := he17.mem ⟨rfl, rfl, trivial⟩
    clear he17
    as_aux_lemma =>
      obtain ⟨x, Pt, hP⟩ : ∃ x Pt, T.P = x :: Pt := by cases hq_ : T.P with | nil => exact absurd hc (by unfold RS.L; rw [hq_]; simp [flatP]) | cons x Pt => exact ⟨x, Pt, rfl⟩
      have hx := hpT
      rw [hP] at hx
      have hx1 := hx.1
      have hx2 := hx.2.1
      have hpI : pgI T.P = ((x.1 : Int), (x.2.length : Int)) :: pgI Pt := by rw [hP]; rfl
      have hf1 : (ev1 T).L = T.L.drop 1 := dropP_flat hpT
      have hl1 : (ev1 T).L.length = T.L.length - 1 := by rw [hf1, List.length_drop]
      obtain ⟨A2, e2⟩ := slg_cut (A := A1) (n := T.L.length) (k := 1) (c := c1) (by omega)
      rw [← hl1] at e2
      refine wp_seq (wp_region_lit ?_)
      refine lW (.pointer (some ⟨p1, 3, none⟩)) he18 rfl (rn_faQ3 rfl (he18.op rfl) rfl w11) ?_
      intro a19 he19
      clear he18 a17
      refine lW (.slice A1 T.L.length c1) he19 rfl (rn_ldLs rfl (he19.op rfl) (hH11.at (i := 1) rfl) rfl) ?_
      intro a20 he20
      clear he19 a19
      refine lW (.slice A2 (ev1 T).L.length (c1 - 1)) he20 rfl (rg_cutl (R := rL) (k := 1) rfl (he20.op rfl) rfl (by omega) e2 w11) ?_
      intro a21 he21
      clear he20 a20
      refine lW (.pointer (some ⟨p1, 3, none⟩)) he21 rfl (rn_faQ3 rfl (he21.op rfl) rfl w11) ?_
      intro a22 he22
      clear he21 a21
      refine lSetF 1 #[.slice A2 (ev1 T).L.length (c1 - 1)] (cs := #[.int .i64 R.mo, .int .i64 R.pl, .int .i64 T.fi, .slice A2 (ev1 T).L.length (c1 - 1), .slice B1 (pgI T.P).length d1]) he22 hH11 rfl (wanted_plain rfl _) rfl rfl rfl rfl rfl (by kernel_rfl) (by kernel_rfl) (by kernel_rfl) rfl ?_
      intro w23 a24 hH23 hf he24
      replace hD := hD.setb (i := 1) rfl rfl hf
      replace hH23 : Hp (bare w) [⟨p3, 33, #[.int .i64 0, .int .i64 0, .int .i64 0, .slice none 0 0, .slice none 0 0]⟩, ⟨p1, 33, #[.int .i64 R.mo, .int .i64 R.pl, .int .i64 T.fi, .slice A2 (ev1 T).L.length (c1 - 1), .slice B1 (pgI T.P).length d1]⟩] w23 := hH23
      clear hf
      clear he22 a22 hH11
      refine wpList_nil (then_ok ?_)
      replace hD := Dt.front (A := [rdD (.slice A1 T.L.length c1) T.L]) (B := [rdD (.slice A2 (ev1 T).L.length (c1 - 1)) (ev1 T).L]) (D := [rowG (.slice B1 (pgI T.P).length d1) (pgI T.P)]) hD (fun G h => by have h_ := rd_cutl e2 (by omega) h; rw [← hf1] at h_; exact h_)
      refine wp_seq (wp_region_lit ?_)
      refine lW (.pointer (some ⟨p1, 2, none⟩)) he24 rfl (rn_faQ2 rfl (he24.op rfl) rfl w23) ?_
      intro a25 he25
      clear he24 a24
      refine lW (.int .i64 T.fi) he25 rfl (rn_ld1 rfl (he25.op rfl) Tryd.underlying3 (hH23.at (i := 1) rfl) rfl) ?_
      intro a26 he26
      clear he25 a25
      refine lW (.int .i64 ((ev1 T).fi : Int)) he26 rfl (rn_add1 rfl (he26.op rfl) (he26.op rfl) (by rw [IntWalk.i64_in _ ⟨by omega, by omega⟩]; show _ = ((T.fi + 1 : Nat) : Int); omega) w23) ?_
      intro a27 he27
      clear he26 a26
      refine lW (.pointer (some ⟨p1, 2, none⟩)) he27 rfl (rn_faQ2 rfl (he27.op rfl) rfl w23) ?_
      intro a28 he28
      clear he27 a27
      refine lSetF 1 #[.int .i64 ((ev1 T).fi : Int)] (cs := #[.int .i64 R.mo, .int .i64 R.pl, .int .i64 ((ev1 T).fi : Int), .slice A2 (ev1 T).L.length (c1 - 1), .slice B1 (pgI T.P).length d1]) he28 hH23 rfl (wanted_plain rfl _) rfl rfl rfl rfl rfl (by kernel_rfl) (by kernel_rfl) (by kernel_rfl) rfl ?_
      intro w29 a30 hH29 hf he30
      replace hD := hD.setb (i := 1) rfl rfl hf
      replace hH29 : Hp (bare w) [⟨p3, 33, #[.int .i64 0, .int .i64 0, .int .i64 0, .slice none 0 0, .slice none 0 0]⟩, ⟨p1, 33, #[.int .i64 R.mo, .int .i64 R.pl, .int .i64 ((ev1 T).fi : Int), .slice A2 (ev1 T).L.length (c1 - 1), .slice B1 (pgI T.P).length d1]⟩] w29 := hH29
      clear hf
      clear he28 a28 hH23
      refine wpList_nil (then_ok ?_)
      obtain ⟨b3, hrg, -, hdc⟩ := hD.rdG (i := 1) rfl
      obtain ⟨oo, eB⟩ := hrg.base (by rw [hpI]; simp)
      subst eB
      refine wp_seq (wp_region_lit ?_)
      refine lW (.pointer (some ⟨p1, 4, none⟩)) he30 rfl (rn_faQ4 rfl (he30.op rfl) rfl w29) ?_
      intro a31 he31
      clear he30 a30
      refine lW (.slice (some ⟨b3, oo, none⟩) (pgI T.P).length d1) he31 rfl (rn_ldDs rfl (he31.op rfl) (hH29.at (i := 1) rfl) rfl) ?_
      intro a32 he32
      clear he31 a31
      refine lW (.pointer (some ⟨b3, oo + 0 * 2, none⟩)) he32 rfl (rn_idxD (i := 0) rfl (he32.op rfl) rfl (by rw [hpI]; simp) (by rw [addr_add]) w29) ?_
      intro a33 he33
      clear he32 a32
      refine lW (.pointer (some ⟨b3, oo + 0 * 2 + 0, none⟩)) he33 rfl (rn_faD0 rfl (he33.op rfl) rfl w29) ?_
      intro a34 he34
      clear he33 a33
      refine lW (.int .i64 x.1) he34 rfl (rn_ldG0 (i := 0) rfl (he34.op rfl) hrg rfl (by rw [hpI]; rfl)) ?_
      intro a35 he35
      clear he34 a34
      refine lW (.int .i64 ((x.1 : Int) + 1)) he35 rfl (rn_add1 rfl (he35.op rfl) (he35.op rfl) (by rw [IntWalk.i64_in _ ⟨by omega, by omega⟩]) w29) ?_
      intro a36 he36
      clear he35 a35
      refine lW (.pointer (some ⟨b3, oo + 0 * 2, none⟩)) he36 rfl (rn_idxD (i := 0) rfl (he36.op rfl) rfl (by rw [hpI]; simp) (by rw [addr_add]) w29) ?_
      intro a37 he37
      clear he36 a36
      refine lW (.pointer (some ⟨b3, oo + 0 * 2 + 0, none⟩)) he37 rfl (rn_faD0 rfl (he37.op rfl) rfl w29) ?_
      intro a38 he38
      clear he37 a37
      replace hD := hD.pick 1 rfl
      obtain ⟨F_, hsep, hF, hstep⟩ := Dt.step (A := [rowG (.slice (some ⟨b3, oo, none⟩) (pgI T.P).length d1) (pgI T.P)]) (D := [rdD (.slice A2 (ev1 T).L.length (c1 - 1)) (ev1 T).L]) hD
      refine lPg (i := 0) 0 ((x.1 : Int) + 1, (x.2.length : Int)) (.inl ⟨rfl, rfl⟩) hsep.the (by rw [hpI]; simp) (by rw [hpI]; rfl) he38 rfl (wanted_plain rfl _) rfl rfl rfl ?_
      intro w39 a40 ht he40
      obtain ⟨hD2, hHs⟩ := hstep _ _ ht
      have hH39 := hHs _ rfl hH29
      clear hHs hstep hsep hF hD ht hrg
      have hD := hD2
      clear hD2
      clear he38 a38 hH29
      refine wpList_nil (then_ok ?_)
      have hc1 : ((pgI T.P).set 0 ((x.1 : Int) + 1, (x.2.length : Int)))[0]? = some ((x.1 : Int) + 1, (x.2.length : Int)) := by rw [hpI]; rfl
      have hrg := hD.rdGb (i := 0) rfl
      refine wp_seq (wp_region_lit ?_)
      refine lW (.pointer (some ⟨p1, 4, none⟩)) he40 rfl (rn_faQ4 rfl (he40.op rfl) rfl w39) ?_
      intro a41 he41
      clear he40 a40
      refine lW (.slice (some ⟨b3, oo, none⟩) (pgI T.P).length d1) he41 rfl (rn_ldDs rfl (he41.op rfl) (hH39.at (i := 1) rfl) rfl) ?_
      intro a42 he42
      clear he41 a41
      refine lW (.pointer (some ⟨b3, oo + 0 * 2, none⟩)) he42 rfl (rn_idxD (i := 0) rfl (he42.op rfl) rfl (by rw [hpI]; simp) (by rw [addr_add]) w39) ?_
      intro a43 he43
      clear he42 a42
      refine lW (.pointer (some ⟨b3, oo + 0 * 2 + 1, none⟩)) he43 rfl (rn_faD1 rfl (he43.op rfl) rfl w39) ?_
      intro a44 he44
      clear he43 a43
      refine lW (.int .i64 x.2.length) he44 rfl (rn_ldG1 (i := 0) rfl (he44.op rfl) hrg rfl hc1) ?_
      intro a45 he45
      clear he44 a44
      refine lW (.int .i64 ((x.2.length : Int) - 1)) he45 rfl (rn_subI rfl (he45.op rfl) (he45.op rfl) (by rw [IntWalk.i64_in _ ⟨by omega, by omega⟩]) w39) ?_
      intro a46 he46
      clear he45 a45
      refine lW (.pointer (some ⟨b3, oo + 0 * 2, none⟩)) he46 rfl (rn_idxD (i := 0) rfl (he46.op rfl) rfl (by rw [hpI]; simp) (by rw [addr_add]) w39) ?_
      intro a47 he47
      clear he46 a46
      refine lW (.pointer (some ⟨b3, oo + 0 * 2 + 1, none⟩)) he47 rfl (rn_faD1 rfl (he47.op rfl) rfl w39) ?_
      intro a48 he48
      clear he47 a47
      obtain ⟨F_, hsep, hF, hstep⟩ := Dt.step (A := [rowG (.slice (some ⟨b3, oo, none⟩) (pgI T.P).length d1) ((pgI T.P).set 0 ((x.1 : Int) + 1, (x.2.length : Int)))]) (D := [rdD (.slice A2 (ev1 T).L.length (c1 - 1)) (ev1 T).L]) hD
      refine lPg (i := 0) 1 ((x.1 : Int) + 1, (x.2.length : Int) - 1) (.inr ⟨rfl, rfl⟩) hsep.the (by rw [hpI]; simp) hc1 he48 rfl (wanted_plain rfl _) rfl rfl rfl ?_
      intro w49 a50 ht he50
      obtain ⟨hD2, hHs⟩ := hstep _ _ ht
      have hH49 := hHs _ rfl hH39
      clear hHs hstep hsep hF hD ht hrg
      have hD := hD2
      clear hD2
      clear he48 a48 hH39
      refine wpList_nil (then_ok ?_)
      have hc2 : (((pgI T.P).set 0 ((x.1 : Int) + 1, (x.2.length : Int))).set 0 ((x.1 : Int) + 1, (x.2.length : Int) - 1)) = ((x.1 : Int) + 1, (x.2.length : Int) - 1) :: pgI Pt := by rw [hpI]; rfl
      rw [hc2] at hD
      have hrg := hD.rdGb (i := 0) rfl
      by_cases hl : x.2.length ≤ 1
      · skip
        refine wp_seq (wp_region_lit ?_)
        refine lW (.pointer (some ⟨p1, 4, none⟩)) he50 rfl (rn_faQ4 rfl (he50.op rfl) rfl w49) ?_
        intro a51 he51
        clear he50 a50
        refine lW (.slice (some ⟨b3, oo, none⟩) (pgI T.P).length d1) he51 rfl (rn_ldDs rfl (he51.op rfl) (hH49.at (i := 1) rfl) rfl) ?_
        intro a52 he52
        clear he51 a51
        refine lW (.pointer (some ⟨b3, oo + 0 * 2, none⟩)) he52 rfl (rn_idxD (i := 0) rfl (he52.op rfl) rfl (by rw [hpI]; simp) (by rw [addr_add]) w49) ?_
        intro a53 he53
        clear he52 a52
        refine lW (.pointer (some ⟨b3, oo + 0 * 2 + 1, none⟩)) he53 rfl (rn_faD1 rfl (he53.op rfl) rfl w49) ?_
        intro a54 he54
        clear he53 a53
        refine lW (.int .i64 ((x.2.length : Int) - 1)) he54 rfl (rn_ldG1 (i := 0) rfl (he54.op rfl) hrg rfl rfl) ?_
        intro a55 he55
        clear he54 a54
        refine lW (.bool true) he55 rfl (rn_eqI rfl (he55.op rfl) (he55.op rfl) (beq_iff_eq.2 (by omega)) w49) ?_
        intro a56 he56
        clear he55 a55
        refine wpList_nil (then_ok ?_)
        clear hrg
        refine wp_cond_true (he56.op rfl) ?_
        have hP1 : (ev1 T).P = Pt := by show dropP T.P = _; rw [hP]; exact if_pos hl
        obtain ⟨B2, e3⟩ := slg_cut (A := some ⟨b3, oo, none⟩) (n := (pgI T.P).length) (k := 1) (c := d1) (by rw [hpI]; simp)
        have e4 : (pgI T.P).length - 1 = (pgI (ev1 T).P).length := by rw [hP1, hpI]; simp
        rw [e4] at e3
        refine wp_region_lit ?_
        refine lW (.pointer (some ⟨p1, 4, none⟩)) he56 rfl (rn_faQ4 rfl (he56.op rfl) rfl w49) ?_
        intro a57 he57
        clear he56 a56
        refine lW (.slice (some ⟨b3, oo, none⟩) (pgI T.P).length d1) he57 rfl (rn_ldDs rfl (he57.op rfl) (hH49.at (i := 1) rfl) rfl) ?_
        intro a58 he58
        clear he57 a57
        refine lW (.slice B2 (pgI (ev1 T).P).length (d1 - 1)) he58 rfl (rg_cutl (R := rPg) (k := 1) rfl (he58.op rfl) rfl (by rw [hpI]; simp) e3 w49) ?_
        intro a59 he59
        clear he58 a58
        refine lW (.pointer (some ⟨p1, 4, none⟩)) he59 rfl (rn_faQ4 rfl (he59.op rfl) rfl w49) ?_
        intro a60 he60
        clear he59 a59
        refine lSetF 1 #[.slice B2 (pgI (ev1 T).P).length (d1 - 1)] (cs := #[.int .i64 R.mo, .int .i64 R.pl, .int .i64 ((ev1 T).fi : Int), .slice A2 (ev1 T).L.length (c1 - 1), .slice B2 (pgI (ev1 T).P).length (d1 - 1)]) he60 hH49 rfl (wanted_plain rfl _) rfl rfl rfl rfl rfl (by kernel_rfl) (by kernel_rfl) (by kernel_rfl) rfl ?_
        intro w61 a62 hH61 hf he62
        replace hD := hD.setb (i := 1) rfl rfl hf
        replace hH61 : Hp (bare w) [⟨p3, 33, #[.int .i64 0, .int .i64 0, .int .i64 0, .slice none 0 0, .slice none 0 0]⟩, ⟨p1, 33, #[.int .i64 R.mo, .int .i64 R.pl, .int .i64 ((ev1 T).fi : Int), .slice A2 (ev1 T).L.length (c1 - 1), .slice B2 (pgI (ev1 T).P).length (d1 - 1)]⟩] w61 := hH61
        clear hf
        clear he60 a60 hH49
        refine wpList_nil ?_
        refine block_ok ?_
        refine then_ok ?_
        replace hD := Dt.front (A := [rowG (.slice (some ⟨b3, oo, none⟩) (pgI T.P).length d1) (((x.1 : Int) + 1, (x.2.length : Int) - 1) :: pgI Pt)]) (B := [rowG (.slice B2 (pgI (ev1 T).P).length (d1 - 1)) (pgI (ev1 T).P)]) (D := [rdD (.slice A2 (ev1 T).L.length (c1 - 1)) (ev1 T).L]) hD (fun G h => by have h_ := rowg_cutl e3 (by rw [hpI]; simp) h; rw [show (((x.1 : Int) + 1, (x.2.length : Int) - 1) :: pgI Pt).drop 1 = pgI (ev1 T).P by rw [hP1]; rfl] at h_; exact h_)
        replace hD := hD.pick 1 rfl
        have he63 : Env 46 [(2, .pointer (some ⟨p3, 0, none⟩)), (1, .pointer (some ⟨p1, 0, none⟩))] a62 := he62.mem ⟨rfl, rfl, trivial⟩
        clear he62
        have hn1 : (ev1 T).nx = T.nx := by unfold RS.nx; rw [hl1]; show T.fi + 1 + _ = _; omega
        exact ⟨(ev1 T).L.length - R.mo, by omega, ev1 T, A2, B2, c1 - 1, (d1 - 1), rfl, by rw [← hev, evR_step hpT (by omega)], hpl, hmo, dropP_ok hpT, hn1.trans hnT, by omega, he63.mem ⟨rfl, rfl, trivial⟩, hH61, hD⟩
      refine wp_seq (wp_region_lit ?_)
      refine lW (.pointer (some ⟨p1, 4, none⟩)) he50 rfl (rn_faQ4 rfl (he50.op rfl) rfl w49) ?_
      intro a64 he64
      clear he50 a50
      refine lW (.slice (some ⟨b3, oo, none⟩) (pgI T.P).length d1) he64 rfl (rn_ldDs rfl (he64.op rfl) (hH49.at (i := 1) rfl) rfl) ?_
      intro a65 he65
      clear he64 a64
      refine lW (.pointer (some ⟨b3, oo + 0 * 2, none⟩)) he65 rfl (rn_idxD (i := 0) rfl (he65.op rfl) rfl (by rw [hpI]; simp) (by rw [addr_add]) w49) ?_
      intro a66 he66
      clear he65 a65
      refine lW (.pointer (some ⟨b3, oo + 0 * 2 + 1, none⟩)) he66 rfl (rn_faD1 rfl (he66.op rfl) rfl w49) ?_
      intro a67 he67
      clear he66 a66
      refine lW (.int .i64 ((x.2.length : Int) - 1)) he67 rfl (rn_ldG1 (i := 0) rfl (he67.op rfl) hrg rfl rfl) ?_
      intro a68 he68
      clear he67 a67
      refine lW (.bool false) he68 rfl (rn_eqI rfl (he68.op rfl) (he68.op rfl) (beq_eq_false_iff_ne.2 (by omega)) w49) ?_
      intro a69 he69
      clear he68 a68
      refine wpList_nil (then_ok ?_)
      clear hrg
      refine wp_cond_false (he69.op rfl) ?_
      refine wp_skip ?_
      refine block_ok ?_
      refine then_ok ?_
      have hP1 : (ev1 T).P = (x.1 + 1, x.2.drop 1) :: Pt := by show dropP T.P = _; rw [hP]; exact if_neg hl
      have e4 : ((x.1 : Int) + 1, (x.2.length : Int) - 1) :: pgI Pt = pgI (ev1 T).P := by rw [hP1, pgI_cons, List.length_drop]; congr 2; omega
      have e5 : (pgI T.P).length = (pgI (ev1 T).P).length := by rw [← e4, hpI]; rfl
      rw [e4, e5] at hD
      have hH9 := hH49
      rw [e5] at hH9
      clear hH49
      replace hD := hD.pick 1 rfl
      have he70 : Env 46 [(2, .pointer (some ⟨p3, 0, none⟩)), (1, .pointer (some ⟨p1, 0, none⟩))] a69 := he69.mem ⟨rfl, rfl, trivial⟩
      clear he69
      have hn1 : (ev1 T).nx = T.nx := by unfold RS.nx; rw [hl1]; show T.fi + 1 + _ = _; omega
      exact ⟨(ev1 T).L.length - R.mo, by omega, ev1 T, A2, (some ⟨b3, oo, none⟩), c1 - 1, d1, rfl, by rw [← hev, evR_step hpT (by omega)], hpl, hmo, dropP_ok hpT, hn1.trans hnT, by omega, he70.mem ⟨rfl, rfl, trivial⟩, hH9, hD⟩
  refine wp_seq ?_
  refine wp_seq (wp_region_lit ?_)
  refine lW (.pointer (some ⟨p1, 3, none⟩)) he11 rfl (rn_faQ3 rfl (he11.op rfl) rfl w11) ?_
  intro a71 he71
  clear he11 a11
  refine lW (.slice A1 T.L.length c1) he71 rfl (rn_ldLs rfl (he71.op rfl) (hH11.at (i := 1) rfl) rfl) ?_
  intro a72 he72
  clear he71 a71
  refine lW (.int .i64 T.L.length) he72 rfl (rn_lenL rfl (he72.op rfl) w11) ?_
  intro a73 he73
  clear he72 a72
  refine lW (.pointer (some ⟨p1, 0, none⟩)) he73 rfl (rn_faQ0 rfl (he73.op rfl) rfl w11) ?_
  intro a74 he74
  clear he73 a73
  refine lW (.int .i64 R.mo) he74 rfl (rn_ld1 rfl (he74.op rfl) Tryd.underlying3 (hH11.at (i := 1) rfl) rfl) ?_
  intro a75 he75
  clear he74 a74
  refine lW (.bool false) he75 rfl (rn_gtr rfl (he75.op rfl) (he75.op rfl) (decide_eq_false (by omega)) w11) ?_
  intro a76 he76
  clear he75 a75
  refine wpList_nil (then_ok ?_)
  refine wp_cond_false (he76.op rfl) ?_
  refine wp_exit ?_
  simp only [Exit.then, Exit.inBlock, if_true]
  refine wp_seq (wp_region_lit ?_)
  refine lW (.agg #[.int .i64 R.mo, .int .i64 R.pl, .int .i64 T.fi, .slice A1 T.L.length c1, .slice B1 (pgI T.P).length d1]) he76 rfl (rn_ldp _ rfl (he76.op rfl) undQ rfl infoQ5 (hH11.at (i := 1) rfl) rfl) ?_
  intro a77 he77
  clear he76 a76
  refine lSetF 0 #[.int .i64 R.mo, .int .i64 R.pl, .int .i64 T.fi, .slice A1 T.L.length c1, .slice B1 (pgI T.P).length d1] (cs := #[.int .i64 R.mo, .int .i64 R.pl, .int .i64 T.fi, .slice A1 T.L.length c1, .slice B1 (pgI T.P).length d1]) he77 hH11 rfl (wanted_plain rfl _) rfl rfl rfl rfl rfl (by kernel_rfl) (by kernel_rfl) (by kernel_rfl) rfl ?_
  intro w78 a79 hH78 hf he79
  replace hD := hD.setb (i := 0) rfl rfl hf
  replace hH78 : Hp (bare w) [⟨p3, 33, #[.int .i64 R.mo, .int .i64 R.pl, .int .i64 T.fi, .slice A1 T.L.length c1, .slice B1 (pgI T.P).length d1]⟩, ⟨p1, 33, #[.int .i64 R.mo, .int .i64 R.pl, .int .i64 T.fi, .slice A1 T.L.length c1, .slice B1 (pgI T.P).length d1]⟩] w78 := hH78
  clear hf
  clear he77 a77 hH11
  refine wpList_nil (then_ok ?_)
  have e_ : evR R = T := by rw [← hev]; exact evR_stop (by omega)
  rw [e_]
  have hBe := hH78.at (i := 0) rfl
  simp only at hBe
  rw [← hpl, ← hmo] at hBe
  refine wp_ret ?_
  try simp only [Exit.then, Exit.inBlock, Exit.noGoto]
  exact ret_row rfl he79 rfl hBe undQ rfl infoQ5 ⟨_, _, _, _, rfl, hD.turned⟩
set_option linter.unusedSimpArgs false in
set_option maxRecDepth 100000 in
set_option maxHeartbeats 1600000 in
theorem qPush (F : FP) (R : RS) (A B : Option Addr) (c d : Nat) (x : Value) (l : List Ce) (s : Bool) (w : World) (hr : SepL [rdD (.slice A R.L.length c) R.L, rowG (.slice B (pgI R.P).length d) (pgI R.P)] w F) (hok : RgOk R) (hsm : R.L.length ≤ 1000) (hF : ∀ k, F k → 2 ≤ k ∧ k < w.heap.size) (hT : Tab w) (Gx : FP) (hx0 : SlF w Gx x l) (hGF : ∀ k, Gx k → ¬ F k) : Calls Tryd.prog 35 #[.agg #[.int .i64 R.mo, .int .i64 R.pl, .int .i64 R.fi, .slice A R.L.length c, .slice B (pgI R.P).length d], .agg #[x, .bool s]] w fun e w' => ∃ A' c' B' d', e = .returned (.tuple #[.agg #[.int .i64 ((pushR R (l, s)).1.mo : Int), .int .i64 ((pushR R (l, s)).1.pl : Int), .int .i64 ((pushR R (l, s)).1.fi : Int), .slice A' (pushR R (l, s)).1.L.length c', .slice B' (pgI (pushR R (l, s)).1.P).length d'], .int .i64 (pushR R (l, s)).2.2]) ∧ Turned [rdD (.slice A' (pushR R (l, s)).1.L.length c') (pushR R (l, s)).1.L, rowG (.slice B' (pgI (pushR R (l, s)).1.P).length d') (pgI (pushR R (l, s)).1.P)] F w w' := by
  have hnb : bigN = 1000000000 := rfl
  have hnn : R.nx = R.fi + R.L.length := rfl
  have hn8 := hok.nx
  have hP1 := hok.pl1
  have hP2 := hok.pl2
  have hPl : R.P.length ≤ 1000 := by have h1 := hok.pg.len_le; have h2 : (flatP R.P).length ≤ 1000 := hsm; omega
  have hGl := pgI_len R.P
  obtain ⟨Bx, cb, bx, e_, -, -, -⟩ := id hx0
  subst e_
  refine calls_args (vl := [.agg #[.int .i64 R.mo, .int .i64 R.pl, .int .i64 R.fi, .slice A R.L.length c, .slice B (pgI R.P).length d], .agg #[.slice Bx l.length cb, .bool s]]) 65 Tryd.func35 rfl Tryd.ntmps35 (by kernel_rfl) (fun a he => ?_)
  have he0 : Env 65 [(0, .agg #[.int .i64 R.mo, .int .i64 R.pl, .int .i64 R.fi, .slice A R.L.length c, .slice B (pgI R.P).length d]), (1, .agg #[.slice Bx l.length cb, .bool s])] a := he
  clear he
  have hH := Hp.bare w
  have hD := Dt.begin hT hr hF
  refine wp_seq (wp_region_lit ?_)
  refine lNewP (fun p => .pointer (some ⟨p, 0, none⟩)) he0 hH rfl rfl (wanted_plain rfl _) (rn_boxQ rfl (he0.op rfl) w) ?_
  intro p1 w1 a2 hp hn hH1 he2
  replace hD := hD.cons hn hp (hH1.at (i := 0) rfl).lt
  clear he0 a hH hn hp
  refine lNewP (fun p => .pointer (some ⟨p, 0, none⟩)) he2 hH1 rfl rfl (wanted_plain rfl _) (rn_boxL rfl (he2.op rfl) w1) ?_
  intro p3 w3 a4 hp hn hH3 he4
  replace hD := hD.cons hn hp (hH3.at (i := 0) rfl).lt
  clear he2 a2 hH1 hn hp
  refine lNewP (fun p => .pointer (some ⟨p, 0, none⟩)) he4 hH3 rfl rfl (wanted_plain rfl _) (rn_allocQ rfl w3) ?_
  intro p5 w5 a6 hp hn hH5 he6
  replace hD := hD.cons hn hp (hH5.at (i := 0) rfl).lt
  clear he4 a4 hH3 hn hp
  refine lW (.int .i64 0) he6 rfl (rn_asg rfl (he6.op rfl) w5) ?_
  intro a7 he7
  clear he6 a6
  refine wpList_nil (then_ok ?_)
  obtain ⟨v, hv⟩ : ∃ v, okL l = v := ⟨_, rfl⟩
  cases v with
  | false =>
    refine wp_seq ?_
    refine wp_seq (wp_region_lit ?_)
    refine lW (.agg #[.slice Bx l.length cb, .bool s]) he7 rfl (rn_ldp _ rfl (he7.op rfl) undL rfl infoL2 (hH5.at (i := 1) rfl) rfl) ?_
    intro a8 he8
    clear he7 a7
    refine lC he8 rfl rfl Tryd.func59 (by kernel_rfl) rfl rfl (wanted_plain rfl _) rfl (rvalid_s _ l s false hv w5 ((SlF.fr hx0 hD.fr hGF).sl)) ?_
    intro w9 a10 hn he10
    have hH9 := hH5.call hn
    replace hD := (hD).new hn
    clear he8 a8 hH5 hn
    refine lW (.bool true) he10 rfl (rn_not (b := false) rfl (he10.op rfl) w9) ?_
    intro a11 he11
    clear he10 a10
    refine wpList_nil (then_ok ?_)
    refine wp_cond_true (he11.op rfl) ?_
    refine wp_seq (wp_region_lit ?_)
    refine lW (.agg #[.int .i64 R.mo, .int .i64 R.pl, .int .i64 R.fi, .slice A R.L.length c, .slice B (pgI R.P).length d]) he11 rfl (rn_ldp _ rfl (he11.op rfl) undQ rfl infoQ5 (hH9.at (i := 2) rfl) rfl) ?_
    intro a12 he12
    clear he11 a11
    refine lSetF 0 #[.int .i64 R.mo, .int .i64 R.pl, .int .i64 R.fi, .slice A R.L.length c, .slice B (pgI R.P).length d] (cs := #[.int .i64 R.mo, .int .i64 R.pl, .int .i64 R.fi, .slice A R.L.length c, .slice B (pgI R.P).length d]) he12 hH9 rfl (wanted_plain rfl _) rfl rfl rfl rfl rfl (by kernel_rfl) (by kernel_rfl) (by kernel_rfl) rfl ?_
    intro w13 a14 hH13 hf he14
    replace hD := hD.setb (i := 0) rfl rfl hf
    replace hH13 : Hp (bare w) [⟨p5, 33, #[.int .i64 R.mo, .int .i64 R.pl, .int .i64 R.fi, .slice A R.L.length c, .slice B (pgI R.P).length d]⟩, ⟨p3, 36, #[.slice Bx l.length cb, .bool s]⟩, ⟨p1, 33, #[.int .i64 R.mo, .int .i64 R.pl, .int .i64 R.fi, .slice A R.L.length c, .slice B (pgI R.P).length d]⟩] w13 := hH13
    clear hf
    clear he12 a12 hH9
    refine lW (.int .i64 2) he14 rfl (rn_asg rfl (he14.op rfl) w13) ?_
    intro a15 he15
    clear he14 a14
    refine wpList_nil (then_ok ?_)
    rw [push_f hv]
    refine wp_ret ?_
    try simp only [Exit.then, Exit.inBlock, Exit.noGoto]
    exact ret_rowt rfl he15 rfl rfl (hH13.at (i := 0) rfl) undQ rfl infoQ5 ⟨A, c, B, d, rfl, hD.turned⟩
  | true =>
    refine wp_seq ?_
    refine wp_seq (wp_region_lit ?_)
    refine lW (.agg #[.slice Bx l.length cb, .bool s]) he7 rfl (rn_ldp _ rfl (he7.op rfl) undL rfl infoL2 (hH5.at (i := 1) rfl) rfl) ?_
    intro a16 he16
    clear he7 a7
    refine lC he16 rfl rfl Tryd.func59 (by kernel_rfl) rfl rfl (wanted_plain rfl _) rfl (rvalid_s _ l s true hv w5 ((SlF.fr hx0 hD.fr hGF).sl)) ?_
    intro w17 a18 hn he18
    have hH17 := hH5.call hn
    replace hD := (hD).new hn
    clear he16 a16 hH5 hn
    refine lW (.bool false) he18 rfl (rn_not (b := true) rfl (he18.op rfl) w17) ?_
    intro a19 he19
    clear he18 a18
    refine wpList_nil (then_ok ?_)
    refine wp_cond_false (he19.op rfl) ?_
    refine wp_skip ?_
    refine then_ok ?_
    rw [push_t hv]
    have hll := okL_len hv
    have haL : (adR R (l, s)).L = R.L ++ [(l, s)] := adR_L
    have haN := adR_nx (R := R) (l := (l, s))
    have haP : (adR R (l, s)).P = addP R.pl R.P (l, s) := rfl
    have he20 : Env 65 [(5, .int .i64 0), (4, .pointer (some ⟨p5, 0, none⟩)), (3, .pointer (some ⟨p3, 0, none⟩)), (2, .pointer (some ⟨p1, 0, none⟩))] a19 := he19.mem ⟨rfl, rfl, rfl, rfl, trivial⟩
    clear he19
    as_aux_lemma =>
      refine wp_seq (wp_region_lit ?_)
      refine lW (.agg #[.int .i64 R.mo, .int .i64 R.pl, .int .i64 R.fi, .slice A R.L.length c, .slice B (pgI R.P).length d]) he20 rfl (rn_ldp _ rfl (he20.op rfl) undQ rfl infoQ5 (hH17.at (i := 2) rfl) rfl) ?_
      intro a21 he21
      clear he20 a19
      replace hD := hD.pick 1 rfl
      replace hD := hD.pick 1 rfl
      obtain ⟨F_, hsep, hF, hstep⟩ := Dt.step (A := [rdD (.slice A R.L.length c) R.L, rowG (.slice B (pgI R.P).length d) (pgI R.P)]) (D := []) hD
      refine lCx he21 rfl rfl Tryd.func60 (by kernel_rfl) rfl rfl (wanted_plain rfl _) rfl (qCopy F_ R _ _ _ _ w17 hsep (by omega) (by omega) hF hD.tab) ?_
      rintro _ w22 ⟨A1, c1, B1, d1, xs, rfl, hxl, ht⟩
      obtain ⟨hD2, hHs⟩ := hstep _ _ ht
      have hH22 := hHs _ rfl hH17
      clear hHs hstep hsep hF
      replace hD := hD2
      clear hD2 ht
      refine ⟨_, rfl, ?_⟩
      intro a23 he23
      clear he21 a21 hH17
      refine lSetF 2 #[.int .i64 R.mo, .int .i64 R.pl, .int .i64 R.fi, .slice A1 R.L.length c1, .slice B1 (pgI R.P).length d1] (cs := #[.int .i64 R.mo, .int .i64 R.pl, .int .i64 R.fi, .slice A1 R.L.length c1, .slice B1 (pgI R.P).length d1]) he23 hH22 rfl (wanted_plain rfl _) rfl rfl rfl rfl rfl (by kernel_rfl) (by kernel_rfl) (by kernel_rfl) rfl ?_
      intro w24 a25 hH24 hf he25
      replace hD := hD.setb (i := 2) rfl rfl hf
      replace hH24 : Hp (bare w) [⟨p5, 33, #[.int .i64 0, .int .i64 0, .int .i64 0, .slice none 0 0, .slice none 0 0]⟩, ⟨p3, 36, #[.slice Bx l.length cb, .bool s]⟩, ⟨p1, 33, #[.int .i64 R.mo, .int .i64 R.pl, .int .i64 R.fi, .slice A1 R.L.length c1, .slice B1 (pgI R.P).length d1]⟩] w24 := hH24
      clear hf
      clear he23 a23 hH22
      refine wpList_nil (then_ok ?_)
      replace hD := hD.pick 1 rfl
      replace hD := hD.pick 1 rfl
      replace hD := hD.pick 2 rfl
      have hxl2 := hxl
      refine wp_seq (wp_region_lit ?_)
      refine lW (.pointer (some ⟨p1, 4, none⟩)) he25 rfl (rn_faQ4 rfl (he25.op rfl) rfl w24) ?_
      intro a26 he26
      clear he25 a25
      refine lW (.slice B1 (pgI R.P).length d1) he26 rfl (rn_ldDs rfl (he26.op rfl) (hH24.at (i := 2) rfl) rfl) ?_
      intro a27 he27
      clear he26 a26
      refine lW (.int .i64 ((pgI R.P).length : Nat)) he27 rfl (rn_lenD rfl (he27.op rfl) w24) ?_
      intro a28 he28
      clear he27 a27
      refine lW (.int .i64 ((pgI R.P).length : Nat)) he28 rfl (rn_asg rfl (he28.op rfl) w24) ?_
      intro a29 he29
      clear he28 a28
      refine wpList_nil (then_ok ?_)
      have he30 : Env 65 [(6, .int .i64 ((pgI R.P).length : Nat)), (5, .int .i64 0), (4, .pointer (some ⟨p5, 0, none⟩)), (3, .pointer (some ⟨p3, 0, none⟩)), (2, .pointer (some ⟨p1, 0, none⟩))] a29 := he29.mem ⟨rfl, rfl, rfl, rfl, rfl, trivial⟩
      clear he29
      refine wp_seq ?_
      refine reg_cut (fun a9 w9 => ∃ (B2 : Option Addr) (d2 : Nat) (Y : List Pg) (gn : Nat) (M : List Ln), Y ++ [(gn, M ++ [(l, s)])] = addP R.pl R.P (l, s) ∧ Y.length ≤ 1000 ∧ M.length ≤ 1024 ∧ Env 65 [(6, .int .i64 ((Y.length + 1 : Nat) : Int)), (5, .int .i64 0), (4, .pointer (some ⟨p5, 0, none⟩)), (3, .pointer (some ⟨p3, 0, none⟩)), (2, .pointer (some ⟨p1, 0, none⟩))] a9 ∧ Hp (bare w) [⟨p5, 33, #[.int .i64 0, .int .i64 0, .int .i64 0, .slice none 0 0, .slice none 0 0]⟩, ⟨p3, 36, #[.slice Bx l.length cb, .bool s]⟩, ⟨p1, 33, #[.int .i64 R.mo, .int .i64 R.pl, .int .i64 R.fi, .slice A1 R.L.length c1, .slice B2 (pgI (Y ++ [(gn, M)])).length d2]⟩] w9 ∧ Dt (bare w) w F 0 [p5, p3, p1] [rowG (.slice B2 (pgI (Y ++ [(gn, M)])).length d2) (pgI (Y ++ [(gn, M)])), rowD (.slice A1 R.L.length c1) xs, rdX xs R.L] w9) ?_ ?_
      · skip
        by_cases hP0 : R.P = []
        · skip
          refine wp_seq ?_
          refine wp_region_held_drew (S := Hp (bare w) [⟨p5, 33, #[.int .i64 0, .int .i64 0, .int .i64 0, .slice none 0 0, .slice none 0 0]⟩, ⟨p3, 36, #[.slice Bx l.length cb, .bool s]⟩, ⟨p1, 33, #[.int .i64 R.mo, .int .i64 R.pl, .int .i64 R.fi, .slice A1 R.L.length c1, .slice B1 (pgI R.P).length d1]⟩]) (by kernel_rfl) (hH24.drew) (fun _ => ?_)
          have hn : New w24 (World.drew w24) := (Fr.refl _ _).drew
          replace hD := (hD).new hn
          clear hn
          have hH31 := hH24.drew
          clear hH24
          generalize World.drew w24 = w31 at *
          refine hW (fuel := 21) (i := 0) (.int .i64 ((pgI R.P).length : Nat)) he30 rfl (by kernel_rfl) (fun _ _ _ h => h) (fun w' _ => rn_mv rfl (he30.op rfl) w') hH31 ?_
          intro a32 he32
          clear he30 a29
          refine hW (fuel := 20) (i := 1) (.bool true) he32 rfl (by kernel_rfl) (fun _ _ _ h => h) (fun w' _ => rn_eqI rfl (he32.op rfl) (he32.op rfl) (beq_iff_eq.2 (by rw [hGl, hP0]; rfl)) w') hH31 ?_
          intro a33 he33
          clear he32 a32
          refine hW (fuel := 19) (i := 2) (.bool true) he33 rfl (by kernel_rfl) (fun _ _ _ h => h) (fun w' _ => rn_mv rfl (he33.op rfl) w') hH31 ?_
          intro a34 he34
          clear he33 a33
          refine hSkip (fuel := 18) (i := 3) he34 rfl rfl rfl (by kernel_rfl) (by kernel_rfl) (by kernel_rfl) (fun _ _ _ h => h) (he34.wantNot rfl rfl rfl rfl rfl rfl) hH31 ?_
          intro a35 he35
          clear he34 a34
          refine hSkip (fuel := 17) (i := 4) he35 rfl rfl rfl (by kernel_rfl) (by kernel_rfl) (by kernel_rfl) (fun _ _ _ h => h) (he35.wantNot rfl rfl rfl rfl rfl rfl) hH31 ?_
          intro a36 he36
          clear he35 a35
          refine hSkip (fuel := 16) (i := 5) he36 rfl rfl rfl (by kernel_rfl) (by kernel_rfl) (by kernel_rfl) (fun _ _ _ h => h) (he36.wantNot rfl rfl rfl rfl rfl rfl) hH31 ?_
          intro a37 he37
          clear he36 a36
          refine hSkip (fuel := 15) (i := 6) he37 rfl rfl rfl (by kernel_rfl) (by kernel_rfl) (by kernel_rfl) (fun _ _ _ h => h) (he37.wantNot rfl rfl rfl rfl rfl rfl) hH31 ?_
          intro a38 he38
          clear he37 a37
          refine hSkip (fuel := 14) (i := 7) he38 rfl rfl rfl (by kernel_rfl) (by kernel_rfl) (by kernel_rfl) (fun _ _ _ h => h) (he38.wantNot rfl rfl rfl rfl rfl rfl) hH31 ?_
          intro a39 he39
          clear he38 a38
          refine hSkip (fuel := 13) (i := 8) he39 rfl rfl rfl (by kernel_rfl) (by kernel_rfl) (by kernel_rfl) (fun _ _ _ h => h) (he39.wantNot rfl rfl rfl rfl rfl rfl) hH31 ?_
          intro a40 he40
          clear he39 a39
          refine hSkip (fuel := 12) (i := 9) he40 rfl rfl rfl (by kernel_rfl) (by kernel_rfl) (by kernel_rfl) (fun _ _ _ h => h) (he40.wantNot rfl rfl rfl rfl rfl rfl) hH31 ?_
          intro a41 he41
          clear he40 a40
          refine hSkip (fuel := 11) (i := 10) he41 rfl rfl rfl (by kernel_rfl) (by kernel_rfl) (by kernel_rfl) (fun _ _ _ h => h) (he41.wantNot rfl rfl rfl rfl rfl rfl) hH31 ?_
          intro a42 he42
          clear he41 a41
          refine hSkip (fuel := 10) (i := 11) he42 rfl rfl rfl (by kernel_rfl) (by kernel_rfl) (by kernel_rfl) (fun _ _ _ h => h) (he42.wantNot rfl rfl rfl rfl rfl rfl) hH31 ?_
          intro a43 he43
          clear he42 a42
          refine hSkip (fuel := 9) (i := 12) he43 rfl rfl rfl (by kernel_rfl) (by kernel_rfl) (by kernel_rfl) (fun _ _ _ h => h) (he43.wantNot rfl rfl rfl rfl rfl rfl) hH31 ?_
          intro a44 he44
          clear he43 a43
          refine hSkip (fuel := 8) (i := 13) he44 rfl rfl rfl (by kernel_rfl) (by kernel_rfl) (by kernel_rfl) (fun _ _ _ h => h) (he44.wantNot rfl rfl rfl rfl rfl rfl) hH31 ?_
          intro a45 he45
          clear he44 a44
          refine hSkip (fuel := 7) (i := 14) he45 rfl rfl rfl (by kernel_rfl) (by kernel_rfl) (by kernel_rfl) (fun _ _ _ h => h) (he45.wantNot rfl rfl rfl rfl rfl rfl) hH31 ?_
          intro a46 he46
          clear he45 a45
          refine hSkip (fuel := 6) (i := 15) he46 rfl rfl rfl (by kernel_rfl) (by kernel_rfl) (by kernel_rfl) (fun _ _ _ h => h) (he46.wantNot rfl rfl rfl rfl rfl rfl) hH31 ?_
          intro a47 he47
          clear he46 a46
          refine hSkip (fuel := 5) (i := 16) he47 rfl rfl rfl (by kernel_rfl) (by kernel_rfl) (by kernel_rfl) (fun _ _ _ h => h) (he47.wantNot rfl rfl rfl rfl rfl rfl) hH31 ?_
          intro a48 he48
          clear he47 a47
          refine hSkip (fuel := 4) (i := 17) he48 rfl rfl rfl (by kernel_rfl) (by kernel_rfl) (by kernel_rfl) (fun _ _ _ h => h) (he48.wantNot rfl rfl rfl rfl rfl rfl) hH31 ?_
          intro a49 he49
          clear he48 a48
          refine hSkip (fuel := 3) (i := 18) he49 rfl rfl rfl (by kernel_rfl) (by kernel_rfl) (by kernel_rfl) (fun _ _ _ h => h) (he49.wantNot rfl rfl rfl rfl rfl rfl) hH31 ?_
          intro a50 he50
          clear he49 a49
          refine hSkip (fuel := 2) (i := 19) he50 rfl rfl rfl (by kernel_rfl) (by kernel_rfl) (by kernel_rfl) (fun _ _ _ h => h) (he50.wantNot rfl rfl rfl rfl rfl rfl) hH31 ?_
          intro a51 he51
          clear he50 a50
          refine hSkip (fuel := 1) (i := 20) he51 rfl rfl rfl (by kernel_rfl) (by kernel_rfl) (by kernel_rfl) (fun _ _ _ h => h) (he51.wantNot rfl rfl rfl rfl rfl rfl) hH31 ?_
          intro a52 he52
          clear he51 a51
          refine hW (fuel := 0) (i := 21) (.bool true) he52 rfl (by kernel_rfl) (fun _ _ _ h => h) (fun w' _ => rn_pk rfl (he52.op rfl) (he52.op rfl) w') hH31 ?_
          intro a53 he53
          clear he52 a52
          refine wpAnyH_done (by kernel_rfl) ?_ _
          refine then_ok ?_
          refine wp_cond_true (he53.op rfl) ?_
          refine wp_seq (wp_region_lit ?_)
          refine lW (.pointer (some ⟨p1, 4, none⟩)) he53 rfl (rn_faQ4 rfl (he53.op rfl) rfl w31) ?_
          intro a54 he54
          clear he53 a53
          refine lW (.slice B1 (pgI R.P).length d1) he54 rfl (rn_ldDs rfl (he54.op rfl) (hH31.at (i := 2) rfl) rfl) ?_
          intro a55 he55
          clear he54 a54
          refine lW (.agg #[.int .i64 0, .int .i64 0]) he55 rfl (rn_bD rfl  w31) ?_
          intro a56 he56
          clear he55 a55
          refine lNewP (fun p => .slice (some ⟨p, 0, none⟩) 1 1) he56 hH31 rfl rfl (wanted_plain rfl _) (rn_bsD1 rfl (he56.op rfl) w31) ?_
          intro p57 w57 a58 hp hn hH57 he58
          replace hD := hD.cons hn hp (hH57.at (i := 0) rfl).lt
          clear he56 a56 hH31 hn hp
          obtain ⟨F_, hsep, hF, hstep⟩ := Dt.step (A := [rowG (.slice B1 (pgI R.P).length d1) (pgI R.P)]) (D := [rowD (.slice A1 R.L.length c1) xs, rdX xs R.L]) hD
          refine lEx he58 rfl rfl (wanted_plain rfl _) (app_g (u := ((0 : Int), (0 : Int))) (M := (pgI (R.P ++ [((0 : Nat), ([] : List Ln))])).length) hsep.the (rdg_blk (R := rPg) (l := [((0 : Int), (0 : Int))]) (hH57.at (i := 0) rfl) rfl rfl) (by rw [pgI_snoc]; rfl) (by rw [pgI_len]; simp; omega) rfl (he58.op rfl) (he58.op rfl)) ?_
          rintro _ w59 ⟨B2, d2, rfl, ht⟩
          obtain ⟨hD2, hHs⟩ := hstep _ _ ht
          have hH59 := hHs _ rfl hH57
          clear hHs hstep hsep hF
          replace hD := hD2
          clear hD2 ht
          intro a60 he60
          clear he58 a58 hH57
          refine lW (.pointer (some ⟨p1, 4, none⟩)) he60 rfl (rn_faQ4 rfl (he60.op rfl) rfl w59) ?_
          intro a61 he61
          clear he60 a60
          refine lSetF 3 #[.slice B2 (pgI (R.P ++ [((0 : Nat), ([] : List Ln))])).length d2] (cs := #[.int .i64 R.mo, .int .i64 R.pl, .int .i64 R.fi, .slice A1 R.L.length c1, .slice B2 (pgI (R.P ++ [((0 : Nat), ([] : List Ln))])).length d2]) he61 hH59 rfl (wanted_plain rfl _) rfl rfl rfl rfl rfl (by kernel_rfl) (by kernel_rfl) (by kernel_rfl) rfl ?_
          intro w62 a63 hH62 hf he63
          replace hD := hD.setb (i := 3) rfl rfl hf
          replace hH62 : Hp (bare w) [⟨p57, 105, #[.int .i64 0, .int .i64 0]⟩, ⟨p5, 33, #[.int .i64 0, .int .i64 0, .int .i64 0, .slice none 0 0, .slice none 0 0]⟩, ⟨p3, 36, #[.slice Bx l.length cb, .bool s]⟩, ⟨p1, 33, #[.int .i64 R.mo, .int .i64 R.pl, .int .i64 R.fi, .slice A1 R.L.length c1, .slice B2 (pgI (R.P ++ [((0 : Nat), ([] : List Ln))])).length d2]⟩] w62 := hH62
          clear hf
          clear he61 a61 hH59
          refine wpList_nil (then_ok ?_)
          have hH64 := hH62.tail rfl
          clear hH62
          replace hD := hD.tail
          refine wp_region_lit ?_
          refine lW (.int .i64 ((pgI R.P).length : Nat)) he63 rfl (rn_mv rfl (he63.op rfl) w62) ?_
          intro a65 he65
          clear he63 a63
          refine lW (.int .i64 ((R.P.length + 1 : Nat) : Int)) he65 rfl (rn_add1 rfl (he65.op rfl) (he65.op rfl) (by rw [IntWalk.i64_in _ ⟨by omega, by omega⟩]; omega) w62) ?_
          intro a66 he66
          clear he65 a65
          refine lW (.int .i64 ((R.P.length + 1 : Nat) : Int)) he66 rfl (rn_asg rfl (he66.op rfl) w62) ?_
          intro a67 he67
          clear he66 a66
          refine wpList_nil (then_ok ?_)
          have he68 : Env 65 [(6, .int .i64 ((R.P.length + 1 : Nat) : Int)), (5, .int .i64 0), (4, .pointer (some ⟨p5, 0, none⟩)), (3, .pointer (some ⟨p3, 0, none⟩)), (2, .pointer (some ⟨p1, 0, none⟩))] a67 := he67.mem ⟨rfl, rfl, rfl, rfl, rfl, trivial⟩
          clear he67
          have e8 : pgI R.P ++ [((0 : Int), (0 : Int))] = pgI (R.P ++ [((0 : Nat), ([] : List Ln))]) := by rw [pgI_snoc]; rfl
          rw [e8] at hD
          exact ⟨B2, d2, R.P, 0, [], by rw [hP0]; rfl, by omega, by simp, he68.mem ⟨rfl, rfl, rfl, rfl, rfl, trivial⟩, hH64, hD⟩
        obtain ⟨Y, z, hPz⟩ : ∃ Y z, R.P = Y ++ [z] := ⟨R.P.dropLast, R.P.getLast hP0, (List.dropLast_concat_getLast _).symm⟩
        have hYl : R.P.length = Y.length + 1 := by rw [hPz]; simp
        have hz9 : R.P[Y.length]? = some z := by rw [hPz]; simp
        have hzg := pgI_get hz9
        have hz1 : z.1 + z.2.length ≤ R.pl := by have key : ∀ (P : List Pg) (z : Pg), PgOk R.pl (P ++ [z]) → z.1 + z.2.length ≤ R.pl := fun P => List.recOn P (fun z h => h.2.1) (fun a P ih z h => ih z h.2.2.2.2); exact key Y z (hPz ▸ hok.pg)
        obtain ⟨b3, hrg, -, hdc⟩ := hD.rdG (i := 0) rfl
        obtain ⟨oo, eB⟩ := hrg.base (by omega)
        subst eB
        clear hrg
        by_cases hroom : z.1 + z.2.length = R.pl
        · skip
          refine wp_seq ?_
          have hn : New w24 (World.drew w24) := (Fr.refl _ _).drew
          replace hD := (hD).new hn
          clear hn
          have hH69 := hH24.drew
          clear hH24
          refine wp_region_held_drew (S := fun W => Hp (bare w) [⟨p5, 33, #[.int .i64 0, .int .i64 0, .int .i64 0, .slice none 0 0, .slice none 0 0]⟩, ⟨p3, 36, #[.slice Bx l.length cb, .bool s]⟩, ⟨p1, 33, #[.int .i64 R.mo, .int .i64 R.pl, .int .i64 R.fi, .slice A1 R.L.length c1, .slice (some ⟨b3, oo, none⟩) (pgI R.P).length d1]⟩] W ∧ RdG rPg W b3 (some ⟨b3, oo, none⟩) (pgI R.P).length (pgI R.P)) (by kernel_rfl) ⟨hH69, (hD.rdGb (i := 0) rfl)⟩ (fun _ => ?_)
          generalize World.drew w24 = w69 at *
          refine hW (fuel := 21) (i := 0) (.int .i64 ((pgI R.P).length : Nat)) he30 rfl (by kernel_rfl) (fun _ _ _ h => h) (fun w' _ => rn_mv rfl (he30.op rfl) w') ⟨hH69, (hD.rdGb (i := 0) rfl)⟩ ?_
          intro a70 he70
          clear he30 a29
          refine hW (fuel := 20) (i := 1) (.bool false) he70 rfl (by kernel_rfl) (fun _ _ _ h => h) (fun w' _ => rn_eqI rfl (he70.op rfl) (he70.op rfl) (beq_eq_false_iff_ne.2 (by omega)) w') ⟨hH69, (hD.rdGb (i := 0) rfl)⟩ ?_
          intro a71 he71
          clear he70 a70
          refine hW (fuel := 19) (i := 2) (.bool false) he71 rfl (by kernel_rfl) (fun _ _ _ h => h) (fun w' _ => rn_mv rfl (he71.op rfl) w') ⟨hH69, (hD.rdGb (i := 0) rfl)⟩ ?_
          intro a72 he72
          clear he71 a71
          refine hV (fuel := 18) (i := 3) (.pointer (some ⟨p1, 4, none⟩)) he72 rfl rfl rfl (by kernel_rfl) (by kernel_rfl) (by kernel_rfl) (fun _ _ _ h => h) (he72.want rfl rfl rfl rfl rfl) (fun w' _ => rn_faQ4 rfl (he72.op rfl) rfl w') ⟨hH69, (hD.rdGb (i := 0) rfl)⟩ ?_
          intro a73 he73
          clear he72 a72
          refine hV (fuel := 17) (i := 4) (.slice (some ⟨b3, oo, none⟩) (pgI R.P).length d1) he73 rfl rfl rfl (by kernel_rfl) (by kernel_rfl) (by kernel_rfl) (fun _ _ _ h => h) (he73.want rfl rfl rfl rfl rfl) (fun w' hw' => rn_ldDs rfl (he73.op rfl) (hw'.1.at (i := 2) rfl) rfl) ⟨hH69, (hD.rdGb (i := 0) rfl)⟩ ?_
          intro a74 he74
          clear he73 a73
          refine hV (fuel := 16) (i := 5) (.int .i64 ((pgI R.P).length : Nat)) he74 rfl rfl rfl (by kernel_rfl) (by kernel_rfl) (by kernel_rfl) (fun _ _ _ h => h) (he74.want rfl rfl rfl rfl rfl) (fun w' _ => rn_mv rfl (he74.op rfl) w') ⟨hH69, (hD.rdGb (i := 0) rfl)⟩ ?_
          intro a75 he75
          clear he74 a74
          refine hV (fuel := 15) (i := 6) (.int .i64 Y.length) he75 rfl rfl rfl (by kernel_rfl) (by kernel_rfl) (by kernel_rfl) (fun _ _ _ h => h) (he75.want rfl rfl rfl rfl rfl) (fun w' _ => rn_subI rfl (he75.op rfl) (he75.op rfl) (by rw [IntWalk.i64_in _ ⟨by omega, by omega⟩]; omega) w') ⟨hH69, (hD.rdGb (i := 0) rfl)⟩ ?_
          intro a76 he76
          clear he75 a75
          refine hV (fuel := 14) (i := 7) (.pointer (some ⟨b3, oo + Y.length * 2, none⟩)) he76 rfl rfl rfl (by kernel_rfl) (by kernel_rfl) (by kernel_rfl) (fun _ _ _ h => h) (he76.want rfl rfl rfl rfl rfl) (fun w' _ => rn_idxD (i := Y.length) rfl (he76.op rfl) (he76.op rfl) (by omega) (by rw [addr_add]) w') ⟨hH69, (hD.rdGb (i := 0) rfl)⟩ ?_
          intro a77 he77
          clear he76 a76
          refine hV (fuel := 13) (i := 8) (.pointer (some ⟨b3, oo + Y.length * 2 + 0, none⟩)) he77 rfl rfl rfl (by kernel_rfl) (by kernel_rfl) (by kernel_rfl) (fun _ _ _ h => h) (he77.want rfl rfl rfl rfl rfl) (fun w' _ => rn_faD0 rfl (he77.op rfl) rfl w') ⟨hH69, (hD.rdGb (i := 0) rfl)⟩ ?_
          intro a78 he78
          clear he77 a77
          refine hV (fuel := 12) (i := 9) (.int .i64 z.1) he78 rfl rfl rfl (by kernel_rfl) (by kernel_rfl) (by kernel_rfl) (fun _ _ _ h => h) (he78.want rfl rfl rfl rfl rfl) (fun w' hw' => rn_ldG0 (i := Y.length) rfl (he78.op rfl) hw'.2 rfl hzg) ⟨hH69, (hD.rdGb (i := 0) rfl)⟩ ?_
          intro a79 he79
          clear he78 a78
          refine hV (fuel := 11) (i := 10) (.pointer (some ⟨p1, 4, none⟩)) he79 rfl rfl rfl (by kernel_rfl) (by kernel_rfl) (by kernel_rfl) (fun _ _ _ h => h) (he79.want rfl rfl rfl rfl rfl) (fun w' _ => rn_faQ4 rfl (he79.op rfl) rfl w') ⟨hH69, (hD.rdGb (i := 0) rfl)⟩ ?_
          intro a80 he80
          clear he79 a79
          refine hV (fuel := 10) (i := 11) (.slice (some ⟨b3, oo, none⟩) (pgI R.P).length d1) he80 rfl rfl rfl (by kernel_rfl) (by kernel_rfl) (by kernel_rfl) (fun _ _ _ h => h) (he80.want rfl rfl rfl rfl rfl) (fun w' hw' => rn_ldDs rfl (he80.op rfl) (hw'.1.at (i := 2) rfl) rfl) ⟨hH69, (hD.rdGb (i := 0) rfl)⟩ ?_
          intro a81 he81
          clear he80 a80
          refine hV (fuel := 9) (i := 12) (.int .i64 ((pgI R.P).length : Nat)) he81 rfl rfl rfl (by kernel_rfl) (by kernel_rfl) (by kernel_rfl) (fun _ _ _ h => h) (he81.want rfl rfl rfl rfl rfl) (fun w' _ => rn_mv rfl (he81.op rfl) w') ⟨hH69, (hD.rdGb (i := 0) rfl)⟩ ?_
          intro a82 he82
          clear he81 a81
          refine hV (fuel := 8) (i := 13) (.int .i64 Y.length) he82 rfl rfl rfl (by kernel_rfl) (by kernel_rfl) (by kernel_rfl) (fun _ _ _ h => h) (he82.want rfl rfl rfl rfl rfl) (fun w' _ => rn_subI rfl (he82.op rfl) (he82.op rfl) (by rw [IntWalk.i64_in _ ⟨by omega, by omega⟩]; omega) w') ⟨hH69, (hD.rdGb (i := 0) rfl)⟩ ?_
          intro a83 he83
          clear he82 a82
          refine hV (fuel := 7) (i := 14) (.pointer (some ⟨b3, oo + Y.length * 2, none⟩)) he83 rfl rfl rfl (by kernel_rfl) (by kernel_rfl) (by kernel_rfl) (fun _ _ _ h => h) (he83.want rfl rfl rfl rfl rfl) (fun w' _ => rn_idxD (i := Y.length) rfl (he83.op rfl) (he83.op rfl) (by omega) (by rw [addr_add]) w') ⟨hH69, (hD.rdGb (i := 0) rfl)⟩ ?_
          intro a84 he84
          clear he83 a83
          refine hV (fuel := 6) (i := 15) (.pointer (some ⟨b3, oo + Y.length * 2 + 1, none⟩)) he84 rfl rfl rfl (by kernel_rfl) (by kernel_rfl) (by kernel_rfl) (fun _ _ _ h => h) (he84.want rfl rfl rfl rfl rfl) (fun w' _ => rn_faD1 rfl (he84.op rfl) rfl w') ⟨hH69, (hD.rdGb (i := 0) rfl)⟩ ?_
          intro a85 he85
          clear he84 a84
          refine hV (fuel := 5) (i := 16) (.int .i64 z.2.length) he85 rfl rfl rfl (by kernel_rfl) (by kernel_rfl) (by kernel_rfl) (fun _ _ _ h => h) (he85.want rfl rfl rfl rfl rfl) (fun w' hw' => rn_ldG1 (i := Y.length) rfl (he85.op rfl) hw'.2 rfl hzg) ⟨hH69, (hD.rdGb (i := 0) rfl)⟩ ?_
          intro a86 he86
          clear he85 a85
          refine hV (fuel := 4) (i := 17) (.int .i64 ((z.1 + z.2.length : Nat) : Int)) he86 rfl rfl rfl (by kernel_rfl) (by kernel_rfl) (by kernel_rfl) (fun _ _ _ h => h) (he86.want rfl rfl rfl rfl rfl) (fun w' _ => rn_add1 rfl (he86.op rfl) (he86.op rfl) (by rw [IntWalk.i64_in _ ⟨by omega, by omega⟩]; omega) w') ⟨hH69, (hD.rdGb (i := 0) rfl)⟩ ?_
          intro a87 he87
          clear he86 a86
          refine hV (fuel := 3) (i := 18) (.pointer (some ⟨p1, 1, none⟩)) he87 rfl rfl rfl (by kernel_rfl) (by kernel_rfl) (by kernel_rfl) (fun _ _ _ h => h) (he87.want rfl rfl rfl rfl rfl) (fun w' _ => rn_faQ1 rfl (he87.op rfl) rfl w') ⟨hH69, (hD.rdGb (i := 0) rfl)⟩ ?_
          intro a88 he88
          clear he87 a87
          refine hV (fuel := 2) (i := 19) (.int .i64 R.pl) he88 rfl rfl rfl (by kernel_rfl) (by kernel_rfl) (by kernel_rfl) (fun _ _ _ h => h) (he88.want rfl rfl rfl rfl rfl) (fun w' hw' => rn_ld1 rfl (he88.op rfl) Tryd.underlying3 (hw'.1.at (i := 2) rfl) rfl) ⟨hH69, (hD.rdGb (i := 0) rfl)⟩ ?_
          intro a89 he89
          clear he88 a88
          refine hV (fuel := 1) (i := 20) (.bool true) he89 rfl rfl rfl (by kernel_rfl) (by kernel_rfl) (by kernel_rfl) (fun _ _ _ h => h) (he89.want rfl rfl rfl rfl rfl) (fun w' _ => rn_eqI rfl (he89.op rfl) (he89.op rfl) (beq_iff_eq.2 (by omega)) w') ⟨hH69, (hD.rdGb (i := 0) rfl)⟩ ?_
          intro a90 he90
          clear he89 a89
          refine hW (fuel := 0) (i := 21) (.bool true) he90 rfl (by kernel_rfl) (fun _ _ _ h => h) (fun w' _ => rn_pk0 rfl (he90.op rfl) (he90.op rfl) w') ⟨hH69, (hD.rdGb (i := 0) rfl)⟩ ?_
          intro a91 he91
          clear he90 a90
          refine wpAnyH_done (by kernel_rfl) ?_ _
          refine then_ok ?_
          refine wp_cond_true (he91.op rfl) ?_
          refine wp_seq (wp_region_lit ?_)
          refine lW (.pointer (some ⟨p1, 4, none⟩)) he91 rfl (rn_faQ4 rfl (he91.op rfl) rfl w69) ?_
          intro a92 he92
          clear he91 a91
          refine lW (.slice (some ⟨b3, oo, none⟩) (pgI R.P).length d1) he92 rfl (rn_ldDs rfl (he92.op rfl) (hH69.at (i := 2) rfl) rfl) ?_
          intro a93 he93
          clear he92 a92
          refine lW (.agg #[.int .i64 0, .int .i64 0]) he93 rfl (rn_bD rfl  w69) ?_
          intro a94 he94
          clear he93 a93
          refine lNewP (fun p => .slice (some ⟨p, 0, none⟩) 1 1) he94 hH69 rfl rfl (wanted_plain rfl _) (rn_bsD1 rfl (he94.op rfl) w69) ?_
          intro p95 w95 a96 hp hn hH95 he96
          replace hD := hD.cons hn hp (hH95.at (i := 0) rfl).lt
          clear he94 a94 hH69 hn hp
          obtain ⟨F_, hsep, hF, hstep⟩ := Dt.step (A := [rowG (.slice (some ⟨b3, oo, none⟩) (pgI R.P).length d1) (pgI R.P)]) (D := [rowD (.slice A1 R.L.length c1) xs, rdX xs R.L]) hD
          refine lEx he96 rfl rfl (wanted_plain rfl _) (app_g (u := ((0 : Int), (0 : Int))) (M := (pgI (R.P ++ [((0 : Nat), ([] : List Ln))])).length) hsep.the (rdg_blk (R := rPg) (l := [((0 : Int), (0 : Int))]) (hH95.at (i := 0) rfl) rfl rfl) (by rw [pgI_snoc]; rfl) (by rw [pgI_len]; simp; omega) rfl (he96.op rfl) (he96.op rfl)) ?_
          rintro _ w97 ⟨B2, d2, rfl, ht⟩
          obtain ⟨hD2, hHs⟩ := hstep _ _ ht
          have hH97 := hHs _ rfl hH95
          clear hHs hstep hsep hF
          replace hD := hD2
          clear hD2 ht
          intro a98 he98
          clear he96 a96 hH95
          refine lW (.pointer (some ⟨p1, 4, none⟩)) he98 rfl (rn_faQ4 rfl (he98.op rfl) rfl w97) ?_
          intro a99 he99
          clear he98 a98
          refine lSetF 3 #[.slice B2 (pgI (R.P ++ [((0 : Nat), ([] : List Ln))])).length d2] (cs := #[.int .i64 R.mo, .int .i64 R.pl, .int .i64 R.fi, .slice A1 R.L.length c1, .slice B2 (pgI (R.P ++ [((0 : Nat), ([] : List Ln))])).length d2]) he99 hH97 rfl (wanted_plain rfl _) rfl rfl rfl rfl rfl (by kernel_rfl) (by kernel_rfl) (by kernel_rfl) rfl ?_
          intro w100 a101 hH100 hf he101
          replace hD := hD.setb (i := 3) rfl rfl hf
          replace hH100 : Hp (bare w) [⟨p95, 105, #[.int .i64 0, .int .i64 0]⟩, ⟨p5, 33, #[.int .i64 0, .int .i64 0, .int .i64 0, .slice none 0 0, .slice none 0 0]⟩, ⟨p3, 36, #[.slice Bx l.length cb, .bool s]⟩, ⟨p1, 33, #[.int .i64 R.mo, .int .i64 R.pl, .int .i64 R.fi, .slice A1 R.L.length c1, .slice B2 (pgI (R.P ++ [((0 : Nat), ([] : List Ln))])).length d2]⟩] w100 := hH100
          clear hf
          clear he99 a99 hH97
          refine wpList_nil (then_ok ?_)
          have hH102 := hH100.tail rfl
          clear hH100
          replace hD := hD.tail
          refine wp_region_lit ?_
          refine lW (.int .i64 ((pgI R.P).length : Nat)) he101 rfl (rn_mv rfl (he101.op rfl) w100) ?_
          intro a103 he103
          clear he101 a101
          refine lW (.int .i64 ((R.P.length + 1 : Nat) : Int)) he103 rfl (rn_add1 rfl (he103.op rfl) (he103.op rfl) (by rw [IntWalk.i64_in _ ⟨by omega, by omega⟩]; omega) w100) ?_
          intro a104 he104
          clear he103 a103
          refine lW (.int .i64 ((R.P.length + 1 : Nat) : Int)) he104 rfl (rn_asg rfl (he104.op rfl) w100) ?_
          intro a105 he105
          clear he104 a104
          refine wpList_nil (then_ok ?_)
          have he106 : Env 65 [(6, .int .i64 ((R.P.length + 1 : Nat) : Int)), (5, .int .i64 0), (4, .pointer (some ⟨p5, 0, none⟩)), (3, .pointer (some ⟨p3, 0, none⟩)), (2, .pointer (some ⟨p1, 0, none⟩))] a105 := he105.mem ⟨rfl, rfl, rfl, rfl, rfl, trivial⟩
          clear he105
          have e8 : pgI R.P ++ [((0 : Int), (0 : Int))] = pgI (R.P ++ [((0 : Nat), ([] : List Ln))]) := by rw [pgI_snoc]; rfl
          rw [e8] at hD
          exact ⟨B2, d2, R.P, 0, [], by rw [hPz, addP_snoc, if_pos hroom, List.append_assoc]; rfl, by omega, by simp, he106.mem ⟨rfl, rfl, rfl, rfl, rfl, trivial⟩, hH102, hD⟩
        refine wp_seq ?_
        have hn : New w24 (World.drew w24) := (Fr.refl _ _).drew
        replace hD := (hD).new hn
        clear hn
        have hH107 := hH24.drew
        clear hH24
        refine wp_region_held_drew (S := fun W => Hp (bare w) [⟨p5, 33, #[.int .i64 0, .int .i64 0, .int .i64 0, .slice none 0 0, .slice none 0 0]⟩, ⟨p3, 36, #[.slice Bx l.length cb, .bool s]⟩, ⟨p1, 33, #[.int .i64 R.mo, .int .i64 R.pl, .int .i64 R.fi, .slice A1 R.L.length c1, .slice (some ⟨b3, oo, none⟩) (pgI R.P).length d1]⟩] W ∧ RdG rPg W b3 (some ⟨b3, oo, none⟩) (pgI R.P).length (pgI R.P)) (by kernel_rfl) ⟨hH107, (hD.rdGb (i := 0) rfl)⟩ (fun _ => ?_)
        generalize World.drew w24 = w107 at *
        refine hW (fuel := 21) (i := 0) (.int .i64 ((pgI R.P).length : Nat)) he30 rfl (by kernel_rfl) (fun _ _ _ h => h) (fun w' _ => rn_mv rfl (he30.op rfl) w') ⟨hH107, (hD.rdGb (i := 0) rfl)⟩ ?_
        intro a108 he108
        clear he30 a29
        refine hW (fuel := 20) (i := 1) (.bool false) he108 rfl (by kernel_rfl) (fun _ _ _ h => h) (fun w' _ => rn_eqI rfl (he108.op rfl) (he108.op rfl) (beq_eq_false_iff_ne.2 (by omega)) w') ⟨hH107, (hD.rdGb (i := 0) rfl)⟩ ?_
        intro a109 he109
        clear he108 a108
        refine hW (fuel := 19) (i := 2) (.bool false) he109 rfl (by kernel_rfl) (fun _ _ _ h => h) (fun w' _ => rn_mv rfl (he109.op rfl) w') ⟨hH107, (hD.rdGb (i := 0) rfl)⟩ ?_
        intro a110 he110
        clear he109 a109
        refine hV (fuel := 18) (i := 3) (.pointer (some ⟨p1, 4, none⟩)) he110 rfl rfl rfl (by kernel_rfl) (by kernel_rfl) (by kernel_rfl) (fun _ _ _ h => h) (he110.want rfl rfl rfl rfl rfl) (fun w' _ => rn_faQ4 rfl (he110.op rfl) rfl w') ⟨hH107, (hD.rdGb (i := 0) rfl)⟩ ?_
        intro a111 he111
        clear he110 a110
        refine hV (fuel := 17) (i := 4) (.slice (some ⟨b3, oo, none⟩) (pgI R.P).length d1) he111 rfl rfl rfl (by kernel_rfl) (by kernel_rfl) (by kernel_rfl) (fun _ _ _ h => h) (he111.want rfl rfl rfl rfl rfl) (fun w' hw' => rn_ldDs rfl (he111.op rfl) (hw'.1.at (i := 2) rfl) rfl) ⟨hH107, (hD.rdGb (i := 0) rfl)⟩ ?_
        intro a112 he112
        clear he111 a111
        refine hV (fuel := 16) (i := 5) (.int .i64 ((pgI R.P).length : Nat)) he112 rfl rfl rfl (by kernel_rfl) (by kernel_rfl) (by kernel_rfl) (fun _ _ _ h => h) (he112.want rfl rfl rfl rfl rfl) (fun w' _ => rn_mv rfl (he112.op rfl) w') ⟨hH107, (hD.rdGb (i := 0) rfl)⟩ ?_
        intro a113 he113
        clear he112 a112
        refine hV (fuel := 15) (i := 6) (.int .i64 Y.length) he113 rfl rfl rfl (by kernel_rfl) (by kernel_rfl) (by kernel_rfl) (fun _ _ _ h => h) (he113.want rfl rfl rfl rfl rfl) (fun w' _ => rn_subI rfl (he113.op rfl) (he113.op rfl) (by rw [IntWalk.i64_in _ ⟨by omega, by omega⟩]; omega) w') ⟨hH107, (hD.rdGb (i := 0) rfl)⟩ ?_
        intro a114 he114
        clear he113 a113
        refine hV (fuel := 14) (i := 7) (.pointer (some ⟨b3, oo + Y.length * 2, none⟩)) he114 rfl rfl rfl (by kernel_rfl) (by kernel_rfl) (by kernel_rfl) (fun _ _ _ h => h) (he114.want rfl rfl rfl rfl rfl) (fun w' _ => rn_idxD (i := Y.length) rfl (he114.op rfl) (he114.op rfl) (by omega) (by rw [addr_add]) w') ⟨hH107, (hD.rdGb (i := 0) rfl)⟩ ?_
        intro a115 he115
        clear he114 a114
        refine hV (fuel := 13) (i := 8) (.pointer (some ⟨b3, oo + Y.length * 2 + 0, none⟩)) he115 rfl rfl rfl (by kernel_rfl) (by kernel_rfl) (by kernel_rfl) (fun _ _ _ h => h) (he115.want rfl rfl rfl rfl rfl) (fun w' _ => rn_faD0 rfl (he115.op rfl) rfl w') ⟨hH107, (hD.rdGb (i := 0) rfl)⟩ ?_
        intro a116 he116
        clear he115 a115
        refine hV (fuel := 12) (i := 9) (.int .i64 z.1) he116 rfl rfl rfl (by kernel_rfl) (by kernel_rfl) (by kernel_rfl) (fun _ _ _ h => h) (he116.want rfl rfl rfl rfl rfl) (fun w' hw' => rn_ldG0 (i := Y.length) rfl (he116.op rfl) hw'.2 rfl hzg) ⟨hH107, (hD.rdGb (i := 0) rfl)⟩ ?_
        intro a117 he117
        clear he116 a116
        refine hV (fuel := 11) (i := 10) (.pointer (some ⟨p1, 4, none⟩)) he117 rfl rfl rfl (by kernel_rfl) (by kernel_rfl) (by kernel_rfl) (fun _ _ _ h => h) (he117.want rfl rfl rfl rfl rfl) (fun w' _ => rn_faQ4 rfl (he117.op rfl) rfl w') ⟨hH107, (hD.rdGb (i := 0) rfl)⟩ ?_
        intro a118 he118
        clear he117 a117
        refine hV (fuel := 10) (i := 11) (.slice (some ⟨b3, oo, none⟩) (pgI R.P).length d1) he118 rfl rfl rfl (by kernel_rfl) (by kernel_rfl) (by kernel_rfl) (fun _ _ _ h => h) (he118.want rfl rfl rfl rfl rfl) (fun w' hw' => rn_ldDs rfl (he118.op rfl) (hw'.1.at (i := 2) rfl) rfl) ⟨hH107, (hD.rdGb (i := 0) rfl)⟩ ?_
        intro a119 he119
        clear he118 a118
        refine hV (fuel := 9) (i := 12) (.int .i64 ((pgI R.P).length : Nat)) he119 rfl rfl rfl (by kernel_rfl) (by kernel_rfl) (by kernel_rfl) (fun _ _ _ h => h) (he119.want rfl rfl rfl rfl rfl) (fun w' _ => rn_mv rfl (he119.op rfl) w') ⟨hH107, (hD.rdGb (i := 0) rfl)⟩ ?_
        intro a120 he120
        clear he119 a119
        refine hV (fuel := 8) (i := 13) (.int .i64 Y.length) he120 rfl rfl rfl (by kernel_rfl) (by kernel_rfl) (by kernel_rfl) (fun _ _ _ h => h) (he120.want rfl rfl rfl rfl rfl) (fun w' _ => rn_subI rfl (he120.op rfl) (he120.op rfl) (by rw [IntWalk.i64_in _ ⟨by omega, by omega⟩]; omega) w') ⟨hH107, (hD.rdGb (i := 0) rfl)⟩ ?_
        intro a121 he121
        clear he120 a120
        refine hV (fuel := 7) (i := 14) (.pointer (some ⟨b3, oo + Y.length * 2, none⟩)) he121 rfl rfl rfl (by kernel_rfl) (by kernel_rfl) (by kernel_rfl) (fun _ _ _ h => h) (he121.want rfl rfl rfl rfl rfl) (fun w' _ => rn_idxD (i := Y.length) rfl (he121.op rfl) (he121.op rfl) (by omega) (by rw [addr_add]) w') ⟨hH107, (hD.rdGb (i := 0) rfl)⟩ ?_
        intro a122 he122
        clear he121 a121
        refine hV (fuel := 6) (i := 15) (.pointer (some ⟨b3, oo + Y.length * 2 + 1, none⟩)) he122 rfl rfl rfl (by kernel_rfl) (by kernel_rfl) (by kernel_rfl) (fun _ _ _ h => h) (he122.want rfl rfl rfl rfl rfl) (fun w' _ => rn_faD1 rfl (he122.op rfl) rfl w') ⟨hH107, (hD.rdGb (i := 0) rfl)⟩ ?_
        intro a123 he123
        clear he122 a122
        refine hV (fuel := 5) (i := 16) (.int .i64 z.2.length) he123 rfl rfl rfl (by kernel_rfl) (by kernel_rfl) (by kernel_rfl) (fun _ _ _ h => h) (he123.want rfl rfl rfl rfl rfl) (fun w' hw' => rn_ldG1 (i := Y.length) rfl (he123.op rfl) hw'.2 rfl hzg) ⟨hH107, (hD.rdGb (i := 0) rfl)⟩ ?_
        intro a124 he124
        clear he123 a123
        refine hV (fuel := 4) (i := 17) (.int .i64 ((z.1 + z.2.length : Nat) : Int)) he124 rfl rfl rfl (by kernel_rfl) (by kernel_rfl) (by kernel_rfl) (fun _ _ _ h => h) (he124.want rfl rfl rfl rfl rfl) (fun w' _ => rn_add1 rfl (he124.op rfl) (he124.op rfl) (by rw [IntWalk.i64_in _ ⟨by omega, by omega⟩]; omega) w') ⟨hH107, (hD.rdGb (i := 0) rfl)⟩ ?_
        intro a125 he125
        clear he124 a124
        refine hV (fuel := 3) (i := 18) (.pointer (some ⟨p1, 1, none⟩)) he125 rfl rfl rfl (by kernel_rfl) (by kernel_rfl) (by kernel_rfl) (fun _ _ _ h => h) (he125.want rfl rfl rfl rfl rfl) (fun w' _ => rn_faQ1 rfl (he125.op rfl) rfl w') ⟨hH107, (hD.rdGb (i := 0) rfl)⟩ ?_
        intro a126 he126
        clear he125 a125
        refine hV (fuel := 2) (i := 19) (.int .i64 R.pl) he126 rfl rfl rfl (by kernel_rfl) (by kernel_rfl) (by kernel_rfl) (fun _ _ _ h => h) (he126.want rfl rfl rfl rfl rfl) (fun w' hw' => rn_ld1 rfl (he126.op rfl) Tryd.underlying3 (hw'.1.at (i := 2) rfl) rfl) ⟨hH107, (hD.rdGb (i := 0) rfl)⟩ ?_
        intro a127 he127
        clear he126 a126
        refine hV (fuel := 1) (i := 20) (.bool false) he127 rfl rfl rfl (by kernel_rfl) (by kernel_rfl) (by kernel_rfl) (fun _ _ _ h => h) (he127.want rfl rfl rfl rfl rfl) (fun w' _ => rn_eqI rfl (he127.op rfl) (he127.op rfl) (beq_eq_false_iff_ne.2 (by omega)) w') ⟨hH107, (hD.rdGb (i := 0) rfl)⟩ ?_
        intro a128 he128
        clear he127 a127
        refine hW (fuel := 0) (i := 21) (.bool false) he128 rfl (by kernel_rfl) (fun _ _ _ h => h) (fun w' _ => rn_pk0 rfl (he128.op rfl) (he128.op rfl) w') ⟨hH107, (hD.rdGb (i := 0) rfl)⟩ ?_
        intro a129 he129
        clear he128 a128
        refine wpAnyH_done (by kernel_rfl) ?_ _
        refine then_ok ?_
        refine wp_cond_false (he129.op rfl) ?_
        refine wp_skip ?_
        have he130 : Env 65 [(6, .int .i64 ((pgI R.P).length : Nat)), (5, .int .i64 0), (4, .pointer (some ⟨p5, 0, none⟩)), (3, .pointer (some ⟨p3, 0, none⟩)), (2, .pointer (some ⟨p1, 0, none⟩))] a129 := he129.mem ⟨rfl, rfl, rfl, rfl, rfl, trivial⟩
        clear he129
        have e7 : R.P.length = Y.length + 1 := hYl
        have e8 : pgI R.P = pgI (Y ++ [(z.1, z.2)]) := by rw [hPz]
        rw [e8] at hD
        have hH9 := hH107
        rw [e8] at hH9
        have he9 := he130
        rw [hGl, e7] at he9
        exact ⟨_, d1, Y, z.1, z.2, by rw [hPz, addP_snoc, if_neg hroom], by omega, by omega, he9.mem ⟨rfl, rfl, rfl, rfl, rfl, trivial⟩, hH9, hD⟩
      clear he30 hH24 hD
      rintro a9 w9 ⟨B2, d2, Y, gn, M, hadd, hYl, hMl, he9, hH9, hD⟩
      have hGl2 : (pgI (Y ++ [(gn, M)])).length = Y.length + 1 := by rw [pgI_len]; simp
      have hzg : (pgI (Y ++ [(gn, M)]))[Y.length]? = some ((gn : Int), (M.length : Int)) := pgI_get (x := (gn, M)) (by simp)
      obtain ⟨b3, hrg, -, hdc⟩ := hD.rdG (i := 0) rfl
      obtain ⟨oo, eB⟩ := hrg.base (by omega)
      subst eB
      refine wp_seq (wp_region_lit ?_)
      refine lW (.pointer (some ⟨p1, 4, none⟩)) he9 rfl (rn_faQ4 rfl (he9.op rfl) rfl w9) ?_
      intro a131 he131
      clear he9 a9
      refine lW (.slice (some ⟨b3, oo, none⟩) (pgI (Y ++ [(gn, M)])).length d2) he131 rfl (rn_ldDs rfl (he131.op rfl) (hH9.at (i := 2) rfl) rfl) ?_
      intro a132 he132
      clear he131 a131
      refine lW (.int .i64 ((Y.length + 1 : Nat) : Int)) he132 rfl (rn_mv rfl (he132.op rfl) w9) ?_
      intro a133 he133
      clear he132 a132
      refine lW (.int .i64 Y.length) he133 rfl (rn_subI rfl (he133.op rfl) (he133.op rfl) (by rw [IntWalk.i64_in _ ⟨by omega, by omega⟩]; omega) w9) ?_
      intro a134 he134
      clear he133 a133
      refine lW (.pointer (some ⟨b3, oo + Y.length * 2, none⟩)) he134 rfl (rn_idxD (i := Y.length) rfl (he134.op rfl) (he134.op rfl) (by omega) (by rw [addr_add]) w9) ?_
      intro a135 he135
      clear he134 a134
      refine lW (.pointer (some ⟨b3, oo + Y.length * 2 + 1, none⟩)) he135 rfl (rn_faD1 rfl (he135.op rfl) rfl w9) ?_
      intro a136 he136
      clear he135 a135
      refine lW (.int .i64 M.length) he136 rfl (rn_ldG1 (i := Y.length) rfl (he136.op rfl) hrg rfl hzg) ?_
      intro a137 he137
      clear he136 a136
      refine lW (.int .i64 ((M.length : Int) + 1)) he137 rfl (rn_add1 rfl (he137.op rfl) (he137.op rfl) (by rw [IntWalk.i64_in _ ⟨by omega, by omega⟩]) w9) ?_
      intro a138 he138
      clear he137 a137
      refine lW (.pointer (some ⟨b3, oo + Y.length * 2, none⟩)) he138 rfl (rn_idxD (i := Y.length) rfl (he138.op rfl) (he138.op rfl) (by omega) (by rw [addr_add]) w9) ?_
      intro a139 he139
      clear he138 a138
      refine lW (.pointer (some ⟨b3, oo + Y.length * 2 + 1, none⟩)) he139 rfl (rn_faD1 rfl (he139.op rfl) rfl w9) ?_
      intro a140 he140
      clear he139 a139
      obtain ⟨F_, hsep, hF, hstep⟩ := Dt.step (A := [rowG (.slice (some ⟨b3, oo, none⟩) (pgI (Y ++ [(gn, M)])).length d2) (pgI (Y ++ [(gn, M)]))]) (D := [rowD (.slice A1 R.L.length c1) xs, rdX xs R.L]) hD
      refine lPg (i := Y.length) 1 ((gn : Int), (M.length : Int) + 1) (.inr ⟨rfl, rfl⟩) hsep.the (by omega) hzg he140 rfl (wanted_plain rfl _) rfl rfl rfl ?_
      intro w141 a142 ht he142
      obtain ⟨hD2, hHs⟩ := hstep _ _ ht
      have hH141 := hHs _ rfl hH9
      clear hHs hstep hsep hF hD ht hrg
      have hD := hD2
      clear hD2
      clear he140 a140 hH9
      refine wpList_nil (then_ok ?_)
      have e9 : (pgI (Y ++ [(gn, M)])).set Y.length ((gn : Int), (M.length : Int) + 1) = pgI (adR R (l, s)).P := by rw [haP, ← hadd, pgI_snoc, pgI_snoc]; rw [List.set_append_right _ _ (by rw [pgI_len]; exact Nat.le_refl _), pgI_len, Nat.sub_self]; simp
      rw [e9] at hD
      have e10 : (pgI (Y ++ [(gn, M)])).length = (pgI (adR R (l, s)).P).length := by rw [← e9, List.length_set]
      rw [e10] at hD
      have hH8 := hH141
      rw [e10] at hH8
      clear hH141
      have hxl3 : (xs ++ [(⟨none, 0, 0, s⟩ : LV)]).length = (adR R (l, s)).L.length := by rw [haL]; simp [hxl]
      refine wp_seq ?_
      refine wp_region_split1 (S := Hp (bare w) [⟨p5, 33, #[.int .i64 0, .int .i64 0, .int .i64 0, .slice none 0 0, .slice none 0 0]⟩, ⟨p3, 36, #[.slice Bx l.length cb, .bool s]⟩, ⟨p1, 33, #[.int .i64 R.mo, .int .i64 R.pl, .int .i64 R.fi, .slice A1 R.L.length c1, .slice (some ⟨b3, oo, none⟩) (pgI (adR R (l, s)).P).length d2]⟩]) 6 2 (by kernel_rfl) (by kernel_rfl) (by kernel_rfl) ?_
      have hn : New w141 (World.drew w141) := (Fr.refl _ _).drew
      replace hD := (hD).new hn
      clear hn
      have hH143 := hH8.drew
      clear hH8
      generalize World.drew w141 = w143 at *
      refine hW (fuel := 5) (i := 0) (.pointer (some ⟨p1, 3, none⟩)) he142 rfl (by kernel_rfl) (fun _ _ _ h => h) (fun w' _ => rn_faQ3 rfl (he142.op rfl) rfl w') hH143 ?_
      intro a144 he144
      clear he142 a142
      refine hW (fuel := 4) (i := 1) (.slice A1 R.L.length c1) he144 rfl (by kernel_rfl) (fun _ _ _ h => h) (fun w' hw' => rn_ldLs rfl (he144.op rfl) (hw'.at (i := 2) rfl) rfl) hH143 ?_
      intro a145 he145
      clear he144 a144
      refine hW (fuel := 3) (i := 2) (.agg #[.slice Bx l.length cb, .bool s]) he145 rfl (by kernel_rfl) (fun _ _ _ h => h) (fun w' hw' => rn_ldp _ rfl (he145.op rfl) undL rfl infoL2 (hw'.at (i := 1) rfl) rfl) hH143 ?_
      intro a146 he146
      clear he145 a145
      refine hC (fuel := 2) (i := 3) he146 (by kernel_rfl) rfl rfl rfl Tryd.func34 (by kernel_rfl) rfl rfl (wanted_plain rfl _) rfl (rcopy_d _ l s (by omega) w143 ((SlF.fr hx0 hD.fr hGF).sl)) ?_
      rintro _ w147 ⟨Ac, cc, rfl, ht⟩
      have hD2 := hD.made ht
      have hH147 := hH143.call ht.new
      replace hD := hD2
      clear hD2 ht
      refine ⟨_, rfl, hH147, ?_⟩
      intro a148 he148
      clear he146 a146 hH143
      refine hNewP (fuel := 1) (i := 4) (fun p => .slice (some ⟨p, 0, none⟩) 1 1) he148 hH147 (by kernel_rfl) rfl rfl rfl (wanted_plain rfl _) (rn_bsL1 rfl (he148.op rfl) w147) ?_
      intro p149 w149 a150 hp hn hH149 he150
      replace hD := hD.cons hn hp (hH149.at (i := 0) rfl).lt
      refine ⟨(hH149.drop1 0 rfl), ?_⟩
      clear he148 a148 hH147 hn hp
      replace hD := hD.pick 2 rfl
      obtain ⟨F_, hsep, hF, hstep⟩ := Dt.step (A := [rowD (.slice A1 R.L.length c1) xs]) (D := [cellsD (.slice Ac l.length cc) l, rowG (.slice (some ⟨b3, oo, none⟩) (pgI (adR R (l, s)).P).length d2) (pgI (adR R (l, s)).P), rdX xs R.L]) hD
      refine hEx (fuel := 0) (i := 5) he150 (by kernel_rfl) rfl rfl rfl (wanted_plain rfl _) (app_r (u := ⟨Ac, l.length, cc, s⟩) (M := (adR R (l, s)).L.length) hsep.the (rdg_blk (R := rL) (l := [⟨Ac, l.length, cc, s⟩]) (hH149.at (i := 0) rfl) rfl rfl) (by simpa using hxl3) (by rw [haL, List.length_append, List.length_singleton]; omega) rfl (he150.op rfl) (he150.op rfl)) ?_
      rintro _ w151 ⟨A3, c3, rfl, ht⟩
      obtain ⟨hD2, hHs⟩ := hstep _ _ ht
      have hH151 := hHs _ rfl hH149
      clear hHs hstep hsep hF
      replace hD := hD2
      clear hD2 ht
      refine ⟨(hH151.drop1 0 rfl), ?_⟩
      intro a152 he152
      clear he150 a150 hH149
      refine wpAnyH_done (by kernel_rfl) ?_ _
      refine head_done ?_
      refine hW (fuel := 1) (i := 6) (.pointer (some ⟨p1, 3, none⟩)) he152 rfl (by kernel_rfl) (fun _ _ _ h => h) (fun w' _ => rn_faQ3 rfl (he152.op rfl) rfl w') trivial ?_
      intro a153 he153
      clear he152 a152
      refine hSetV (fuel := 0) (n := 7) 3 #[.slice A3 (adR R (l, s)).L.length c3] (cs := #[.int .i64 R.mo, .int .i64 R.pl, .int .i64 R.fi, .slice A3 (adR R (l, s)).L.length c3, .slice (some ⟨b3, oo, none⟩) (pgI (adR R (l, s)).P).length d2]) he153 hH151 (by kernel_rfl) rfl rfl (wanted_plain rfl _) rfl rfl rfl rfl rfl (by kernel_rfl) (by kernel_rfl) (by kernel_rfl) rfl ?_
      intro w154 a155 hH154 hf he155
      replace hD := hD.setb (i := 3) rfl rfl hf
      replace hH154 : Hp (bare w) [⟨p149, 36, #[.slice Ac l.length cc, .bool s]⟩, ⟨p5, 33, #[.int .i64 0, .int .i64 0, .int .i64 0, .slice none 0 0, .slice none 0 0]⟩, ⟨p3, 36, #[.slice Bx l.length cb, .bool s]⟩, ⟨p1, 33, #[.int .i64 R.mo, .int .i64 R.pl, .int .i64 R.fi, .slice A3 (adR R (l, s)).L.length c3, .slice (some ⟨b3, oo, none⟩) (pgI (adR R (l, s)).P).length d2]⟩] w154 := hH154
      refine ⟨trivial, ?_⟩
      clear hf
      clear he153 a153 hH151
      refine wpAnyH_done (by kernel_rfl) ?_ _
      refine then_ok ?_
      have hH156 := hH154.tail rfl
      clear hH154
      replace hD := hD.tail
      replace hD := hD.pick 2 rfl
      replace hD := hD.pick 3 rfl
      replace hD := hD.pick 3 rfl
      replace hD := hD.pick 3 rfl
      replace hD := Dt.front (A := [rowD (.slice A3 (adR R (l, s)).L.length c3) (xs ++ [⟨Ac, l.length, cc, s⟩]), cellsD (.slice Ac l.length cc) l, rdX xs R.L]) (B := [rdD (.slice A3 (adR R (l, s)).L.length c3) (adR R (l, s)).L]) (D := [rowG (.slice (some ⟨b3, oo, none⟩) (pgI (adR R (l, s)).P).length d2) (pgI (adR R (l, s)).P)]) hD (fun G h => by have h_ := rd_snoc (x := ⟨Ac, l.length, cc, s⟩) (l := (l, s)) (xs := xs) (L := R.L) rfl h; rw [← haL] at h_; exact h_)
      refine wp_seq (wp_region_lit ?_)
      refine lW (.agg #[.int .i64 R.mo, .int .i64 R.pl, .int .i64 R.fi, .slice A3 (adR R (l, s)).L.length c3, .slice (some ⟨b3, oo, none⟩) (pgI (adR R (l, s)).P).length d2]) he155 rfl (rn_ldp _ rfl (he155.op rfl) undQ rfl infoQ5 (hH156.at (i := 2) rfl) rfl) ?_
      intro a157 he157
      clear he155 a155
      replace hD := hD.pick 1 rfl
      replace hD := hD.pick 1 rfl
      obtain ⟨F_, hsep, hF, hstep⟩ := Dt.step (A := [rdD (.slice A3 (adR R (l, s)).L.length c3) (adR R (l, s)).L, rowG (.slice (some ⟨b3, oo, none⟩) (pgI (adR R (l, s)).P).length d2) (pgI (adR R (l, s)).P)]) (D := []) hD
      refine lCx he157 rfl rfl Tryd.func61 (by kernel_rfl) rfl rfl (wanted_plain rfl _) rfl (qEvict F_ (adR R (l, s)) _ _ _ _ w154 hsep (by rw [haL, List.length_append, List.length_singleton]; omega) hok.pl1 hok.pl2 (addP_ok hok.pl1 hok.pg) (by rw [haN]; omega) hF hD.tab) ?_
      rintro _ w158 ⟨A5, c5, B5, d5, rfl, ht⟩
      obtain ⟨hD2, hHs⟩ := hstep _ _ ht
      have hH158 := hHs _ rfl hH156
      clear hHs hstep hsep hF
      replace hD := hD2
      clear hD2 ht
      refine ⟨_, rfl, ?_⟩
      intro a159 he159
      clear he157 a157 hH156
      refine lSetF 0 #[.int .i64 ((evR (adR R (l, s))).mo : Int), .int .i64 ((evR (adR R (l, s))).pl : Int), .int .i64 ((evR (adR R (l, s))).fi : Int), .slice A5 (evR (adR R (l, s))).L.length c5, .slice B5 (pgI (evR (adR R (l, s))).P).length d5] (cs := #[.int .i64 ((evR (adR R (l, s))).mo : Int), .int .i64 ((evR (adR R (l, s))).pl : Int), .int .i64 ((evR (adR R (l, s))).fi : Int), .slice A5 (evR (adR R (l, s))).L.length c5, .slice B5 (pgI (evR (adR R (l, s))).P).length d5]) he159 hH158 rfl (wanted_plain rfl _) rfl rfl rfl rfl rfl (by kernel_rfl) (by kernel_rfl) (by kernel_rfl) rfl ?_
      intro w160 a161 hH160 hf he161
      replace hD := hD.setb (i := 0) rfl rfl hf
      replace hH160 : Hp (bare w) [⟨p5, 33, #[.int .i64 ((evR (adR R (l, s))).mo : Int), .int .i64 ((evR (adR R (l, s))).pl : Int), .int .i64 ((evR (adR R (l, s))).fi : Int), .slice A5 (evR (adR R (l, s))).L.length c5, .slice B5 (pgI (evR (adR R (l, s))).P).length d5]⟩, ⟨p3, 36, #[.slice Bx l.length cb, .bool s]⟩, ⟨p1, 33, #[.int .i64 R.mo, .int .i64 R.pl, .int .i64 R.fi, .slice A3 (adR R (l, s)).L.length c3, .slice (some ⟨b3, oo, none⟩) (pgI (adR R (l, s)).P).length d2]⟩] w160 := hH160
      clear hf
      clear he159 a159 hH158
      refine lW (.int .i64 0) he161 rfl (rn_asg rfl (he161.op rfl) w160) ?_
      intro a162 he162
      clear he161 a161
      refine wpList_nil (then_ok ?_)
      refine wp_ret ?_
      try simp only [Exit.then, Exit.inBlock, Exit.noGoto]
      exact ret_rowt rfl he162 rfl rfl (hH160.at (i := 0) rfl) undQ rfl infoQ5 ⟨A5, c5, B5, d5, rfl, hD.turned⟩
set_option linter.unusedSimpArgs false in
set_option maxRecDepth 100000 in
set_option maxHeartbeats 1600000 in
theorem qLimited (F : FP) (R : RS) (A B : Option Addr) (c d : Nat) (i : Int) (w : World) (hr : SepL [rdD (.slice A R.L.length c) R.L, rowG (.slice B (pgI R.P).length d) (pgI R.P)] w F) (hok : RgOk R) (hsm : R.L.length ≤ 1000) (hF : ∀ k, F k → 2 ≤ k ∧ k < w.heap.size) (hT : Tab w) : Calls Tryd.prog 40 #[.agg #[.int .i64 R.mo, .int .i64 R.pl, .int .i64 R.fi, .slice A R.L.length c, .slice B (pgI R.P).length d], .int .i64 i] w fun e w' => ∃ A' c' B' d', e = .returned (.tuple #[.agg #[.int .i64 ((limitR R i).1.mo : Int), .int .i64 ((limitR R i).1.pl : Int), .int .i64 ((limitR R i).1.fi : Int), .slice A' (limitR R i).1.L.length c', .slice B' (pgI (limitR R i).1.P).length d'], .int .i64 (limitR R i).2]) ∧ Turned [rdD (.slice A' (limitR R i).1.L.length c') (limitR R i).1.L, rowG (.slice B' (pgI (limitR R i).1.P).length d') (pgI (limitR R i).1.P)] F w w' := by
  have hnb : bigN = 1000000000 := rfl
  have hnn : R.nx = R.fi + R.L.length := rfl
  have hn8 := hok.nx
  have hP1 := hok.pl1
  have hP2 := hok.pl2
  have hPl : R.P.length ≤ 1000 := by have h1 := hok.pg.len_le; have h2 : (flatP R.P).length ≤ 1000 := hsm; omega
  have hGl := pgI_len R.P
  refine calls_args (vl := [.agg #[.int .i64 R.mo, .int .i64 R.pl, .int .i64 R.fi, .slice A R.L.length c, .slice B (pgI R.P).length d], .int .i64 i]) 17 Tryd.func40 rfl Tryd.ntmps40 (by kernel_rfl) (fun a he => ?_)
  have he0 : Env 17 [(0, .agg #[.int .i64 R.mo, .int .i64 R.pl, .int .i64 R.fi, .slice A R.L.length c, .slice B (pgI R.P).length d]), (1, .int .i64 i)] a := he
  clear he
  have hH := Hp.bare w
  have hD := Dt.begin hT hr hF
  refine wp_seq (wp_region_lit ?_)
  refine lNewP (fun p => .pointer (some ⟨p, 0, none⟩)) he0 hH rfl rfl (wanted_plain rfl _) (rn_boxQ rfl (he0.op rfl) w) ?_
  intro p1 w1 a2 hp hn hH1 he2
  replace hD := hD.cons hn hp (hH1.at (i := 0) rfl).lt
  clear he0 a hH hn hp
  refine lNewP (fun p => .pointer (some ⟨p, 0, none⟩)) he2 hH1 rfl rfl (wanted_plain rfl _) (rn_allocQ rfl w1) ?_
  intro p3 w3 a4 hp hn hH3 he4
  replace hD := hD.cons hn hp (hH3.at (i := 0) rfl).lt
  clear he2 a2 hH1 hn hp
  refine lW (.int .i64 0) he4 rfl (rn_asg rfl (he4.op rfl) w3) ?_
  intro a5 he5
  clear he4 a4
  refine wpList_nil (then_ok ?_)
  by_cases h0 : i < 0
  · skip
    refine wp_seq ?_
    refine wp_seq (wp_region_lit ?_)
    refine lW (.int .i64 i) he5 rfl (rn_mv rfl (he5.op rfl) w3) ?_
    intro a6 he6
    clear he5 a5
    refine lW (.bool true) he6 rfl (rn_lss rfl (he6.op rfl) (he6.op rfl) (decide_eq_true h0) w3) ?_
    intro a7 he7
    clear he6 a6
    refine lW (.bool true) he7 rfl (rn_mv rfl (he7.op rfl) w3) ?_
    intro a8 he8
    clear he7 a7
    refine lSkip he8 rfl rfl (he8.wantNot rfl rfl rfl rfl rfl rfl) ?_
    intro a9 he9
    clear he8 a8
    refine lSkip he9 rfl rfl (he9.wantNot rfl rfl rfl rfl rfl rfl) ?_
    intro a10 he10
    clear he9 a9
    refine lW (.bool true) he10 rfl (rn_pk rfl (he10.op rfl) (he10.op rfl) w3) ?_
    intro a11 he11
    clear he10 a10
    refine wpList_nil (then_ok ?_)
    refine wp_cond_true (he11.op rfl) ?_
    refine wp_seq (wp_region_lit ?_)
    refine lW (.agg #[.int .i64 R.mo, .int .i64 R.pl, .int .i64 R.fi, .slice A R.L.length c, .slice B (pgI R.P).length d]) he11 rfl (rn_ldp _ rfl (he11.op rfl) undQ rfl infoQ5 (hH3.at (i := 1) rfl) rfl) ?_
    intro a12 he12
    clear he11 a11
    refine lSetF 0 #[.int .i64 R.mo, .int .i64 R.pl, .int .i64 R.fi, .slice A R.L.length c, .slice B (pgI R.P).length d] (cs := #[.int .i64 R.mo, .int .i64 R.pl, .int .i64 R.fi, .slice A R.L.length c, .slice B (pgI R.P).length d]) he12 hH3 rfl (wanted_plain rfl _) rfl rfl rfl rfl rfl (by kernel_rfl) (by kernel_rfl) (by kernel_rfl) rfl ?_
    intro w13 a14 hH13 hf he14
    replace hD := hD.setb (i := 0) rfl rfl hf
    replace hH13 : Hp (bare w) [⟨p3, 33, #[.int .i64 R.mo, .int .i64 R.pl, .int .i64 R.fi, .slice A R.L.length c, .slice B (pgI R.P).length d]⟩, ⟨p1, 33, #[.int .i64 R.mo, .int .i64 R.pl, .int .i64 R.fi, .slice A R.L.length c, .slice B (pgI R.P).length d]⟩] w13 := hH13
    clear hf
    clear he12 a12 hH3
    refine lW (.int .i64 2) he14 rfl (rn_asg rfl (he14.op rfl) w13) ?_
    intro a15 he15
    clear he14 a14
    refine wpList_nil (then_ok ?_)
    have e_ : limitR R i = (R, 2) := if_neg (by omega)
    rw [e_]
    refine wp_ret ?_
    try simp only [Exit.then, Exit.inBlock, Exit.noGoto]
    exact ret_rowt rfl he15 rfl rfl (hH13.at (i := 0) rfl) undQ rfl infoQ5 ⟨A, c, B, d, rfl, hD.turned⟩
  by_cases h9 : 1048576 < i
  · skip
    refine wp_seq ?_
    refine wp_seq (wp_region_lit ?_)
    refine lW (.int .i64 i) he5 rfl (rn_mv rfl (he5.op rfl) w3) ?_
    intro a16 he16
    clear he5 a5
    refine lW (.bool false) he16 rfl (rn_lss rfl (he16.op rfl) (he16.op rfl) (decide_eq_false h0) w3) ?_
    intro a17 he17
    clear he16 a16
    refine lW (.bool false) he17 rfl (rn_mv rfl (he17.op rfl) w3) ?_
    intro a18 he18
    clear he17 a17
    refine lV (.int .i64 i) he18 rfl rfl (he18.want rfl rfl rfl rfl rfl) (rn_mv rfl (he18.op rfl) w3) ?_
    intro a19 he19
    clear he18 a18
    refine lV (.bool true) he19 rfl rfl (he19.want rfl rfl rfl rfl rfl) (rn_gtr rfl (he19.op rfl) (he19.op rfl) (decide_eq_true h9) w3) ?_
    intro a20 he20
    clear he19 a19
    refine lW (.bool true) he20 rfl (rn_pk0 rfl (he20.op rfl) (he20.op rfl) w3) ?_
    intro a21 he21
    clear he20 a20
    refine wpList_nil (then_ok ?_)
    refine wp_cond_true (he21.op rfl) ?_
    refine wp_seq (wp_region_lit ?_)
    refine lW (.agg #[.int .i64 R.mo, .int .i64 R.pl, .int .i64 R.fi, .slice A R.L.length c, .slice B (pgI R.P).length d]) he21 rfl (rn_ldp _ rfl (he21.op rfl) undQ rfl infoQ5 (hH3.at (i := 1) rfl) rfl) ?_
    intro a22 he22
    clear he21 a21
    refine lSetF 0 #[.int .i64 R.mo, .int .i64 R.pl, .int .i64 R.fi, .slice A R.L.length c, .slice B (pgI R.P).length d] (cs := #[.int .i64 R.mo, .int .i64 R.pl, .int .i64 R.fi, .slice A R.L.length c, .slice B (pgI R.P).length d]) he22 hH3 rfl (wanted_plain rfl _) rfl rfl rfl rfl rfl (by kernel_rfl) (by kernel_rfl) (by kernel_rfl) rfl ?_
    intro w23 a24 hH23 hf he24
    replace hD := hD.setb (i := 0) rfl rfl hf
    replace hH23 : Hp (bare w) [⟨p3, 33, #[.int .i64 R.mo, .int .i64 R.pl, .int .i64 R.fi, .slice A R.L.length c, .slice B (pgI R.P).length d]⟩, ⟨p1, 33, #[.int .i64 R.mo, .int .i64 R.pl, .int .i64 R.fi, .slice A R.L.length c, .slice B (pgI R.P).length d]⟩] w23 := hH23
    clear hf
    clear he22 a22 hH3
    refine lW (.int .i64 2) he24 rfl (rn_asg rfl (he24.op rfl) w23) ?_
    intro a25 he25
    clear he24 a24
    refine wpList_nil (then_ok ?_)
    have e_ : limitR R i = (R, 2) := if_neg (by omega)
    rw [e_]
    refine wp_ret ?_
    try simp only [Exit.then, Exit.inBlock, Exit.noGoto]
    exact ret_rowt rfl he25 rfl rfl (hH23.at (i := 0) rfl) undQ rfl infoQ5 ⟨A, c, B, d, rfl, hD.turned⟩
  refine wp_seq ?_
  refine wp_seq (wp_region_lit ?_)
  refine lW (.int .i64 i) he5 rfl (rn_mv rfl (he5.op rfl) w3) ?_
  intro a26 he26
  clear he5 a5
  refine lW (.bool false) he26 rfl (rn_lss rfl (he26.op rfl) (he26.op rfl) (decide_eq_false h0) w3) ?_
  intro a27 he27
  clear he26 a26
  refine lW (.bool false) he27 rfl (rn_mv rfl (he27.op rfl) w3) ?_
  intro a28 he28
  clear he27 a27
  refine lV (.int .i64 i) he28 rfl rfl (he28.want rfl rfl rfl rfl rfl) (rn_mv rfl (he28.op rfl) w3) ?_
  intro a29 he29
  clear he28 a28
  refine lV (.bool false) he29 rfl rfl (he29.want rfl rfl rfl rfl rfl) (rn_gtr rfl (he29.op rfl) (he29.op rfl) (decide_eq_false h9) w3) ?_
  intro a30 he30
  clear he29 a29
  refine lW (.bool false) he30 rfl (rn_pk0 rfl (he30.op rfl) (he30.op rfl) w3) ?_
  intro a31 he31
  clear he30 a30
  refine wpList_nil (then_ok ?_)
  refine wp_cond_false (he31.op rfl) ?_
  refine wp_skip ?_
  refine then_ok ?_
  obtain ⟨k, rfl⟩ : ∃ k : Nat, i = k := ⟨i.toNat, by omega⟩
  obtain ⟨T, hT9⟩ : ∃ T : RS, T = { R with mo := k } := ⟨_, rfl⟩
  have e_ : limitR R k = (evR T, 0) := by rw [hT9]; exact if_pos (by omega)
  rw [e_]
  have hT1 : (k : Nat) = T.mo ∧ R.pl = T.pl ∧ R.fi = T.fi ∧ R.nx = T.nx ∧ R.P = T.P ∧ R.L = T.L := by subst hT9; exact ⟨rfl, rfl, rfl, rfl, rfl, rfl⟩
  obtain ⟨q1, q2, q3, q4, q5, q6⟩ := hT1
  refine wp_seq (wp_region_lit ?_)
  refine lW (.int .i64 k) he31 rfl (rn_mv rfl (he31.op rfl) w3) ?_
  intro a32 he32
  clear he31 a31
  refine lW (.pointer (some ⟨p1, 0, none⟩)) he32 rfl (rn_faQ0 rfl (he32.op rfl) rfl w3) ?_
  intro a33 he33
  clear he32 a32
  refine lSetF 1 #[.int .i64 k] (cs := #[.int .i64 k, .int .i64 R.pl, .int .i64 R.fi, .slice A R.L.length c, .slice B (pgI R.P).length d]) he33 hH3 rfl (wanted_plain rfl _) rfl rfl rfl rfl rfl (by kernel_rfl) (by kernel_rfl) (by kernel_rfl) rfl ?_
  intro w34 a35 hH34 hf he35
  replace hD := hD.setb (i := 1) rfl rfl hf
  replace hH34 : Hp (bare w) [⟨p3, 33, #[.int .i64 0, .int .i64 0, .int .i64 0, .slice none 0 0, .slice none 0 0]⟩, ⟨p1, 33, #[.int .i64 k, .int .i64 R.pl, .int .i64 R.fi, .slice A R.L.length c, .slice B (pgI R.P).length d]⟩] w34 := hH34
  clear hf
  clear he33 a33 hH3
  refine wpList_nil (then_ok ?_)
  have he36 : Env 17 [(5, .int .i64 0), (4, .pointer (some ⟨p3, 0, none⟩)), (2, .pointer (some ⟨p1, 0, none⟩))] a35 := he35.mem ⟨rfl, rfl, rfl, trivial⟩
  clear he35
  rw [q6, q5] at hD
  have hH9 := hH34
  rw [q1, q2, q3, q6, q5] at hH9
  clear hH34
  refine wp_seq (wp_region_lit ?_)
  refine lW (.agg #[.int .i64 T.mo, .int .i64 T.pl, .int .i64 T.fi, .slice A T.L.length c, .slice B (pgI T.P).length d]) he36 rfl (rn_ldp _ rfl (he36.op rfl) undQ rfl infoQ5 (hH9.at (i := 1) rfl) rfl) ?_
  intro a37 he37
  clear he36 a35
  replace hD := hD.pick 1 rfl
  replace hD := hD.pick 1 rfl
  obtain ⟨F_, hsep, hF, hstep⟩ := Dt.step (A := [rdD (.slice A T.L.length c) T.L, rowG (.slice B (pgI T.P).length d) (pgI T.P)]) (D := []) hD
  refine lCx he37 rfl rfl Tryd.func61 (by kernel_rfl) rfl rfl (wanted_plain rfl _) rfl (qEvict F_ T _ _ _ _ w34 hsep (by rw [← q6]; omega) (by omega) (by omega) (by rw [← q2, ← q5]; exact hok.pg) (by omega) hF hD.tab) ?_
  rintro _ w38 ⟨A5, c5, B5, d5, rfl, ht⟩
  obtain ⟨hD2, hHs⟩ := hstep _ _ ht
  have hH38 := hHs _ rfl hH9
  clear hHs hstep hsep hF
  replace hD := hD2
  clear hD2 ht
  refine ⟨_, rfl, ?_⟩
  intro a39 he39
  clear he37 a37 hH9
  refine lSetF 0 #[.int .i64 ((evR T).mo : Int), .int .i64 ((evR T).pl : Int), .int .i64 ((evR T).fi : Int), .slice A5 (evR T).L.length c5, .slice B5 (pgI (evR T).P).length d5] (cs := #[.int .i64 ((evR T).mo : Int), .int .i64 ((evR T).pl : Int), .int .i64 ((evR T).fi : Int), .slice A5 (evR T).L.length c5, .slice B5 (pgI (evR T).P).length d5]) he39 hH38 rfl (wanted_plain rfl _) rfl rfl rfl rfl rfl (by kernel_rfl) (by kernel_rfl) (by kernel_rfl) rfl ?_
  intro w40 a41 hH40 hf he41
  replace hD := hD.setb (i := 0) rfl rfl hf
  replace hH40 : Hp (bare w) [⟨p3, 33, #[.int .i64 ((evR T).mo : Int), .int .i64 ((evR T).pl : Int), .int .i64 ((evR T).fi : Int), .slice A5 (evR T).L.length c5, .slice B5 (pgI (evR T).P).length d5]⟩, ⟨p1, 33, #[.int .i64 T.mo, .int .i64 T.pl, .int .i64 T.fi, .slice A T.L.length c, .slice B (pgI T.P).length d]⟩] w40 := hH40
  clear hf
  clear he39 a39 hH38
  refine lW (.int .i64 0) he41 rfl (rn_asg rfl (he41.op rfl) w40) ?_
  intro a42 he42
  clear he41 a41
  refine wpList_nil (then_ok ?_)
  refine wp_ret ?_
  try simp only [Exit.then, Exit.inBlock, Exit.noGoto]
  exact ret_rowt rfl he42 rfl rfl (hH40.at (i := 0) rfl) undQ rfl infoQ5 ⟨A5, c5, B5, d5, rfl, hD.turned⟩
set_option linter.unusedSimpArgs false in
set_option maxRecDepth 100000 in
set_option maxHeartbeats 1600000 in
theorem qClear (F : FP) (R : RS) (A B : Option Addr) (c d : Nat)  (w : World) (hr : SepL [rdD (.slice A R.L.length c) R.L, rowG (.slice B (pgI R.P).length d) (pgI R.P)] w F) (hok : RgOk R) (hsm : R.L.length ≤ 1000) (hF : ∀ k, F k → 2 ≤ k ∧ k < w.heap.size) (hT : Tab w) : Calls Tryd.prog 41 #[.agg #[.int .i64 R.mo, .int .i64 R.pl, .int .i64 R.fi, .slice A R.L.length c, .slice B (pgI R.P).length d]] w fun e w' => ∃ A' c' B' d', e = .returned (.agg #[.int .i64 ((clearR R).mo : Int), .int .i64 ((clearR R).pl : Int), .int .i64 ((clearR R).fi : Int), .slice A' (clearR R).L.length c', .slice B' (pgI (clearR R).P).length d']) ∧ Turned [rdD (.slice A' (clearR R).L.length c') (clearR R).L, rowG (.slice B' (pgI (clearR R).P).length d') (pgI (clearR R).P)] F w w' := by
  have hnb : bigN = 1000000000 := rfl
  have hnn : R.nx = R.fi + R.L.length := rfl
  have hn8 := hok.nx
  have hP1 := hok.pl1
  have hP2 := hok.pl2
  have hPl : R.P.length ≤ 1000 := by have h1 := hok.pg.len_le; have h2 : (flatP R.P).length ≤ 1000 := hsm; omega
  have hGl := pgI_len R.P
  refine calls_args (vl := [.agg #[.int .i64 R.mo, .int .i64 R.pl, .int .i64 R.fi, .slice A R.L.length c, .slice B (pgI R.P).length d]]) 10 Tryd.func41 rfl Tryd.ntmps41 (by kernel_rfl) (fun a he => ?_)
  have he0 : Env 10 [(0, .agg #[.int .i64 R.mo, .int .i64 R.pl, .int .i64 R.fi, .slice A R.L.length c, .slice B (pgI R.P).length d])] a := he
  clear he
  have hH := Hp.bare w
  have hD := Dt.begin hT hr hF
  refine wp_seq (wp_region_lit ?_)
  refine lNewP (fun p => .pointer (some ⟨p, 0, none⟩)) he0 hH rfl rfl (wanted_plain rfl _) (rn_boxQ rfl (he0.op rfl) w) ?_
  intro p1 w1 a2 hp hn hH1 he2
  replace hD := hD.cons hn hp (hH1.at (i := 0) rfl).lt
  clear he0 a hH hn hp
  refine lNewP (fun p => .pointer (some ⟨p, 0, none⟩)) he2 hH1 rfl rfl (wanted_plain rfl _) (rn_allocQ rfl w1) ?_
  intro p3 w3 a4 hp hn hH3 he4
  replace hD := hD.cons hn hp (hH3.at (i := 0) rfl).lt
  clear he2 a2 hH1 hn hp
  refine wpList_nil (then_ok ?_)
  refine wp_seq ?_
  refine wp_region_held_drew (S := Hp (bare w) [⟨p1, 33, #[.int .i64 R.mo, .int .i64 R.pl, .int .i64 R.fi, .slice A R.L.length c, .slice B (pgI R.P).length d]⟩]) (by kernel_rfl) ((hH3.drew).drop1 0 rfl) (fun _ => ?_)
  have hn : New w3 (World.drew w3) := (Fr.refl _ _).drew
  replace hD := (hD).new hn
  clear hn
  have hH5 := hH3.drew
  clear hH3
  generalize World.drew w3 = w5 at *
  refine hW (fuel := 7) (i := 0) (.pointer (some ⟨p1, 0, none⟩)) he4 rfl (by kernel_rfl) (fun _ _ _ h => h) (fun w' _ => rn_faQ0 rfl (he4.op rfl) rfl w') (hH5.drop1 0 rfl) ?_
  intro a6 he6
  clear he4 a4
  refine hW (fuel := 6) (i := 1) (.int .i64 R.mo) he6 rfl (by kernel_rfl) (fun _ _ _ h => h) (fun w' hw' => rn_ld1 rfl (he6.op rfl) Tryd.underlying3 (hw'.at (i := 0) rfl) rfl) (hH5.drop1 0 rfl) ?_
  intro a7 he7
  clear he6 a6
  refine hW (fuel := 5) (i := 2) (.pointer (some ⟨p1, 1, none⟩)) he7 rfl (by kernel_rfl) (fun _ _ _ h => h) (fun w' _ => rn_faQ1 rfl (he7.op rfl) rfl w') (hH5.drop1 0 rfl) ?_
  intro a8 he8
  clear he7 a7
  refine hW (fuel := 4) (i := 3) (.int .i64 R.pl) he8 rfl (by kernel_rfl) (fun _ _ _ h => h) (fun w' hw' => rn_ld1 rfl (he8.op rfl) Tryd.underlying3 (hw'.at (i := 0) rfl) rfl) (hH5.drop1 0 rfl) ?_
  intro a9 he9
  clear he8 a8
  refine hW (fuel := 3) (i := 4) (.agg #[.int .i64 R.mo, .int .i64 R.pl, .int .i64 R.fi, .slice A R.L.length c, .slice B (pgI R.P).length d]) he9 rfl (by kernel_rfl) (fun _ _ _ h => h) (fun w' hw' => rn_ldp _ rfl (he9.op rfl) undQ rfl infoQ5 (hw'.at (i := 0) rfl) rfl) (hH5.drop1 0 rfl) ?_
  intro a10 he10
  clear he9 a9
  refine hC (fuel := 2) (i := 5) he10 (by kernel_rfl) rfl rfl rfl Tryd.func36 (by kernel_rfl) rfl rfl (wanted_plain rfl _) rfl (qNext _ _ _ (R.nx : Int) _ _ _ _ _ _ w5 (by rw [hnn]; omega) (by omega) (by omega)) ?_
  rintro _ w11 ⟨rfl, hn⟩
  have hH11 := hH5.call hn
  replace hD := (hD).new hn
  refine ⟨_, rfl, (hH11.drop1 0 rfl), ?_⟩
  intro a12 he12
  clear he10 a10 hH5 hn
  refine hW (fuel := 1) (i := 6) (.agg #[.int .i64 R.mo, .int .i64 R.pl, .int .i64 R.nx, .slice none 0 0, .slice none 0 0]) he12 rfl (by kernel_rfl) (fun _ _ _ h => h) (fun w' _ => rn_bQ012 rfl (he12.op rfl) (he12.op rfl) (he12.op rfl) w') (hH11.drop1 0 rfl) ?_
  intro a13 he13
  clear he12 a12
  refine hSetV (fuel := 0) (n := 7) 0 #[.int .i64 R.mo, .int .i64 R.pl, .int .i64 R.nx, .slice none 0 0, .slice none 0 0] (cs := #[.int .i64 R.mo, .int .i64 R.pl, .int .i64 R.nx, .slice none 0 0, .slice none 0 0]) he13 hH11 (by kernel_rfl) rfl rfl (wanted_plain rfl _) rfl rfl rfl rfl rfl (by kernel_rfl) (by kernel_rfl) (by kernel_rfl) rfl ?_
  intro w14 a15 hH14 hf he15
  replace hD := hD.setb (i := 0) rfl rfl hf
  replace hH14 : Hp (bare w) [⟨p3, 33, #[.int .i64 R.mo, .int .i64 R.pl, .int .i64 R.nx, .slice none 0 0, .slice none 0 0]⟩, ⟨p1, 33, #[.int .i64 R.mo, .int .i64 R.pl, .int .i64 R.fi, .slice A R.L.length c, .slice B (pgI R.P).length d]⟩] w14 := hH14
  refine ⟨(hH14.drop1 0 rfl), ?_⟩
  clear hf
  clear he13 a13 hH11
  refine wpAnyH_done (by kernel_rfl) ?_ _
  refine then_ok ?_
  replace hD := Dt.front (A := [rdD (.slice A R.L.length c) R.L, rowG (.slice B (pgI R.P).length d) (pgI R.P)]) (B := [rdD (.slice none 0 0) [], rowG (.slice none 0 0) []]) (D := []) hD (fun G h => ⟨fun _ => False, fun _ => False, LnsF.nil _ _, SepL.one (d := rowG _ _) (OwnO.nil _ _), fun _ h _ => h, fun _ h => h.elim, fun _ h => h.elim⟩)
  refine wp_ret ?_
  try simp only [Exit.then, Exit.inBlock, Exit.noGoto]
  exact ret_row rfl he15 rfl (hH14.at (i := 0) rfl) undQ rfl infoQ5 ⟨none, 0, none, 0, rfl, hD.turned⟩
set_option linter.unusedSimpArgs false in
set_option maxRecDepth 100000 in
set_option maxHeartbeats 1600000 in
theorem qGet (R : RS) (A B : Option Addr) (c n8 d : Nat) (i : Int) (Gx : FP) (w : World) (hr : (rdD (.slice A R.L.length c) R.L).P w Gx) (hn8 : R.nx ≤ bigN) : Calls Tryd.prog 13 #[.agg #[.int .i64 R.mo, .int .i64 R.pl, .int .i64 R.fi, .slice A R.L.length c, .slice B n8 d], .int .i64 i] w fun e w' => ∃ A' c', e = .returned (.tuple #[.agg #[.slice A' (getR R i).1.1.length c', .bool (getR R i).1.2], .int .i64 (getR R i).2]) ∧ SlF w' Gx (.slice A' (getR R i).1.1.length c') (getR R i).1.1 ∧ New w w' := by
  have hnb : bigN = 1000000000 := rfl
  have hnn : R.nx = R.fi + R.L.length := rfl
  obtain ⟨A', c', b', xs, e_, hlc, hrd, hbG, hels⟩ := id hr
  simp only [Value.slice.injEq] at e_
  obtain ⟨rfl, -, rfl⟩ := e_
  refine calls_args (vl := [.agg #[.int .i64 R.mo, .int .i64 R.pl, .int .i64 R.fi, .slice A R.L.length c, .slice B n8 d], .int .i64 i]) 22 Tryd.func13 rfl Tryd.ntmps13 (by kernel_rfl) (fun a he => ?_)
  have he0 : Env 22 [(0, .agg #[.int .i64 R.mo, .int .i64 R.pl, .int .i64 R.fi, .slice A R.L.length c, .slice B n8 d]), (1, .int .i64 i)] a := he
  clear he
  have hH := Hp.start w
  refine wp_seq (wp_region_lit ?_)
  refine lNewP (fun p => .pointer (some ⟨p, 0, none⟩)) he0 hH rfl rfl (wanted_plain rfl _) (rn_boxQ rfl (he0.op rfl) w) ?_
  intro p1 w1 a2 hp hn hH1 he2
  clear he0 a hH hn hp
  refine lNewP (fun p => .pointer (some ⟨p, 0, none⟩)) he2 hH1 rfl rfl (wanted_plain rfl _) (rn_allocL rfl w1) ?_
  intro p3 w3 a4 hp hn hH3 he4
  clear he2 a2 hH1 hn hp
  refine lW (.int .i64 0) he4 rfl (rn_asg rfl (he4.op rfl) w3) ?_
  intro a5 he5
  clear he4 a4
  refine wpList_nil (then_ok ?_)
  refine wp_seq ?_
  refine wp_seq (wp_region_lit ?_)
  refine lW (.agg #[.int .i64 R.mo, .int .i64 R.pl, .int .i64 R.fi, .slice A R.L.length c, .slice B n8 d]) he5 rfl (rn_ldp _ rfl (he5.op rfl) undQ rfl infoQ5 (hH3.at (i := 1) rfl) rfl) ?_
  intro a6 he6
  clear he5 a5
  refine lW (.int .i64 i) he6 rfl (rn_mv rfl (he6.op rfl) w3) ?_
  intro a7 he7
  clear he6 a6
  refine lC he7 rfl rfl Tryd.func43 (by kernel_rfl) rfl rfl (wanted_plain rfl _) rfl (qAt R _ _ _ _ _ i w3 hn8) ?_
  intro w8 a9 hn he9
  have hH8 := hH3.call hn
  clear he7 a7 hH3 hn
  refine lW (.int .i64 (missR R i)) he9 rfl (rn_asg rfl (he9.op rfl) w8) ?_
  intro a10 he10
  clear he9 a9
  refine wpList_nil (then_ok ?_)
  by_cases hm : missR R i = 0
  · skip
    refine wp_seq (wp_region_lit ?_)
    refine lW (.int .i64 (missR R i)) he10 rfl (rn_mv rfl (he10.op rfl) w8) ?_
    intro a11 he11
    clear he10 a10
    refine lW (.bool false) he11 rfl (rn_neI rfl (he11.op rfl) (he11.op rfl) (by rw [hm]; rfl) w8) ?_
    intro a12 he12
    clear he11 a11
    refine wpList_nil (then_ok ?_)
    refine wp_cond_false (he12.op rfl) ?_
    refine wp_skip ?_
    refine then_ok ?_
    obtain ⟨k, rfl, hk⟩ := miss_zero hm
    obtain ⟨m, hLk⟩ : ∃ m, R.L[k]? = some m := ⟨_, List.getElem?_eq_getElem hk⟩
    rw [getR_t hm hLk]
    have hxl := hrd.1
    obtain ⟨x, hx⟩ : ∃ x, xs[k]? = some x := ⟨_, List.getElem?_eq_getElem (by omega)⟩
    obtain ⟨hxs, hxf⟩ := hels k _ _ hx hLk
    obtain ⟨Ax, cx, hxe⟩ := hxf.sl.shape
    obtain ⟨xa, xn, xc, xz⟩ := x
    simp only [Value.slice.injEq] at hxe hxs
    obtain ⟨rfl, rfl, rfl⟩ := hxe
    subst hxs
    obtain ⟨oo, eA⟩ := hrd.base (by omega)
    subst eA
    refine wp_seq (wp_region_lit ?_)
    refine lW (.pointer (some ⟨p1, 3, none⟩)) he12 rfl (rn_faQ3 rfl (he12.op rfl) rfl w8) ?_
    intro a13 he13
    clear he12 a12
    refine lW (.slice (some ⟨b', oo, none⟩) R.L.length c) he13 rfl (rn_ldLs rfl (he13.op rfl) (hH8.at (i := 1) rfl) rfl) ?_
    intro a14 he14
    clear he13 a13
    refine lW (.int .i64 ((R.fi + k : Nat) : Int)) he14 rfl (rn_mv rfl (he14.op rfl) w8) ?_
    intro a15 he15
    clear he14 a14
    refine lW (.pointer (some ⟨p1, 2, none⟩)) he15 rfl (rn_faQ2 rfl (he15.op rfl) rfl w8) ?_
    intro a16 he16
    clear he15 a15
    refine lW (.int .i64 R.fi) he16 rfl (rn_ld1 rfl (he16.op rfl) Tryd.underlying3 (hH8.at (i := 1) rfl) rfl) ?_
    intro a17 he17
    clear he16 a16
    refine lW (.int .i64 k) he17 rfl (rn_subI rfl (he17.op rfl) (he17.op rfl) (by rw [IntWalk.i64_in _ ⟨by omega, by omega⟩]; omega) w8) ?_
    intro a18 he18
    clear he17 a17
    refine lW (.pointer (some ⟨b', oo + k * 2, none⟩)) he18 rfl (rn_idxL (i := k) rfl (he18.op rfl) (he18.op rfl) (by omega) (by rw [addr_add]) w8) ?_
    intro a19 he19
    clear he18 a18
    refine lW (.agg #[.slice xa m.1.length xc, .bool m.2]) he19 rfl (rn_ldLn (i := k) rfl (he19.op rfl) (RdG.new hrd hH8.new) rfl hx) ?_
    intro a20 he20
    clear he19 a19
    refine lSetF 0 #[.slice xa m.1.length xc, .bool m.2] (cs := #[.slice xa m.1.length xc, .bool m.2]) he20 hH8 rfl (wanted_plain rfl _) rfl rfl rfl rfl rfl (by kernel_rfl) (by kernel_rfl) (by kernel_rfl) rfl ?_
    intro w21 a22 hH21 hf he22
    replace hH21 : Hp w [⟨p3, 36, #[.slice xa m.1.length xc, .bool m.2]⟩, ⟨p1, 33, #[.int .i64 R.mo, .int .i64 R.pl, .int .i64 R.fi, .slice (some ⟨b', oo, none⟩) R.L.length c, .slice B n8 d]⟩] w21 := hH21
    clear hf
    clear he20 a20 hH8
    refine lW (.int .i64 0) he22 rfl (rn_asg rfl (he22.op rfl) w21) ?_
    intro a23 he23
    clear he22 a22
    refine wpList_nil (then_ok ?_)
    refine wp_ret ?_
    try simp only [Exit.then, Exit.inBlock, Exit.noGoto]
    exact ret_rowt rfl he23 rfl rfl (hH21.at (i := 0) rfl) undL rfl infoL2 ⟨xa, xc, rfl, SlF.fr hxf hH21.new (fun _ _ h => h), hH21.new⟩
  refine wp_seq (wp_region_lit ?_)
  refine lW (.int .i64 (missR R i)) he10 rfl (rn_mv rfl (he10.op rfl) w8) ?_
  intro a24 he24
  clear he10 a10
  refine lW (.bool true) he24 rfl (rn_neI rfl (he24.op rfl) (he24.op rfl) (by rw [bne_iff_ne]; exact hm) w8) ?_
  intro a25 he25
  clear he24 a24
  refine wpList_nil (then_ok ?_)
  refine wp_cond_true (he25.op rfl) ?_
  refine wp_seq (wp_region_lit ?_)
  refine lW (.agg #[.slice none 0 0, .bool false]) he25 rfl (rn_bL rfl  w8) ?_
  intro a26 he26
  clear he25 a25
  refine lW (.int .i64 (missR R i)) he26 rfl (rn_mv rfl (he26.op rfl) w8) ?_
  intro a27 he27
  clear he26 a26
  refine lSetF 0 #[.slice none 0 0, .bool false] (cs := #[.slice none 0 0, .bool false]) he27 hH8 rfl (wanted_plain rfl _) rfl rfl rfl rfl rfl (by kernel_rfl) (by kernel_rfl) (by kernel_rfl) rfl ?_
  intro w28 a29 hH28 hf he29
  replace hH28 : Hp w [⟨p3, 36, #[.slice none 0 0, .bool false]⟩, ⟨p1, 33, #[.int .i64 R.mo, .int .i64 R.pl, .int .i64 R.fi, .slice A R.L.length c, .slice B n8 d]⟩] w28 := hH28
  clear hf
  clear he27 a27 hH8
  refine lW (.int .i64 (missR R i)) he29 rfl (rn_asg rfl (he29.op rfl) w28) ?_
  intro a30 he30
  clear he29 a29
  refine wpList_nil (then_ok ?_)
  have e_ : getR R i = (zLn, missR R i) := if_neg hm
  rw [e_]
  refine wp_ret ?_
  try simp only [Exit.then, Exit.inBlock, Exit.noGoto]
  exact ret_rowt rfl he30 rfl rfl (hH28.at (i := 0) rfl) undL rfl infoL2 ⟨none, 0, rfl, ⟨none, 0, 0, rfl, Nat.le_refl _, RdC.nil _ _ _, fun h => absurd h (by simp)⟩, hH28.new⟩
set_option linter.unusedSimpArgs false in
set_option maxRecDepth 100000 in
set_option maxHeartbeats 1600000 in
theorem qBetween (R : RS) (A B : Option Addr) (c n8 d : Nat) (u v : Int) (Gx : FP) (w : World) (hr : (rdD (.slice A R.L.length c) R.L).P w Gx) (hn8 : R.nx ≤ bigN) : Calls Tryd.prog 14 #[.agg #[.int .i64 R.mo, .int .i64 R.pl, .int .i64 R.fi, .slice A R.L.length c, .slice B n8 d], .int .i64 u, .int .i64 v] w fun e w' => ∃ A' c', e = .returned (.tuple #[.slice A' (rangeL R u v).length c', .int .i64 (rangeE R u v)]) ∧ LnsF w' Gx (.slice A' (rangeL R u v).length c') (rangeL R u v) ∧ New w w' := by
  have hnb : bigN = 1000000000 := rfl
  have hnn : R.nx = R.fi + R.L.length := rfl
  refine calls_args (vl := [.agg #[.int .i64 R.mo, .int .i64 R.pl, .int .i64 R.fi, .slice A R.L.length c, .slice B n8 d], .int .i64 u, .int .i64 v]) 38 Tryd.func14 rfl Tryd.ntmps14 (by kernel_rfl) (fun a he => ?_)
  have he0 : Env 38 [(0, .agg #[.int .i64 R.mo, .int .i64 R.pl, .int .i64 R.fi, .slice A R.L.length c, .slice B n8 d]), (1, .int .i64 u), (2, .int .i64 v)] a := he
  clear he
  have hH := Hp.start w
  refine wp_seq (wp_region_lit ?_)
  refine lNewP (fun p => .pointer (some ⟨p, 0, none⟩)) he0 hH rfl rfl (wanted_plain rfl _) (rn_boxQ rfl (he0.op rfl) w) ?_
  intro p1 w1 a2 hp hn hH1 he2
  clear he0 a hH hn hp
  refine lW (.slice none 0 0) he2 rfl (rn_asg rfl (he2.op rfl) w1) ?_
  intro a3 he3
  clear he2 a2
  refine lW (.int .i64 0) he3 rfl (rn_asg rfl (he3.op rfl) w1) ?_
  intro a4 he4
  clear he3 a3
  refine wpList_nil (then_ok ?_)
  refine wp_seq ?_
  refine wp_block ?_
  by_cases hc0 : u < 0
  · skip
    refine wp_seq (wp_region_lit ?_)
    refine lW (.int .i64 u) he4 rfl (rn_mv rfl (he4.op rfl) w1) ?_
    intro a5 he5
    clear he4 a4
    refine lW (.bool true) he5 rfl (rn_lss rfl (he5.op rfl) (he5.op rfl) (decide_eq_true hc0) w1) ?_
    intro a6 he6
    clear he5 a5
    refine lW (.bool true) he6 rfl (rn_mv rfl (he6.op rfl) w1) ?_
    intro a7 he7
    clear he6 a6
    refine lSkip he7 rfl rfl (he7.wantNot rfl rfl rfl rfl rfl rfl) ?_
    intro a8 he8
    clear he7 a7
    refine lSkip he8 rfl rfl (he8.wantNot rfl rfl rfl rfl rfl rfl) ?_
    intro a9 he9
    clear he8 a8
    refine lSkip he9 rfl rfl (he9.wantNot rfl rfl rfl rfl rfl rfl) ?_
    intro a10 he10
    clear he9 a9
    refine lW (.bool true) he10 rfl (rn_pk rfl (he10.op rfl) (he10.op rfl) w1) ?_
    intro a11 he11
    clear he10 a10
    refine lW (.bool true) he11 rfl (rn_mv rfl (he11.op rfl) w1) ?_
    intro a12 he12
    clear he11 a11
    refine lSkip he12 rfl rfl (he12.wantNot rfl rfl rfl rfl rfl rfl) ?_
    intro a13 he13
    clear he12 a12
    refine lSkip he13 rfl rfl (he13.wantNot rfl rfl rfl rfl rfl rfl) ?_
    intro a14 he14
    clear he13 a13
    refine lSkip he14 rfl rfl (he14.wantNot rfl rfl rfl rfl rfl rfl) ?_
    intro a15 he15
    clear he14 a14
    refine lSkip he15 rfl rfl (he15.wantNot rfl rfl rfl rfl rfl rfl) ?_
    intro a16 he16
    clear he15 a15
    refine lW (.bool true) he16 rfl (rn_pk rfl (he16.op rfl) (he16.op rfl) w1) ?_
    intro a17 he17
    clear he16 a16
    refine lW (.bool true) he17 rfl (rn_asg rfl (he17.op rfl) w1) ?_
    intro a18 he18
    clear he17 a17
    refine wpList_nil (then_ok ?_)
    refine wp_cond_true (he18.op rfl) ?_
    refine wp_seq (wp_region_lit ?_)
    refine lW (.slice none 0 0) he18 rfl (rn_asg rfl (he18.op rfl) w1) ?_
    intro a19 he19
    clear he18 a18
    refine lW (.int .i64 3) he19 rfl (rn_asg rfl (he19.op rfl) w1) ?_
    intro a20 he20
    clear he19 a19
    refine wpList_nil (then_ok ?_)
    have hE : rangeE R u v = 3 := if_pos (.inl hc0)
    have hL : rangeL R u v = [] := if_neg (by rw [hE]; decide)
    rw [hE, hL]
    refine wp_ret ?_
    try simp only [Exit.then, Exit.inBlock, Exit.noGoto]
    exact ret_tt rfl he20 rfl rfl ⟨none, 0, rfl, LnsF.nil _ _, hH1.new⟩
  by_cases hc1 : v < u
  · skip
    refine wp_seq (wp_region_lit ?_)
    refine lW (.int .i64 u) he4 rfl (rn_mv rfl (he4.op rfl) w1) ?_
    intro a21 he21
    clear he4 a4
    refine lW (.bool false) he21 rfl (rn_lss rfl (he21.op rfl) (he21.op rfl) (decide_eq_false hc0) w1) ?_
    intro a22 he22
    clear he21 a21
    refine lW (.bool false) he22 rfl (rn_mv rfl (he22.op rfl) w1) ?_
    intro a23 he23
    clear he22 a22
    refine lV (.int .i64 u) he23 rfl rfl (he23.want rfl rfl rfl rfl rfl) (rn_mv rfl (he23.op rfl) w1) ?_
    intro a24 he24
    clear he23 a23
    refine lV (.int .i64 v) he24 rfl rfl (he24.want rfl rfl rfl rfl rfl) (rn_mv rfl (he24.op rfl) w1) ?_
    intro a25 he25
    clear he24 a24
    refine lV (.bool true) he25 rfl rfl (he25.want rfl rfl rfl rfl rfl) (rn_gtr rfl (he25.op rfl) (he25.op rfl) (decide_eq_true hc1) w1) ?_
    intro a26 he26
    clear he25 a25
    refine lW (.bool true) he26 rfl (rn_pk0 rfl (he26.op rfl) (he26.op rfl) w1) ?_
    intro a27 he27
    clear he26 a26
    refine lW (.bool true) he27 rfl (rn_mv rfl (he27.op rfl) w1) ?_
    intro a28 he28
    clear he27 a27
    refine lSkip he28 rfl rfl (he28.wantNot rfl rfl rfl rfl rfl rfl) ?_
    intro a29 he29
    clear he28 a28
    refine lSkip he29 rfl rfl (he29.wantNot rfl rfl rfl rfl rfl rfl) ?_
    intro a30 he30
    clear he29 a29
    refine lSkip he30 rfl rfl (he30.wantNot rfl rfl rfl rfl rfl rfl) ?_
    intro a31 he31
    clear he30 a30
    refine lSkip he31 rfl rfl (he31.wantNot rfl rfl rfl rfl rfl rfl) ?_
    intro a32 he32
    clear he31 a31
    refine lW (.bool true) he32 rfl (rn_pk rfl (he32.op rfl) (he32.op rfl) w1) ?_
    intro a33 he33
    clear he32 a32
    refine lW (.bool true) he33 rfl (rn_asg rfl (he33.op rfl) w1) ?_
    intro a34 he34
    clear he33 a33
    refine wpList_nil (then_ok ?_)
    refine wp_cond_true (he34.op rfl) ?_
    refine wp_seq (wp_region_lit ?_)
    refine lW (.slice none 0 0) he34 rfl (rn_asg rfl (he34.op rfl) w1) ?_
    intro a35 he35
    clear he34 a34
    refine lW (.int .i64 3) he35 rfl (rn_asg rfl (he35.op rfl) w1) ?_
    intro a36 he36
    clear he35 a35
    refine wpList_nil (then_ok ?_)
    have hE : rangeE R u v = 3 := if_pos (.inr (.inl hc1))
    have hL : rangeL R u v = [] := if_neg (by rw [hE]; decide)
    rw [hE, hL]
    refine wp_ret ?_
    try simp only [Exit.then, Exit.inBlock, Exit.noGoto]
    exact ret_tt rfl he36 rfl rfl ⟨none, 0, rfl, LnsF.nil _ _, hH1.new⟩
  by_cases hc2 : (R.nx : Int) < v
  · skip
    refine wp_seq (wp_region_lit ?_)
    refine lW (.int .i64 u) he4 rfl (rn_mv rfl (he4.op rfl) w1) ?_
    intro a37 he37
    clear he4 a4
    refine lW (.bool false) he37 rfl (rn_lss rfl (he37.op rfl) (he37.op rfl) (decide_eq_false hc0) w1) ?_
    intro a38 he38
    clear he37 a37
    refine lW (.bool false) he38 rfl (rn_mv rfl (he38.op rfl) w1) ?_
    intro a39 he39
    clear he38 a38
    refine lV (.int .i64 u) he39 rfl rfl (he39.want rfl rfl rfl rfl rfl) (rn_mv rfl (he39.op rfl) w1) ?_
    intro a40 he40
    clear he39 a39
    refine lV (.int .i64 v) he40 rfl rfl (he40.want rfl rfl rfl rfl rfl) (rn_mv rfl (he40.op rfl) w1) ?_
    intro a41 he41
    clear he40 a40
    refine lV (.bool false) he41 rfl rfl (he41.want rfl rfl rfl rfl rfl) (rn_gtr rfl (he41.op rfl) (he41.op rfl) (decide_eq_false hc1) w1) ?_
    intro a42 he42
    clear he41 a41
    refine lW (.bool false) he42 rfl (rn_pk0 rfl (he42.op rfl) (he42.op rfl) w1) ?_
    intro a43 he43
    clear he42 a42
    refine lW (.bool false) he43 rfl (rn_mv rfl (he43.op rfl) w1) ?_
    intro a44 he44
    clear he43 a43
    refine lV (.int .i64 v) he44 rfl rfl (he44.want rfl rfl rfl rfl rfl) (rn_mv rfl (he44.op rfl) w1) ?_
    intro a45 he45
    clear he44 a44
    refine lV (.agg #[.int .i64 R.mo, .int .i64 R.pl, .int .i64 R.fi, .slice A R.L.length c, .slice B n8 d]) he45 rfl rfl (he45.want rfl rfl rfl rfl rfl) (rn_ldp _ rfl (he45.op rfl) undQ rfl infoQ5 (hH1.at (i := 0) rfl) rfl) ?_
    intro a46 he46
    clear he45 a45
    refine lC he46 rfl rfl Tryd.func36 (by kernel_rfl) rfl rfl (he46.want rfl rfl rfl rfl rfl) rfl (qNext _ _ _ (R.nx : Int) _ _ _ _ _ _ w1 (by rw [hnn]; omega) (by omega) (by omega)) ?_
    intro w47 a48 hn he48
    have hH47 := hH1.call hn
    clear he46 a46 hH1 hn
    refine lV (.bool true) he48 rfl rfl (he48.want rfl rfl rfl rfl rfl) (rn_gtr rfl (he48.op rfl) (he48.op rfl) (decide_eq_true hc2) w47) ?_
    intro a49 he49
    clear he48 a48
    refine lW (.bool true) he49 rfl (rn_pk0 rfl (he49.op rfl) (he49.op rfl) w47) ?_
    intro a50 he50
    clear he49 a49
    refine lW (.bool true) he50 rfl (rn_asg rfl (he50.op rfl) w47) ?_
    intro a51 he51
    clear he50 a50
    refine wpList_nil (then_ok ?_)
    refine wp_cond_true (he51.op rfl) ?_
    refine wp_seq (wp_region_lit ?_)
    refine lW (.slice none 0 0) he51 rfl (rn_asg rfl (he51.op rfl) w47) ?_
    intro a52 he52
    clear he51 a51
    refine lW (.int .i64 3) he52 rfl (rn_asg rfl (he52.op rfl) w47) ?_
    intro a53 he53
    clear he52 a52
    refine wpList_nil (then_ok ?_)
    have hE : rangeE R u v = 3 := if_pos (.inr (.inr hc2))
    have hL : rangeL R u v = [] := if_neg (by rw [hE]; decide)
    rw [hE, hL]
    refine wp_ret ?_
    try simp only [Exit.then, Exit.inBlock, Exit.noGoto]
    exact ret_tt rfl he53 rfl rfl ⟨none, 0, rfl, LnsF.nil _ _, hH47.new⟩
  refine wp_seq (wp_region_lit ?_)
  refine lW (.int .i64 u) he4 rfl (rn_mv rfl (he4.op rfl) w1) ?_
  intro a54 he54
  clear he4 a4
  refine lW (.bool false) he54 rfl (rn_lss rfl (he54.op rfl) (he54.op rfl) (decide_eq_false hc0) w1) ?_
  intro a55 he55
  clear he54 a54
  refine lW (.bool false) he55 rfl (rn_mv rfl (he55.op rfl) w1) ?_
  intro a56 he56
  clear he55 a55
  refine lV (.int .i64 u) he56 rfl rfl (he56.want rfl rfl rfl rfl rfl) (rn_mv rfl (he56.op rfl) w1) ?_
  intro a57 he57
  clear he56 a56
  refine lV (.int .i64 v) he57 rfl rfl (he57.want rfl rfl rfl rfl rfl) (rn_mv rfl (he57.op rfl) w1) ?_
  intro a58 he58
  clear he57 a57
  refine lV (.bool false) he58 rfl rfl (he58.want rfl rfl rfl rfl rfl) (rn_gtr rfl (he58.op rfl) (he58.op rfl) (decide_eq_false hc1) w1) ?_
  intro a59 he59
  clear he58 a58
  refine lW (.bool false) he59 rfl (rn_pk0 rfl (he59.op rfl) (he59.op rfl) w1) ?_
  intro a60 he60
  clear he59 a59
  refine lW (.bool false) he60 rfl (rn_mv rfl (he60.op rfl) w1) ?_
  intro a61 he61
  clear he60 a60
  refine lV (.int .i64 v) he61 rfl rfl (he61.want rfl rfl rfl rfl rfl) (rn_mv rfl (he61.op rfl) w1) ?_
  intro a62 he62
  clear he61 a61
  refine lV (.agg #[.int .i64 R.mo, .int .i64 R.pl, .int .i64 R.fi, .slice A R.L.length c, .slice B n8 d]) he62 rfl rfl (he62.want rfl rfl rfl rfl rfl) (rn_ldp _ rfl (he62.op rfl) undQ rfl infoQ5 (hH1.at (i := 0) rfl) rfl) ?_
  intro a63 he63
  clear he62 a62
  refine lC he63 rfl rfl Tryd.func36 (by kernel_rfl) rfl rfl (he63.want rfl rfl rfl rfl rfl) rfl (qNext _ _ _ (R.nx : Int) _ _ _ _ _ _ w1 (by rw [hnn]; omega) (by omega) (by omega)) ?_
  intro w64 a65 hn he65
  have hH64 := hH1.call hn
  clear he63 a63 hH1 hn
  refine lV (.bool false) he65 rfl rfl (he65.want rfl rfl rfl rfl rfl) (rn_gtr rfl (he65.op rfl) (he65.op rfl) (decide_eq_false hc2) w64) ?_
  intro a66 he66
  clear he65 a65
  refine lW (.bool false) he66 rfl (rn_pk0 rfl (he66.op rfl) (he66.op rfl) w64) ?_
  intro a67 he67
  clear he66 a66
  refine lW (.bool false) he67 rfl (rn_asg rfl (he67.op rfl) w64) ?_
  intro a68 he68
  clear he67 a67
  refine wpList_nil (then_ok ?_)
  refine wp_cond_false (he68.op rfl) ?_
  by_cases hc3 : u < (R.fi : Int)
  · skip
    refine wp_seq (wp_region_lit ?_)
    refine lW (.int .i64 u) he68 rfl (rn_mv rfl (he68.op rfl) w64) ?_
    intro a69 he69
    clear he68 a68
    refine lW (.pointer (some ⟨p1, 2, none⟩)) he69 rfl (rn_faQ2 rfl (he69.op rfl) rfl w64) ?_
    intro a70 he70
    clear he69 a69
    refine lW (.int .i64 R.fi) he70 rfl (rn_ld1 rfl (he70.op rfl) Tryd.underlying3 (hH64.at (i := 0) rfl) rfl) ?_
    intro a71 he71
    clear he70 a70
    refine lW (.bool true) he71 rfl (rn_lss rfl (he71.op rfl) (he71.op rfl) (decide_eq_true hc3) w64) ?_
    intro a72 he72
    clear he71 a71
    refine lW (.bool true) he72 rfl (rn_asg rfl (he72.op rfl) w64) ?_
    intro a73 he73
    clear he72 a72
    refine wpList_nil (then_ok ?_)
    refine wp_cond_true (he73.op rfl) ?_
    refine wp_seq (wp_region_lit ?_)
    refine lW (.slice none 0 0) he73 rfl (rn_asg rfl (he73.op rfl) w64) ?_
    intro a74 he74
    clear he73 a73
    refine lW (.int .i64 14) he74 rfl (rn_asg rfl (he74.op rfl) w64) ?_
    intro a75 he75
    clear he74 a74
    refine wpList_nil (then_ok ?_)
    have hE : rangeE R u v = 14 := by unfold rangeE; rw [if_neg (by omega), if_pos hc3]
    have hL : rangeL R u v = [] := if_neg (by rw [hE]; decide)
    rw [hE, hL]
    refine wp_ret ?_
    try simp only [Exit.then, Exit.inBlock, Exit.noGoto]
    exact ret_tt rfl he75 rfl rfl ⟨none, 0, rfl, LnsF.nil _ _, hH64.new⟩
  refine wp_seq (wp_region_lit ?_)
  refine lW (.int .i64 u) he68 rfl (rn_mv rfl (he68.op rfl) w64) ?_
  intro a76 he76
  clear he68 a68
  refine lW (.pointer (some ⟨p1, 2, none⟩)) he76 rfl (rn_faQ2 rfl (he76.op rfl) rfl w64) ?_
  intro a77 he77
  clear he76 a76
  refine lW (.int .i64 R.fi) he77 rfl (rn_ld1 rfl (he77.op rfl) Tryd.underlying3 (hH64.at (i := 0) rfl) rfl) ?_
  intro a78 he78
  clear he77 a77
  refine lW (.bool false) he78 rfl (rn_lss rfl (he78.op rfl) (he78.op rfl) (decide_eq_false hc3) w64) ?_
  intro a79 he79
  clear he78 a78
  refine lW (.bool false) he79 rfl (rn_asg rfl (he79.op rfl) w64) ?_
  intro a80 he80
  clear he79 a79
  refine wpList_nil (then_ok ?_)
  refine wp_cond_false (he80.op rfl) ?_
  refine wp_skip ?_
  refine block_ok ?_
  refine then_ok ?_
  obtain ⟨k, rfl⟩ : ∃ k : Nat, u = ((R.fi + k : Nat) : Int) := ⟨(u - R.fi).toNat, by omega⟩
  obtain ⟨n9, rfl⟩ : ∃ d : Nat, v = ((R.fi + k + d : Nat) : Int) := ⟨(v - (R.fi + k : Nat)).toNat, by omega⟩
  have hE : rangeE R ((R.fi + k : Nat) : Int) ((R.fi + k + n9 : Nat) : Int) = 0 := by unfold rangeE; rw [if_neg (by omega), if_neg hc3]
  have hL : rangeL R ((R.fi + k : Nat) : Int) ((R.fi + k + n9 : Nat) : Int) = (R.L.drop k).take n9 := by unfold rangeL; rw [if_pos hE, show (((R.fi + k : Nat) : Int) - R.fi).toNat = k by omega, show (((R.fi + k + n9 : Nat) : Int) - ((R.fi + k : Nat) : Int)).toNat = n9 by omega]
  rw [hE, hL]
  have hkl : k + n9 ≤ R.L.length := by omega
  have hcl : R.L.length ≤ c := by obtain ⟨A9, c9, b9, x9, e9, h9, -⟩ := id hr; simp only [Value.slice.injEq] at e9; omega
  obtain ⟨A2, e2, hcut⟩ := lns_mid hr (k := k) (n9 := n9) hkl
  refine wp_seq (wp_region_lit ?_)
  refine lW (.pointer (some ⟨p1, 3, none⟩)) he80 rfl (rn_faQ3 rfl (he80.op rfl) rfl w64) ?_
  intro a81 he81
  clear he80 a80
  refine lW (.slice A R.L.length c) he81 rfl (rn_ldLs rfl (he81.op rfl) (hH64.at (i := 0) rfl) rfl) ?_
  intro a82 he82
  clear he81 a81
  refine lW (.int .i64 ((R.fi + k : Nat) : Int)) he82 rfl (rn_mv rfl (he82.op rfl) w64) ?_
  intro a83 he83
  clear he82 a82
  refine lW (.pointer (some ⟨p1, 2, none⟩)) he83 rfl (rn_faQ2 rfl (he83.op rfl) rfl w64) ?_
  intro a84 he84
  clear he83 a83
  refine lW (.int .i64 R.fi) he84 rfl (rn_ld1 rfl (he84.op rfl) Tryd.underlying3 (hH64.at (i := 0) rfl) rfl) ?_
  intro a85 he85
  clear he84 a84
  refine lW (.int .i64 k) he85 rfl (rn_subI rfl (he85.op rfl) (he85.op rfl) (by rw [IntWalk.i64_in _ ⟨by omega, by omega⟩]; omega) w64) ?_
  intro a86 he86
  clear he85 a85
  refine lW (.int .i64 ((R.fi + k + n9 : Nat) : Int)) he86 rfl (rn_mv rfl (he86.op rfl) w64) ?_
  intro a87 he87
  clear he86 a86
  refine lW (.pointer (some ⟨p1, 2, none⟩)) he87 rfl (rn_faQ2 rfl (he87.op rfl) rfl w64) ?_
  intro a88 he88
  clear he87 a87
  refine lW (.int .i64 R.fi) he88 rfl (rn_ld1 rfl (he88.op rfl) Tryd.underlying3 (hH64.at (i := 0) rfl) rfl) ?_
  intro a89 he89
  clear he88 a88
  refine lW (.int .i64 ((k + n9 : Nat) : Int)) he89 rfl (rn_subI rfl (he89.op rfl) (he89.op rfl) (by rw [IntWalk.i64_in _ ⟨by omega, by omega⟩]; omega) w64) ?_
  intro a90 he90
  clear he89 a89
  refine lW (.slice A2 ((R.L.drop k).take n9).length (c - k)) he90 rfl (rg_cutlh (R := rL) (k := k) (m := k + n9) rfl (he90.op rfl) (he90.op rfl) (he90.op rfl) (by omega) (by omega) (by omega) e2 w64) ?_
  intro a91 he91
  clear he90 a90
  refine lW (.slice A2 ((R.L.drop k).take n9).length (c - k)) he91 rfl (rn_asg rfl (he91.op rfl) w64) ?_
  intro a92 he92
  clear he91 a91
  refine lW (.int .i64 0) he92 rfl (rn_asg rfl (he92.op rfl) w64) ?_
  intro a93 he93
  clear he92 a92
  refine wpList_nil (then_ok ?_)
  refine wp_ret ?_
  try simp only [Exit.then, Exit.inBlock, Exit.noGoto]
  exact ret_tt rfl he93 rfl rfl ⟨A2, c - k, rfl, hcut.new hH64.new, hH64.new⟩
end Go.Proofs.YtlpjhaghphmbeaaDoor
