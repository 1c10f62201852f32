/-
  Package ring: New, evict, open, Push, Pop, Get, Set, Limit, Clear.
-/
import Derived.Test.YtlpjhaghphmbeaaDoorRRing
namespace Go.Proofs.YtlpjhaghphmbeaaDoor
open Go.RowKit

set_option linter.unusedSimpArgs false in
set_option maxRecDepth 100000 in
set_option maxHeartbeats 1600000 in
theorem rNew_ok (mo k : Nat) (h0 : mo ≤ 1048576) (h1 : 1 ≤ k) (h2 : k ≤ 1024) (w : World) (hT : Tab w) : Calls Tryd.prog 9 #[.int .i64 mo, .int .i64 k] w fun e w' => ∃ q, e = .returned (.tuple #[.pointer (some ⟨q, 0, none⟩), .int .i64 0]) ∧ Made [ringD q ⟨mo, k, 0, []⟩] w w' := by
  refine calls_args (vl := [.int .i64 mo, .int .i64 k]) 21 Tryd.func9 rfl Tryd.ntmps9 (by kernel_rfl) (fun a he => ?_)
  have he0 : Env 21 [(0, .int .i64 mo), (1, .int .i64 k)] a := he
  clear he
  have hH := Hp.start w
  have hD := Dt.start hT
  refine wp_seq (wp_region_lit ?_)
  refine lW (.pointer none) he0 rfl (rn_asg rfl (he0.op rfl) w) ?_
  intro a1 he1
  clear he0 a
  refine lW (.int .i64 0) he1 rfl (rn_asg rfl (he1.op rfl) w) ?_
  intro a2 he2
  clear he1 a1
  refine wpList_nil (then_ok ?_)
  refine wp_seq ?_
  refine wp_seq (wp_region_lit ?_)
  refine lW (.int .i64 mo) he2 rfl (rn_mv rfl (he2.op rfl) w) ?_
  intro a3 he3
  clear he2 a2
  refine lC he3 rfl rfl Tryd.func33 (by kernel_rfl) rfl rfl (wanted_plain rfl _) rfl (rAllowed (mo : Int) true (by rw [decide_eq_true (by omega), decide_eq_true (by omega)]; rfl) w) ?_
  intro w4 a5 hn he5
  have hH4 := hH.call hn
  replace hD := (hD).new hn
  clear he3 a3 hH hn
  refine lW (.bool false) he5 rfl (rn_not (b := true) rfl (he5.op rfl) w4) ?_
  intro a6 he6
  clear he5 a5
  refine lW (.bool false) he6 rfl (rn_mv rfl (he6.op rfl) w4) ?_
  intro a7 he7
  clear he6 a6
  refine lV (.int .i64 k) he7 rfl rfl (he7.want rfl rfl rfl rfl rfl) (rn_mv rfl (he7.op rfl) w4) ?_
  intro a8 he8
  clear he7 a7
  refine lV (.bool false) he8 rfl rfl (he8.want rfl rfl rfl rfl rfl) (rn_lss rfl (he8.op rfl) (he8.op rfl) (decide_eq_false (by omega)) w4) ?_
  intro a9 he9
  clear he8 a8
  refine lW (.bool false) he9 rfl (rn_pk0 rfl (he9.op rfl) (he9.op rfl) w4) ?_
  intro a10 he10
  clear he9 a9
  refine lW (.bool false) he10 rfl (rn_mv rfl (he10.op rfl) w4) ?_
  intro a11 he11
  clear he10 a10
  refine lV (.int .i64 k) he11 rfl rfl (he11.want rfl rfl rfl rfl rfl) (rn_mv rfl (he11.op rfl) w4) ?_
  intro a12 he12
  clear he11 a11
  refine lV (.bool false) he12 rfl rfl (he12.want rfl rfl rfl rfl rfl) (rn_gtr rfl (he12.op rfl) (he12.op rfl) (decide_eq_false (by omega)) w4) ?_
  intro a13 he13
  clear he12 a12
  refine lW (.bool false) he13 rfl (rn_pk0 rfl (he13.op rfl) (he13.op rfl) w4) ?_
  intro a14 he14
  clear he13 a13
  refine wpList_nil (then_ok ?_)
  refine wp_cond_false (he14.op rfl) ?_
  refine wp_skip ?_
  refine then_ok ?_
  refine wp_seq (wp_region_lit ?_)
  refine lW (.int .i64 mo) he14 rfl (rn_mv rfl (he14.op rfl) w4) ?_
  intro a15 he15
  clear he14 a14
  refine lW (.int .i64 k) he15 rfl (rn_mv rfl (he15.op rfl) w4) ?_
  intro a16 he16
  clear he15 a15
  refine lW (.agg #[.slice none 0 0, .int .i64 mo, .int .i64 k, .int .i64 0, .int .i64 0]) he16 rfl (rn_bH12 rfl (he16.op rfl) (he16.op rfl) w4) ?_
  intro a17 he17
  clear he16 a16
  refine lNewP (fun p => .pointer (some ⟨p, 0, none⟩)) he17 hH4 rfl rfl (wanted_plain rfl _) (rn_boxH rfl (he17.op rfl) w4) ?_
  intro p18 w18 a19 hp hn hH18 he19
  replace hD := hD.cons hn hp (hH18.at (i := 0) rfl).lt
  clear he17 a17 hH4 hn hp
  refine lW (.pointer (some ⟨p18, 0, none⟩)) he19 rfl (rn_asg rfl (he19.op rfl) w18) ?_
  intro a20 he20
  clear he19 a19
  refine lW (.int .i64 0) he20 rfl (rn_asg rfl (he20.op rfl) w18) ?_
  intro a21 he21
  clear he20 a20
  refine wpList_nil (then_ok ?_)
  have e_ : ∀ z : PV, ([] : List PV).map (·.q) = [] := fun _ => rfl
  replace hD := Dt.front (A := []) (B := [rowP (.slice none 0 0) [], pagsD k []]) (D := []) hD (sep_nilP _)
  have hD2 := Dt.shut_ring (mo := (mo : Int)) (fi := 0) (nx := 0) (qs := []) (X := []) hD (hH18.at (i := 0) rfl) (by simp)
  replace hD := Dt.front (A := [rawD p18 (mo : Int) k 0 0 [] []]) (B := [ringD p18 ⟨mo, k, 0, []⟩]) (D := []) hD2 (fun G h => ring_ok ⟨h1, h2, h0, trivial, Nat.zero_le _, Nat.zero_le _, fun l hl => by cases hl⟩ (ring_shut (X := []) (R := ⟨mo, k, 0, []⟩) rfl h))
  refine wp_ret ?_
  try simp only [Exit.then, Exit.inBlock, Exit.noGoto]
  exact ret_tt rfl he21 rfl rfl ⟨_, rfl, hD.turned⟩
set_option linter.unusedSimpArgs false in
set_option maxRecDepth 100000 in
set_option maxHeartbeats 1600000 in
theorem rNew_no (mo k : Int) (h : ¬ (0 ≤ mo ∧ mo ≤ 1048576 ∧ 1 ≤ k ∧ k ≤ 1024)) (w : World) : Calls Tryd.prog 9 #[.int .i64 mo, .int .i64 k] w fun e w' => e = .returned (.tuple #[.pointer none, .int .i64 2]) ∧ New w w' := by
  obtain ⟨b, hb⟩ : ∃ b, (decide (0 ≤ mo) && decide (mo ≤ 1048576)) = b := ⟨_, rfl⟩
  cases b with
  | true =>
    have hb2 : 0 ≤ mo ∧ mo ≤ 1048576 := by simpa using hb
    refine calls_args (vl := [.int .i64 mo, .int .i64 k]) 21 Tryd.func9 rfl Tryd.ntmps9 (by kernel_rfl) (fun a he => ?_)
    have he0 : Env 21 [(0, .int .i64 mo), (1, .int .i64 k)] a := he
    clear he
    have hH := Hp.start w
    refine wp_seq (wp_region_lit ?_)
    refine lW (.pointer none) he0 rfl (rn_asg rfl (he0.op rfl) w) ?_
    intro a1 he1
    clear he0 a
    refine lW (.int .i64 0) he1 rfl (rn_asg rfl (he1.op rfl) w) ?_
    intro a2 he2
    clear he1 a1
    refine wpList_nil (then_ok ?_)
    by_cases h1 : k < 1
    · skip
      refine wp_seq ?_
      refine wp_seq (wp_region_lit ?_)
      refine lW (.int .i64 mo) he2 rfl (rn_mv rfl (he2.op rfl) w) ?_
      intro a3 he3
      clear he2 a2
      refine lC he3 rfl rfl Tryd.func33 (by kernel_rfl) rfl rfl (wanted_plain rfl _) rfl (rAllowed mo true hb w) ?_
      intro w4 a5 hn he5
      have hH4 := hH.call hn
      clear he3 a3 hH hn
      refine lW (.bool false) he5 rfl (rn_not (b := true) rfl (he5.op rfl) w4) ?_
      intro a6 he6
      clear he5 a5
      refine lW (.bool false) he6 rfl (rn_mv rfl (he6.op rfl) w4) ?_
      intro a7 he7
      clear he6 a6
      refine lV (.int .i64 k) he7 rfl rfl (he7.want rfl rfl rfl rfl rfl) (rn_mv rfl (he7.op rfl) w4) ?_
      intro a8 he8
      clear he7 a7
      refine lV (.bool true) he8 rfl rfl (he8.want rfl rfl rfl rfl rfl) (rn_lss rfl (he8.op rfl) (he8.op rfl) (decide_eq_true h1) w4) ?_
      intro a9 he9
      clear he8 a8
      refine lW (.bool true) he9 rfl (rn_pk0 rfl (he9.op rfl) (he9.op rfl) w4) ?_
      intro a10 he10
      clear he9 a9
      refine lW (.bool true) he10 rfl (rn_mv rfl (he10.op rfl) w4) ?_
      intro a11 he11
      clear he10 a10
      refine lSkip he11 rfl rfl (he11.wantNot rfl rfl rfl rfl rfl rfl) ?_
      intro a12 he12
      clear he11 a11
      refine lSkip he12 rfl rfl (he12.wantNot rfl rfl rfl rfl rfl rfl) ?_
      intro a13 he13
      clear he12 a12
      refine lW (.bool true) he13 rfl (rn_pk rfl (he13.op rfl) (he13.op rfl) w4) ?_
      intro a14 he14
      clear he13 a13
      refine wpList_nil (then_ok ?_)
      refine wp_cond_true (he14.op rfl) ?_
      refine wp_seq (wp_region_lit ?_)
      refine lW (.pointer none) he14 rfl (rn_asg rfl (he14.op rfl) w4) ?_
      intro a15 he15
      clear he14 a14
      refine lW (.int .i64 2) he15 rfl (rn_asg rfl (he15.op rfl) w4) ?_
      intro a16 he16
      clear he15 a15
      refine wpList_nil (then_ok ?_)
      refine wp_ret ?_
      try simp only [Exit.then, Exit.inBlock]
      exact ret_tt rfl he16 rfl rfl ⟨rfl, hH4.new⟩
    refine wp_seq ?_
    refine wp_seq (wp_region_lit ?_)
    refine lW (.int .i64 mo) he2 rfl (rn_mv rfl (he2.op rfl) w) ?_
    intro a17 he17
    clear he2 a2
    refine lC he17 rfl rfl Tryd.func33 (by kernel_rfl) rfl rfl (wanted_plain rfl _) rfl (rAllowed mo true hb w) ?_
    intro w18 a19 hn he19
    have hH18 := hH.call hn
    clear he17 a17 hH hn
    refine lW (.bool false) he19 rfl (rn_not (b := true) rfl (he19.op rfl) w18) ?_
    intro a20 he20
    clear he19 a19
    refine lW (.bool false) he20 rfl (rn_mv rfl (he20.op rfl) w18) ?_
    intro a21 he21
    clear he20 a20
    refine lV (.int .i64 k) he21 rfl rfl (he21.want rfl rfl rfl rfl rfl) (rn_mv rfl (he21.op rfl) w18) ?_
    intro a22 he22
    clear he21 a21
    refine lV (.bool false) he22 rfl rfl (he22.want rfl rfl rfl rfl rfl) (rn_lss rfl (he22.op rfl) (he22.op rfl) (decide_eq_false h1) w18) ?_
    intro a23 he23
    clear he22 a22
    refine lW (.bool false) he23 rfl (rn_pk0 rfl (he23.op rfl) (he23.op rfl) w18) ?_
    intro a24 he24
    clear he23 a23
    refine lW (.bool false) he24 rfl (rn_mv rfl (he24.op rfl) w18) ?_
    intro a25 he25
    clear he24 a24
    refine lV (.int .i64 k) he25 rfl rfl (he25.want rfl rfl rfl rfl rfl) (rn_mv rfl (he25.op rfl) w18) ?_
    intro a26 he26
    clear he25 a25
    refine lV (.bool true) he26 rfl rfl (he26.want rfl rfl rfl rfl rfl) (rn_gtr rfl (he26.op rfl) (he26.op rfl) (decide_eq_true (by omega)) w18) ?_
    intro a27 he27
    clear he26 a26
    refine lW (.bool true) he27 rfl (rn_pk0 rfl (he27.op rfl) (he27.op rfl) w18) ?_
    intro a28 he28
    clear he27 a27
    refine wpList_nil (then_ok ?_)
    refine wp_cond_true (he28.op rfl) ?_
    refine wp_seq (wp_region_lit ?_)
    refine lW (.pointer none) he28 rfl (rn_asg rfl (he28.op rfl) w18) ?_
    intro a29 he29
    clear he28 a28
    refine lW (.int .i64 2) he29 rfl (rn_asg rfl (he29.op rfl) w18) ?_
    intro a30 he30
    clear he29 a29
    refine wpList_nil (then_ok ?_)
    refine wp_ret ?_
    try simp only [Exit.then, Exit.inBlock]
    exact ret_tt rfl he30 rfl rfl ⟨rfl, hH18.new⟩
  | false =>
    refine calls_args (vl := [.int .i64 mo, .int .i64 k]) 21 Tryd.func9 rfl Tryd.ntmps9 (by kernel_rfl) (fun a he => ?_)
    have he0 : Env 21 [(0, .int .i64 mo), (1, .int .i64 k)] a := he
    clear he
    have hH := Hp.start w
    refine wp_seq (wp_region_lit ?_)
    refine lW (.pointer none) he0 rfl (rn_asg rfl (he0.op rfl) w) ?_
    intro a1 he1
    clear he0 a
    refine lW (.int .i64 0) he1 rfl (rn_asg rfl (he1.op rfl) w) ?_
    intro a2 he2
    clear he1 a1
    refine wpList_nil (then_ok ?_)
    refine wp_seq ?_
    refine wp_seq (wp_region_lit ?_)
    refine lW (.int .i64 mo) he2 rfl (rn_mv rfl (he2.op rfl) w) ?_
    intro a3 he3
    clear he2 a2
    refine lC he3 rfl rfl Tryd.func33 (by kernel_rfl) rfl rfl (wanted_plain rfl _) rfl (rAllowed mo false hb w) ?_
    intro w4 a5 hn he5
    have hH4 := hH.call hn
    clear he3 a3 hH hn
    refine lW (.bool true) he5 rfl (rn_not (b := false) rfl (he5.op rfl) w4) ?_
    intro a6 he6
    clear he5 a5
    refine lW (.bool true) he6 rfl (rn_mv rfl (he6.op rfl) w4) ?_
    intro a7 he7
    clear he6 a6
    refine lSkip he7 rfl rfl (he7.wantNot rfl rfl rfl rfl rfl rfl) ?_
    intro a8 he8
    clear he7 a7
    refine lSkip he8 rfl rfl (he8.wantNot rfl rfl rfl rfl rfl rfl) ?_
    intro a9 he9
    clear he8 a8
    refine lW (.bool true) he9 rfl (rn_pk rfl (he9.op rfl) (he9.op rfl) w4) ?_
    intro a10 he10
    clear he9 a9
    refine lW (.bool true) he10 rfl (rn_mv rfl (he10.op rfl) w4) ?_
    intro a11 he11
    clear he10 a10
    refine lSkip he11 rfl rfl (he11.wantNot rfl rfl rfl rfl rfl rfl) ?_
    intro a12 he12
    clear he11 a11
    refine lSkip he12 rfl rfl (he12.wantNot rfl rfl rfl rfl rfl rfl) ?_
    intro a13 he13
    clear he12 a12
    refine lW (.bool true) he13 rfl (rn_pk rfl (he13.op rfl) (he13.op rfl) w4) ?_
    intro a14 he14
    clear he13 a13
    refine wpList_nil (then_ok ?_)
    refine wp_cond_true (he14.op rfl) ?_
    refine wp_seq (wp_region_lit ?_)
    refine lW (.pointer none) he14 rfl (rn_asg rfl (he14.op rfl) w4) ?_
    intro a15 he15
    clear he14 a14
    refine lW (.int .i64 2) he15 rfl (rn_asg rfl (he15.op rfl) w4) ?_
    intro a16 he16
    clear he15 a15
    refine wpList_nil (then_ok ?_)
    refine wp_ret ?_
    try simp only [Exit.then, Exit.inBlock]
    exact ret_tt rfl he16 rfl rfl ⟨rfl, hH4.new⟩
set_option linter.unusedSimpArgs false in
set_option maxRecDepth 100000 in
set_option maxHeartbeats 1600000 in
theorem rEvict (p : Nat) (R : RS) (F : FP) (w : World) (hs : (ringW p R).P w F) (h1 : 1 ≤ R.pl) (h2 : R.pl ≤ 1024) (hpg : PgOk R.pl R.P) (hnx : R.nx ≤ 4000000000) (hF : ∀ k, F k → 2 ≤ k ∧ k < w.heap.size) (hT : Tab w) : Calls Tryd.prog 54 #[.pointer (some ⟨p, 0, none⟩)] w fun e w' => e = .returned (.tuple #[]) ∧ Turned [ringW p (evR R)] F w w' := by
  refine calls_args (vl := [.pointer (some ⟨p, 0, none⟩)]) 41 Tryd.func54 rfl Tryd.ntmps54 (by kernel_rfl) (fun a he => ?_)
  have he0 : Env 41 [(0, .pointer (some ⟨p, 0, none⟩))] a := he
  clear he
  have hH := Hp.bare w
  have hD := Dt.begin hT (SepL.one hs) hF
  refine wp_block ?_
  refine loop_nat (fun q a w' => ∃ (T : RS), q = T.L.length - T.mo ∧ evR T = evR R ∧ T.pl = R.pl ∧ PgOk T.pl T.P ∧ T.nx = R.nx ∧ Env 41 [(0, .pointer (some ⟨p, 0, none⟩))] a ∧ Hp (bare w) [] w' ∧ Dt (bare w) w F 0 [] [ringW p T] w') (R.L.length - R.mo) ⟨R, rfl, rfl, rfl, hpg, rfl, he0.mem ⟨rfl, trivial⟩, hH, hD⟩ ?_
  clear he0 hH
  rintro q a1 w1 ⟨T, rfl, hev, hpl, hpT, hnT, he1, hH1, hD⟩
  obtain ⟨X, hX, hD2⟩ := hD.ring_raw
  replace hD := hD2
  clear hD2
  obtain ⟨A2, c2, hD2, hH2⟩ := Dt.open_ring hD hH1 rfl
  clear hD hH1
  have hD := hD2
  clear hD2
  have hqx : (X.map (·.q)).length = X.length := by simp
  have hnt : T.nx = T.fi + T.L.length := rfl
  have hplz : ((T.pl : Int) == 0) = false := by simp; omega
  by_cases hc : T.mo < T.L.length
  · skip
    refine wp_seq ?_
    refine wp_seq ?_
    refine wp_region_held_drew (S := Hp (bare w) [⟨p, 60, (rgCs (.slice A2 (X.map (·.q)).length c2) (T.mo : Int) (T.pl : Int) (T.fi : Int) (T.nx : Int))⟩]) (by kernel_rfl) (hH2.drew) (fun _ => ?_)
    have hn : New w1 (World.drew w1) := (Fr.refl _ _).drew
    replace hD := (hD).new hn
    clear hn
    have hH3 := hH2.drew
    clear hH2
    generalize World.drew w1 = w3 at *
    refine hW (fuel := 6) (i := 0) (.pointer (some ⟨p, 0, none⟩)) he1 rfl (by kernel_rfl) (fun _ _ _ h => h) (fun w' _ => rn_mv rfl (he1.op rfl) w') hH3 ?_
    intro a4 he4
    clear he1 a1
    refine hW (fuel := 5) (i := 2) (.pointer (some ⟨p, 0, none⟩)) he4 rfl (by kernel_rfl) (fun _ _ _ h => h) (fun w' _ => rn_mv rfl (he4.op rfl) w') hH3 ?_
    intro a5 he5
    clear he4 a4
    refine hW (fuel := 4) (i := 3) (.pointer (some ⟨p, 0, none⟩)) he5 rfl (by kernel_rfl) (fun _ _ _ h => h) (fun w' _ => rn_nilck rfl (he5.op rfl) w') hH3 ?_
    intro a6 he6
    clear he5 a5
    refine hW (fuel := 3) (i := 4) (.pointer (some ⟨p, 1, none⟩)) he6 rfl (by kernel_rfl) (fun _ _ _ h => h) (fun w' _ => rn_faH1 rfl (he6.op rfl) rfl w') hH3 ?_
    intro a7 he7
    clear he6 a6
    refine hW (fuel := 2) (i := 5) (.int .i64 T.mo) he7 rfl (by kernel_rfl) (fun _ _ _ h => h) (fun w' hw' => rn_ld1 rfl (he7.op rfl) Tryd.underlying3 (hw'.at (i := 0) rfl) rfl) hH3 ?_
    intro a8 he8
    clear he7 a7
    refine hC (fuel := 1) (i := 1) he8 (by kernel_rfl) rfl rfl rfl Tryd.func28 (by kernel_rfl) rfl rfl (wanted_plain rfl _) rfl (rLen _ _ _ _ _ _ _ _ w3 (hH3.at (i := 0) rfl) T.L.length (by omega) (by omega) (by omega) hplz hD.tab) ?_
    rintro _ w9 ⟨rfl, hn⟩
    have hH9 := hH3.call hn
    replace hD := (hD).new hn
    refine ⟨_, rfl, hH9, ?_⟩
    intro a10 he10
    clear he8 a8 hH3 hn
    refine hW (fuel := 0) (i := 6) (.bool true) he10 rfl (by kernel_rfl) (fun _ _ _ h => h) (fun w' _ => rn_gtr rfl (he10.op rfl) (he10.op rfl) (decide_eq_true (by omega)) w') hH9 ?_
    intro a11 he11
    clear he10 a10
    refine wpAnyH_done (by kernel_rfl) ?_ _
    refine then_ok ?_
    refine wp_cond_true (he11.op rfl) ?_
    refine wp_skip ?_
    refine then_ok ?_
    refine wp_block ?_
    have he12 : Env 41 [(0, .pointer (some ⟨p, 0, none⟩))] a11 := he11.mem ⟨rfl, trivial⟩
    clear he11
    as_aux_lemma =>
      obtain ⟨x, Xt, rfl⟩ : ∃ x Y, X = x :: Y := by cases X with | nil => simp only [List.map_nil] at hX; unfold RS.L at hc; rw [← hX] at hc; simp [flatP] at hc | cons x Y => exact ⟨x, Y, rfl⟩
      have hP : T.P = (x.gn, x.L) :: Xt.map PV.pg := hX.symm
      have hx1 : 1 ≤ x.L.length := by rw [hP] at hpT; exact hpT.1
      obtain ⟨bb, hrd, -, hlc⟩ := hD.rdP (i := 0) rfl
      obtain ⟨oo, eA⟩ := hrd.base (by simp)
      subst eA
      refine wp_seq (wp_region_lit ?_)
      refine lW (.pointer (some ⟨p, 0, none⟩)) he12 rfl (rn_mv rfl (he12.op rfl) w9) ?_
      intro a13 he13
      clear he12 a11
      refine lW (.pointer (some ⟨p, 0, none⟩)) he13 rfl (rn_nilck rfl (he13.op rfl) w9) ?_
      intro a14 he14
      clear he13 a13
      refine lW (.pointer (some ⟨p, 0, none⟩)) he14 rfl (rn_faH0 rfl (he14.op rfl) rfl w9) ?_
      intro a15 he15
      clear he14 a14
      refine lW (.slice (some ⟨bb, oo, none⟩) ((x :: Xt).map (·.q)).length c2) he15 rfl (rn_ldGps rfl (he15.op rfl) (hH9.at (i := 0) rfl) rfl) ?_
      intro a16 he16
      clear he15 a15
      refine lW (.pointer (some ⟨bb, oo + 0 * 1, none⟩)) he16 rfl (rn_idxGp (i := 0) rfl (he16.op rfl) rfl (by simp) (by rw [addr_add]) w9) ?_
      intro a17 he17
      clear he16 a16
      refine lW (.pointer (some ⟨x.q, 0, none⟩)) he17 rfl (rn_ldPt (i := 0) rfl (he17.op rfl) hrd rfl rfl) ?_
      intro a18 he18
      clear he17 a17
      refine lW (.pointer (some ⟨x.q, 0, none⟩)) he18 rfl (rn_asg rfl (he18.op rfl) w9) ?_
      intro a19 he19
      clear he18 a18
      refine wpList_nil (then_ok ?_)
      clear hrd
      have hok := hD.pags (i := 1) rfl (j := 0) (x := x) rfl
      replace hD := hD.pick 1 rfl
      replace hD := Dt.front (A := [pagsD T.pl (x :: Xt)]) (B := [pagD T.pl x, pagsD T.pl Xt]) (D := [rowP (.slice (some ⟨bb, oo, none⟩) ((x :: Xt).map (·.q)).length c2) (((x :: Xt).map (·.q)).map some)]) hD (fun G h => pags_out (i := 0) rfl h)
      refine wp_seq (wp_region_lit ?_)
      refine lW (.pointer (some ⟨x.q, 0, none⟩)) he19 rfl (rn_mv rfl (he19.op rfl) w9) ?_
      intro a20 he20
      clear he19 a19
      have e_ : dropS x.L x.gn (1 : Int) = (x.L.drop 1, x.gn + 1, 0) := by unfold dropS; rw [if_pos (by omega)]; rfl
      obtain ⟨F_, hsep, hF, hstep⟩ := Dt.step (A := [pagD T.pl x]) (D := [pagsD T.pl Xt, rowP (.slice (some ⟨bb, oo, none⟩) ((x :: Xt).map (·.q)).length c2) (((x :: Xt).map (·.q)).map some)]) hD
      refine lCx he20 rfl rfl Tryd.func67 (by kernel_rfl) rfl rfl (wanted_plain rfl _) rfl ((by have hc_ := drop_b F_ x.q T.pl x.gn x.L 1 w9 hsep.the hF hD.tab; rw [e_] at hc_; exact hc_)) ?_
      rintro _ w21 ⟨rfl, ht⟩
      obtain ⟨hD2, hHs⟩ := hstep _ _ ht
      have hH21 := hHs _ rfl hH9
      clear hHs hstep hsep hF
      replace hD := hD2
      clear hD2 ht
      refine ⟨_, rfl, ?_⟩
      intro a22 he22
      clear he20 a20 hH9
      refine wpList_nil (then_ok ?_)
      refine wp_seq (wp_region_lit ?_)
      refine lW (.pointer (some ⟨p, 0, none⟩)) he22 rfl (rn_mv rfl (he22.op rfl) w21) ?_
      intro a23 he23
      clear he22 a22
      refine lW (.pointer (some ⟨p, 0, none⟩)) he23 rfl (rn_nilck rfl (he23.op rfl) w21) ?_
      intro a24 he24
      clear he23 a23
      refine lW (.pointer (some ⟨p, 3, none⟩)) he24 rfl (rn_faH3 rfl (he24.op rfl) rfl w21) ?_
      intro a25 he25
      clear he24 a24
      refine lW (.int .i64 T.fi) he25 rfl (rn_ld1 rfl (he25.op rfl) Tryd.underlying3 (hH21.at (i := 0) rfl) rfl) ?_
      intro a26 he26
      clear he25 a25
      refine lW (.int .i64 ((ev1 T).fi : Int)) he26 rfl (rn_add1 rfl (he26.op rfl) (he26.op rfl) (by rw [IntWalk.i64_in _ ⟨by omega, by omega⟩]; show _ = ((T.fi + 1 : Nat) : Int); omega) w21) ?_
      intro a27 he27
      clear he26 a26
      refine lW (.pointer (some ⟨p, 0, none⟩)) he27 rfl (rn_nilck rfl (he27.op rfl) w21) ?_
      intro a28 he28
      clear he27 a27
      refine lW (.pointer (some ⟨p, 3, none⟩)) he28 rfl (rn_faH3 rfl (he28.op rfl) rfl w21) ?_
      intro a29 he29
      clear he28 a28
      refine lSetF 0 #[.int .i64 ((ev1 T).fi : Int)] (cs := #[.slice (some ⟨bb, oo, none⟩) ((x :: Xt).map (·.q)).length c2, .int .i64 T.mo, .int .i64 T.pl, .int .i64 ((ev1 T).fi : Int), .int .i64 T.nx]) he29 hH21 rfl (wanted_plain rfl _) rfl rfl rfl rfl rfl (by kernel_rfl) (by kernel_rfl) (by kernel_rfl) rfl ?_
      intro w30 a31 hH30 hf he31
      replace hD := hD.setb (i := 0) rfl rfl hf
      replace hH30 : Hp (bare w) [⟨p, 60, #[.slice (some ⟨bb, oo, none⟩) ((x :: Xt).map (·.q)).length c2, .int .i64 T.mo, .int .i64 T.pl, .int .i64 ((ev1 T).fi : Int), .int .i64 T.nx]⟩] w30 := hH30
      clear hf
      clear he29 a29 hH21
      refine wpList_nil (then_ok ?_)
      obtain ⟨U_, hU_⟩ := hD.get (i := 0) rfl
      refine wp_seq ?_
      have hx2 : (x.L.drop 1).length = x.L.length - 1 := by simp
      by_cases hl : x.L.length ≤ 1
      · skip
        refine wp_region_lit ?_
        refine lW (.pointer (some ⟨x.q, 0, none⟩)) he31 rfl (rn_mv rfl (he31.op rfl) w30) ?_
        intro a32 he32
        clear he31 a31
        refine lC he32 rfl rfl Tryd.func48 (by kernel_rfl) rfl rfl (wanted_plain rfl _) rfl (lenS_b U_ x.q T.pl (x.gn + 1) (x.L.drop 1) w30 hU_ hD.tab) ?_
        intro w33 a34 hn he34
        have hH33 := hH30.call hn
        replace hD := (hD).new hn
        replace hU_ := (shD _ _ _ _).fr hU_ hn (fun _ _ h => h)
        clear he32 a32 hH30 hn
        refine lW (.bool true) he34 rfl (rn_eqI rfl (he34.op rfl) (he34.op rfl) (by rw [hx2]; simp; omega) w33) ?_
        intro a35 he35
        clear he34 a34
        refine wpList_nil (then_ok ?_)
        clear hU_
        refine wp_cond_true (he35.op rfl) ?_
        have hf9 : T.L.length = x.L.length + (flatP (Xt.map PV.pg)).length := by show (flatP T.P).length = _; rw [hP, flatP_cons, List.length_append]
        replace hD := hD.drop
        have he36 : Env 41 [(0, .pointer (some ⟨p, 0, none⟩))] a35 := he35.mem ⟨rfl, trivial⟩
        clear he35
        replace hD := hD.pick 1 rfl
        obtain ⟨A2, e2⟩ := slp_cuth (A := some ⟨bb, oo, none⟩) (k := 1) (c := c2)
        obtain ⟨A3, e3⟩ := slp_cut (A := some ⟨bb, oo, none⟩) (n := ((x :: Xt).map (·.q)).length) (k := 1) (c := c2) (by simp)
        have e4 : ((x :: Xt).map (·.q)).length - 1 = (Xt.map (·.q)).length := by simp
        rw [e4] at e3
        refine wp_seq (wp_region_lit ?_)
        refine lW (.pointer (some ⟨p, 0, none⟩)) he36 rfl (rn_mv rfl (he36.op rfl) w33) ?_
        intro a37 he37
        clear he36 a35
        refine lW (.pointer (some ⟨p, 0, none⟩)) he37 rfl (rn_nilck rfl (he37.op rfl) w33) ?_
        intro a38 he38
        clear he37 a37
        refine lW (.pointer (some ⟨p, 0, none⟩)) he38 rfl (rn_faH0 rfl (he38.op rfl) rfl w33) ?_
        intro a39 he39
        clear he38 a38
        refine lW (.slice (some ⟨bb, oo, none⟩) ((x :: Xt).map (·.q)).length c2) he39 rfl (rn_ldGps rfl (he39.op rfl) (hH33.at (i := 0) rfl) rfl) ?_
        intro a40 he40
        clear he39 a39
        refine lW (.slice A2 1 c2) he40 rfl (rg_cuth (R := rPt) (k := 1) rfl (he40.op rfl) rfl (by simp at hlc; omega) e2 w33) ?_
        intro a41 he41
        clear he40 a40
        obtain ⟨F_, hsep, hF, hstep⟩ := Dt.step (A := [rowP (.slice (some ⟨bb, oo, none⟩) ((x :: Xt).map (·.q)).length c2) (((x :: Xt).map (·.q)).map some)]) (D := [pagsD T.pl Xt]) hD
        refine lEx0 he41 rfl (wanted_plain rfl _) (clear_p (k := 0) (m := 1) hsep.the (fun g_ o_ h_ hA_ => slp_addr e2 (by simp at hlc; omega) g_ o_ hA_) (by simp) rfl (he41.op rfl)) ?_
        rintro _ w42 ⟨rfl, ht⟩
        obtain ⟨hD2, hHs⟩ := hstep _ _ ht
        have hH42 := hHs _ rfl hH33
        clear hHs hstep hsep hF
        replace hD := hD2
        clear hD2 ht
        intro a43 he43
        clear he41 a41 hH33
        refine wpList_nil (then_ok ?_)
        refine wp_region_lit ?_
        refine lW (.pointer (some ⟨p, 0, none⟩)) he43 rfl (rn_mv rfl (he43.op rfl) w42) ?_
        intro a44 he44
        clear he43 a43
        refine lW (.pointer (some ⟨p, 0, none⟩)) he44 rfl (rn_mv rfl (he44.op rfl) w42) ?_
        intro a45 he45
        clear he44 a44
        refine lW (.pointer (some ⟨p, 0, none⟩)) he45 rfl (rn_nilck rfl (he45.op rfl) w42) ?_
        intro a46 he46
        clear he45 a45
        refine lW (.pointer (some ⟨p, 0, none⟩)) he46 rfl (rn_faH0 rfl (he46.op rfl) rfl w42) ?_
        intro a47 he47
        clear he46 a46
        refine lW (.slice (some ⟨bb, oo, none⟩) ((x :: Xt).map (·.q)).length c2) he47 rfl (rn_ldGps rfl (he47.op rfl) (hH42.at (i := 0) rfl) rfl) ?_
        intro a48 he48
        clear he47 a47
        refine lW (.slice A3 (Xt.map (·.q)).length (c2 - 1)) he48 rfl (rg_cutl (R := rPt) (k := 1) rfl (he48.op rfl) rfl (by simp) e3 w42) ?_
        intro a49 he49
        clear he48 a48
        refine lW (.pointer (some ⟨p, 0, none⟩)) he49 rfl (rn_nilck rfl (he49.op rfl) w42) ?_
        intro a50 he50
        clear he49 a49
        refine lW (.pointer (some ⟨p, 0, none⟩)) he50 rfl (rn_faH0 rfl (he50.op rfl) rfl w42) ?_
        intro a51 he51
        clear he50 a50
        refine lSetF 0 #[.slice A3 (Xt.map (·.q)).length (c2 - 1)] (cs := #[.slice A3 (Xt.map (·.q)).length (c2 - 1), .int .i64 T.mo, .int .i64 T.pl, .int .i64 ((ev1 T).fi : Int), .int .i64 T.nx]) he51 hH42 rfl (wanted_plain rfl _) rfl rfl rfl rfl rfl (by kernel_rfl) (by kernel_rfl) (by kernel_rfl) rfl ?_
        intro w52 a53 hH52 hf he53
        replace hD := hD.setb (i := 0) rfl rfl hf
        replace hH52 : Hp (bare w) [⟨p, 60, #[.slice A3 (Xt.map (·.q)).length (c2 - 1), .int .i64 T.mo, .int .i64 T.pl, .int .i64 ((ev1 T).fi : Int), .int .i64 T.nx]⟩] w52 := hH52
        clear hf
        clear he51 a51 hH42
        refine wpList_nil ?_
        refine block_ok ?_
        replace hD := Dt.front (A := [rowP (.slice (some ⟨bb, oo, none⟩) ((x :: Xt).map (·.q)).length c2) ((((x :: Xt).map (·.q)).map some).take 0 ++ List.replicate 1 none ++ (((x :: Xt).map (·.q)).map some).drop (0 + 1))]) (B := [rowP (.slice A3 (Xt.map (·.q)).length (c2 - 1)) ((Xt.map (·.q)).map some)]) (D := [pagsD T.pl Xt]) hD (fun G h => by have := rowp_cutl e3 (by simp) h; exact this)
        have hP1 : (ev1 T).P = Xt.map PV.pg := by show dropP T.P = _; rw [hP]; exact if_pos hl
        have hf1 : (ev1 T).L = T.L.drop 1 := dropP_flat hpT
        have hn1 : (ev1 T).nx = T.nx := by unfold RS.nx; rw [hf1, List.length_drop]; show T.fi + 1 + _ = _; omega
        have hD2 := Dt.shut_ring (mo := (T.mo : Int)) (fi := ((ev1 T).fi : Int)) (nx := (T.nx : Int)) (qs := (Xt.map (·.q))) (X := Xt) hD (hH52.at (i := 0) rfl) (Hp.notin hH52)
        replace hD := hD2
        clear hD2
        have hH54 := hH52.tail rfl
        clear hH52
        rw [← hn1] at hD
        replace hD := Dt.front (A := [rawD p ((ev1 T).mo : Int) (ev1 T).pl ((ev1 T).fi : Int) ((ev1 T).nx : Int) (Xt.map (·.q)) Xt]) (B := [ringW p (ev1 T)]) (D := []) hD (fun G h => ring_shut hP1.symm h)
        have hev2 : evR (ev1 T) = evR R := by rw [← hev, evR_step hpT hc]
        refine then_ok ?_
        exact ⟨(ev1 T).L.length - (ev1 T).mo, by rw [hf1, List.length_drop]; show T.L.length - 1 - T.mo < _; omega, ev1 T, rfl, hev2, hpl, dropP_ok hpT, hn1.trans hnT, he53.mem ⟨rfl, trivial⟩, hH54, hD⟩
      refine wp_region_lit ?_
      refine lW (.pointer (some ⟨x.q, 0, none⟩)) he31 rfl (rn_mv rfl (he31.op rfl) w30) ?_
      intro a55 he55
      clear he31 a31
      refine lC he55 rfl rfl Tryd.func48 (by kernel_rfl) rfl rfl (wanted_plain rfl _) rfl (lenS_b U_ x.q T.pl (x.gn + 1) (x.L.drop 1) w30 hU_ hD.tab) ?_
      intro w56 a57 hn he57
      have hH56 := hH30.call hn
      replace hD := (hD).new hn
      replace hU_ := (shD _ _ _ _).fr hU_ hn (fun _ _ h => h)
      clear he55 a55 hH30 hn
      refine lW (.bool false) he57 rfl (rn_eqI rfl (he57.op rfl) (he57.op rfl) (by rw [hx2]; simp; omega) w56) ?_
      intro a58 he58
      clear he57 a57
      refine wpList_nil (then_ok ?_)
      clear hU_
      refine wp_cond_false (he58.op rfl) ?_
      have hf9 : T.L.length = x.L.length + (flatP (Xt.map PV.pg)).length := by show (flatP T.P).length = _; rw [hP, flatP_cons, List.length_append]
      refine wp_skip ?_
      refine block_ok ?_
      have he59 : Env 41 [(0, .pointer (some ⟨p, 0, none⟩))] a58 := he58.mem ⟨rfl, trivial⟩
      clear he58
      replace hD := Dt.front (A := [pagD T.pl ⟨x.q, x.gn + 1, x.L.drop 1⟩, pagsD T.pl Xt]) (B := [pagsD T.pl (⟨x.q, x.gn + 1, x.L.drop 1⟩ :: Xt)]) (D := [rowP (.slice (some ⟨bb, oo, none⟩) ((x :: Xt).map (·.q)).length c2) (((x :: Xt).map (·.q)).map some)]) hD (fun G h => pags_in (X := x :: Xt) (i := 0) (by simp) h)
      replace hD := hD.pick 1 rfl
      have hP1 : (ev1 T).P = (⟨x.q, x.gn + 1, x.L.drop 1⟩ :: Xt : List PV).map PV.pg := by show dropP T.P = _; rw [hP]; exact if_neg hl
      have hf1 : (ev1 T).L = T.L.drop 1 := dropP_flat hpT
      have hn1 : (ev1 T).nx = T.nx := by unfold RS.nx; rw [hf1, List.length_drop]; show T.fi + 1 + _ = _; omega
      have hD2 := Dt.shut_ring (mo := (T.mo : Int)) (fi := ((ev1 T).fi : Int)) (nx := (T.nx : Int)) (qs := ((⟨x.q, x.gn + 1, x.L.drop 1⟩ :: Xt).map (·.q))) (X := (⟨x.q, x.gn + 1, x.L.drop 1⟩ :: Xt)) hD (hH56.at (i := 0) rfl) (Hp.notin hH56)
      replace hD := hD2
      clear hD2
      have hH60 := hH56.tail rfl
      clear hH56
      rw [← hn1] at hD
      replace hD := Dt.front (A := [rawD p ((ev1 T).mo : Int) (ev1 T).pl ((ev1 T).fi : Int) ((ev1 T).nx : Int) ((⟨x.q, x.gn + 1, x.L.drop 1⟩ :: Xt).map (·.q)) (⟨x.q, x.gn + 1, x.L.drop 1⟩ :: Xt)]) (B := [ringW p (ev1 T)]) (D := []) hD (fun G h => ring_shut hP1.symm h)
      have hev2 : evR (ev1 T) = evR R := by rw [← hev, evR_step hpT hc]
      refine then_ok ?_
      exact ⟨(ev1 T).L.length - (ev1 T).mo, by rw [hf1, List.length_drop]; show T.L.length - 1 - T.mo < _; omega, ev1 T, rfl, hev2, hpl, dropP_ok hpT, hn1.trans hnT, he59.mem ⟨rfl, trivial⟩, hH60, hD⟩
  refine wp_seq ?_
  refine wp_seq ?_
  refine wp_region_held_drew (S := Hp (bare w) [⟨p, 60, (rgCs (.slice A2 (X.map (·.q)).length c2) (T.mo : Int) (T.pl : Int) (T.fi : Int) (T.nx : Int))⟩]) (by kernel_rfl) (hH2.drew) (fun _ => ?_)
  have hn : New w1 (World.drew w1) := (Fr.refl _ _).drew
  replace hD := (hD).new hn
  clear hn
  have hH61 := hH2.drew
  clear hH2
  generalize World.drew w1 = w61 at *
  refine hW (fuel := 6) (i := 0) (.pointer (some ⟨p, 0, none⟩)) he1 rfl (by kernel_rfl) (fun _ _ _ h => h) (fun w' _ => rn_mv rfl (he1.op rfl) w') hH61 ?_
  intro a62 he62
  clear he1 a1
  refine hW (fuel := 5) (i := 2) (.pointer (some ⟨p, 0, none⟩)) he62 rfl (by kernel_rfl) (fun _ _ _ h => h) (fun w' _ => rn_mv rfl (he62.op rfl) w') hH61 ?_
  intro a63 he63
  clear he62 a62
  refine hW (fuel := 4) (i := 3) (.pointer (some ⟨p, 0, none⟩)) he63 rfl (by kernel_rfl) (fun _ _ _ h => h) (fun w' _ => rn_nilck rfl (he63.op rfl) w') hH61 ?_
  intro a64 he64
  clear he63 a63
  refine hW (fuel := 3) (i := 4) (.pointer (some ⟨p, 1, none⟩)) he64 rfl (by kernel_rfl) (fun _ _ _ h => h) (fun w' _ => rn_faH1 rfl (he64.op rfl) rfl w') hH61 ?_
  intro a65 he65
  clear he64 a64
  refine hW (fuel := 2) (i := 5) (.int .i64 T.mo) he65 rfl (by kernel_rfl) (fun _ _ _ h => h) (fun w' hw' => rn_ld1 rfl (he65.op rfl) Tryd.underlying3 (hw'.at (i := 0) rfl) rfl) hH61 ?_
  intro a66 he66
  clear he65 a65
  refine hC (fuel := 1) (i := 1) he66 (by kernel_rfl) rfl rfl rfl Tryd.func28 (by kernel_rfl) rfl rfl (wanted_plain rfl _) rfl (rLen _ _ _ _ _ _ _ _ w61 (hH61.at (i := 0) rfl) T.L.length (by omega) (by omega) (by omega) hplz hD.tab) ?_
  rintro _ w67 ⟨rfl, hn⟩
  have hH67 := hH61.call hn
  replace hD := (hD).new hn
  refine ⟨_, rfl, hH67, ?_⟩
  intro a68 he68
  clear he66 a66 hH61 hn
  refine hW (fuel := 0) (i := 6) (.bool false) he68 rfl (by kernel_rfl) (fun _ _ _ h => h) (fun w' _ => rn_gtr rfl (he68.op rfl) (he68.op rfl) (decide_eq_false (by omega)) w') hH67 ?_
  intro a69 he69
  clear he68 a68
  refine wpAnyH_done (by kernel_rfl) ?_ _
  refine then_ok ?_
  refine wp_cond_false (he69.op rfl) ?_
  refine wp_exit ?_
  simp only [Exit.then, Exit.inBlock, if_true]
  rw [← hev, evR_stop (by omega)]
  have hD2 := Dt.shut_ring (mo := (T.mo : Int)) (fi := (T.fi : Int)) (nx := (T.nx : Int)) (qs := (X.map (·.q))) (X := X) hD (hH67.at (i := 0) rfl) (Hp.notin hH67)
  replace hD := hD2
  clear hD2
  have hH70 := hH67.tail rfl
  clear hH67
  replace hD := Dt.front (A := [rawD p (T.mo : Int) T.pl (T.fi : Int) (T.nx : Int) (X.map (·.q)) X]) (B := [ringW p T]) (D := []) hD (fun G h => ring_shut hX h)
  exact end_unit rfl he69 ⟨rfl, hD.turned⟩
set_option linter.unusedSimpArgs false in
set_option maxRecDepth 100000 in
set_option maxHeartbeats 1600000 in
theorem rOpen (p : Nat) (R : RS) (F : FP) (w : World) (hs : (ringW p R).P w F) (h1 : 1 ≤ R.pl) (h2 : R.pl ≤ 1024) (_ : PgOk R.pl R.P) (hbig : R.P.length ≤ 3000000) (hF : ∀ k, F k → 2 ≤ k ∧ k < w.heap.size) (hT : Tab w) : Calls Tryd.prog 57 #[.pointer (some ⟨p, 0, none⟩)] w fun e w' => ∃ (Y : List PV) (y : PV), e = .returned (.pointer (some ⟨y.q, 0, none⟩)) ∧ y.gn + y.L.length < R.pl ∧ (∀ l, (Y ++ [⟨y.q, y.gn, y.L ++ [l]⟩] : List PV).map PV.pg = addP R.pl R.P l) ∧ Turned [pagD R.pl y, rawD p (R.mo : Int) R.pl (R.fi : Int) (R.nx : Int) ((Y ++ [y]).map (·.q)) Y] F w w' := by
  refine calls_args (vl := [.pointer (some ⟨p, 0, none⟩)]) 51 Tryd.func57 rfl Tryd.ntmps57 (by kernel_rfl) (fun a he => ?_)
  have he0 : Env 51 [(0, .pointer (some ⟨p, 0, none⟩))] a := he
  clear he
  have hH := Hp.bare w
  have hD := Dt.begin hT (SepL.one hs) hF
  refine wp_seq (wp_region_lit ?_)
  refine lW (.pointer none) he0 rfl (rn_asg rfl (he0.op rfl) w) ?_
  intro a1 he1
  clear he0 a
  refine wpList_nil (then_ok ?_)
  obtain ⟨X, hX, hD2⟩ := hD.ring_raw
  replace hD := hD2
  clear hD2
  obtain ⟨A2, c2, hD2, hH2⟩ := Dt.open_ring hD hH rfl
  clear hD hH
  have hD := hD2
  clear hD2
  have hqx : (X.map (·.q)).length = X.length := by simp
  have hXl : X.length ≤ 3000000 := by have := congrArg List.length hX; simp at this; omega
  refine wp_seq ?_
  refine wp_seq (wp_region_lit ?_)
  refine lW (.pointer (some ⟨p, 0, none⟩)) he1 rfl (rn_mv rfl (he1.op rfl) w) ?_
  intro a3 he3
  clear he1 a1
  refine lW (.pointer (some ⟨p, 0, none⟩)) he3 rfl (rn_nilck rfl (he3.op rfl) w) ?_
  intro a4 he4
  clear he3 a3
  refine lW (.pointer (some ⟨p, 0, none⟩)) he4 rfl (rn_faH0 rfl (he4.op rfl) rfl w) ?_
  intro a5 he5
  clear he4 a4
  refine lW (.slice A2 (X.map (·.q)).length c2) he5 rfl (rn_ldGps rfl (he5.op rfl) (hH2.at (i := 0) rfl) rfl) ?_
  intro a6 he6
  clear he5 a5
  refine lW (.int .i64 ((X.map (·.q)).length : Nat)) he6 rfl (rn_lenGp rfl (he6.op rfl) w) ?_
  intro a7 he7
  clear he6 a6
  refine lW (.int .i64 ((X.length : Int) - 1)) he7 rfl (rn_subI rfl (he7.op rfl) (he7.op rfl) (by rw [IntWalk.i64_in _ ⟨by omega, by omega⟩, hqx]) w) ?_
  intro a8 he8
  clear he7 a7
  refine lW (.int .i64 ((X.length : Int) - 1)) he8 rfl (rn_asg rfl (he8.op rfl) w) ?_
  intro a9 he9
  clear he8 a8
  refine wpList_nil (then_ok ?_)
  refine wp_seq ?_
  have he10 : Env 51 [(3, .int .i64 ((X.length : Int) - 1)), (0, .pointer (some ⟨p, 0, none⟩))] a9 := he9.mem ⟨rfl, rfl, trivial⟩
  clear he9
  as_aux_lemma =>
    by_cases hX0 : X.length = 0
    · skip
      refine wp_region_lit ?_
      refine lW (.int .i64 ((X.length : Int) - 1)) he10 rfl (rn_mv rfl (he10.op rfl) w) ?_
      intro a11 he11
      clear he10 a9
      refine lW (.bool false) he11 rfl (rn_geq rfl (he11.op rfl) (he11.op rfl) (decide_eq_false (by omega)) w) ?_
      intro a12 he12
      clear he11 a11
      refine lW (.bool false) he12 rfl (rn_mv rfl (he12.op rfl) w) ?_
      intro a13 he13
      clear he12 a12
      refine lSkip he13 rfl rfl (he13.wantNot rfl rfl rfl rfl rfl rfl) ?_
      intro a14 he14
      clear he13 a13
      refine lSkip he14 rfl rfl (he14.wantNot rfl rfl rfl rfl rfl rfl) ?_
      intro a15 he15
      clear he14 a14
      refine lSkip he15 rfl rfl (he15.wantNot rfl rfl rfl rfl rfl rfl) ?_
      intro a16 he16
      clear he15 a15
      refine lSkip he16 rfl rfl (he16.wantNot rfl rfl rfl rfl rfl rfl) ?_
      intro a17 he17
      clear he16 a16
      refine lSkip he17 rfl rfl (he17.wantNot rfl rfl rfl rfl rfl rfl) ?_
      intro a18 he18
      clear he17 a17
      refine lSkip he18 rfl rfl (he18.wantNot rfl rfl rfl rfl rfl rfl) ?_
      intro a19 he19
      clear he18 a18
      refine lSkip he19 rfl rfl (he19.wantNot rfl rfl rfl rfl rfl rfl) ?_
      intro a20 he20
      clear he19 a19
      refine lSkip he20 rfl rfl (he20.wantNot rfl rfl rfl rfl rfl rfl) ?_
      intro a21 he21
      clear he20 a20
      refine lSkip he21 rfl rfl (he21.wantNot rfl rfl rfl rfl rfl rfl) ?_
      intro a22 he22
      clear he21 a21
      refine lW (.bool false) he22 rfl (rn_pk0 rfl (he22.op rfl) (he22.op rfl) w) ?_
      intro a23 he23
      clear he22 a22
      refine wpList_nil (then_ok ?_)
      refine wp_cond_false (he23.op rfl) ?_
      refine wp_skip ?_
      refine then_ok ?_
      refine wp_seq (wp_region_lit ?_)
      refine lW (.pointer (some ⟨p, 0, none⟩)) he23 rfl (rn_mv rfl (he23.op rfl) w) ?_
      intro a24 he24
      clear he23 a23
      refine lW (.pointer (some ⟨p, 0, none⟩)) he24 rfl (rn_nilck rfl (he24.op rfl) w) ?_
      intro a25 he25
      clear he24 a24
      refine lW (.pointer (some ⟨p, 2, none⟩)) he25 rfl (rn_faH2 rfl (he25.op rfl) rfl w) ?_
      intro a26 he26
      clear he25 a25
      refine lW (.int .i64 R.pl) he26 rfl (rn_ld1 rfl (he26.op rfl) Tryd.underlying3 (hH2.at (i := 0) rfl) rfl) ?_
      intro a27 he27
      clear he26 a26
      refine lCx he27 rfl rfl Tryd.func70 (by kernel_rfl) rfl rfl (wanted_plain rfl _) rfl (new_ok R.pl h1 h2 w hD.tab) ?_
      rintro _ w28 ⟨qn, rfl, ht⟩
      have hD2 := hD.made ht
      have hH28 := hH2.call ht.new
      replace hD := hD2
      clear hD2 ht
      refine ⟨_, rfl, ?_⟩
      intro a29 he29
      clear he27 a27 hH2
      refine lW (.tuple #[.pointer (some ⟨qn, 0, none⟩), .int .i64 0]) he29 rfl (rn_mv rfl (he29.op rfl) w28) ?_
      intro a30 he30
      clear he29 a29
      refine lW (.pointer (some ⟨qn, 0, none⟩)) he30 rfl (rn_ext rfl (he30.op rfl) rfl w28) ?_
      intro a31 he31
      clear he30 a30
      refine lW (.int .i64 0) he31 rfl (rn_ext rfl (he31.op rfl) rfl w28) ?_
      intro a32 he32
      clear he31 a31
      refine lW (.pointer (some ⟨qn, 0, none⟩)) he32 rfl (rn_asg rfl (he32.op rfl) w28) ?_
      intro a33 he33
      clear he32 a32
      refine lW (.int .i64 0) he33 rfl (rn_asg rfl (he33.op rfl) w28) ?_
      intro a34 he34
      clear he33 a33
      refine wpList_nil (then_ok ?_)
      replace hD := hD.pick 1 rfl
      refine wp_seq (wp_region_lit ?_)
      refine lW (.pointer (some ⟨p, 0, none⟩)) he34 rfl (rn_mv rfl (he34.op rfl) w28) ?_
      intro a35 he35
      clear he34 a34
      refine lW (.pointer (some ⟨p, 0, none⟩)) he35 rfl (rn_mv rfl (he35.op rfl) w28) ?_
      intro a36 he36
      clear he35 a35
      refine lW (.pointer (some ⟨p, 0, none⟩)) he36 rfl (rn_nilck rfl (he36.op rfl) w28) ?_
      intro a37 he37
      clear he36 a36
      refine lW (.pointer (some ⟨p, 0, none⟩)) he37 rfl (rn_faH0 rfl (he37.op rfl) rfl w28) ?_
      intro a38 he38
      clear he37 a37
      refine lW (.slice A2 (X.map (·.q)).length c2) he38 rfl (rn_ldGps rfl (he38.op rfl) (hH28.at (i := 0) rfl) rfl) ?_
      intro a39 he39
      clear he38 a38
      refine lW (.pointer (some ⟨qn, 0, none⟩)) he39 rfl (rn_mv rfl (he39.op rfl) w28) ?_
      intro a40 he40
      clear he39 a39
      refine lNewP (fun p => .slice (some ⟨p, 0, none⟩) 1 1) he40 hH28 rfl rfl (wanted_plain rfl _) (rn_bsGp1 rfl (he40.op rfl) w28) ?_
      intro p41 w41 a42 hp hn hH41 he42
      replace hD := hD.cons hn hp (hH41.at (i := 0) rfl).lt
      clear he40 a40 hH28 hn hp
      obtain ⟨F_, hsep, hF, hstep⟩ := Dt.step (A := [rowP (.slice A2 (X.map (·.q)).length c2) ((X.map (·.q)).map some)]) (D := [pagD R.pl ⟨qn, 0, []⟩, pagsD R.pl X]) hD
      refine lEx he42 rfl rfl (wanted_plain rfl _) (app_p (u := some qn) (M := ((X ++ [(⟨qn, 0, []⟩ : PV)]).map (·.q)).length) hsep.the (rdg_blk (R := rPt) (l := [some qn]) (hH41.at (i := 0) rfl) rfl rfl) (by simp) (by simp; omega) rfl (he42.op rfl) (he42.op rfl)) ?_
      rintro _ w43 ⟨A2, c2, rfl, ht⟩
      obtain ⟨hD2, hHs⟩ := hstep _ _ ht
      have hH43 := hHs _ rfl hH41
      clear hHs hstep hsep hF
      replace hD := hD2
      clear hD2 ht
      intro a44 he44
      clear he42 a42 hH41
      refine lW (.pointer (some ⟨p, 0, none⟩)) he44 rfl (rn_nilck rfl (he44.op rfl) w43) ?_
      intro a45 he45
      clear he44 a44
      refine lW (.pointer (some ⟨p, 0, none⟩)) he45 rfl (rn_faH0 rfl (he45.op rfl) rfl w43) ?_
      intro a46 he46
      clear he45 a45
      refine lSetF 1 #[.slice A2 ((X ++ [(⟨qn, 0, []⟩ : PV)]).map (·.q)).length c2] (cs := #[.slice A2 ((X ++ [(⟨qn, 0, []⟩ : PV)]).map (·.q)).length c2, .int .i64 R.mo, .int .i64 R.pl, .int .i64 R.fi, .int .i64 R.nx]) he46 hH43 rfl (wanted_plain rfl _) rfl rfl rfl rfl rfl (by kernel_rfl) (by kernel_rfl) (by kernel_rfl) rfl ?_
      intro w47 a48 hH47 hf he48
      replace hD := hD.setb (i := 1) rfl rfl hf
      replace hH47 : Hp (bare w) [⟨p41, 99, #[.pointer (some ⟨qn, 0, none⟩)]⟩, ⟨p, 60, #[.slice A2 ((X ++ [(⟨qn, 0, []⟩ : PV)]).map (·.q)).length c2, .int .i64 R.mo, .int .i64 R.pl, .int .i64 R.fi, .int .i64 R.nx]⟩] w47 := hH47
      clear hf
      clear he46 a46 hH43
      refine wpList_nil (then_ok ?_)
      have hH49 := hH47.tail rfl
      clear hH47
      replace hD := hD.tail
      refine wp_seq (wp_region_lit ?_)
      refine lW (.pointer (some ⟨qn, 0, none⟩)) he48 rfl (rn_mv rfl (he48.op rfl) w47) ?_
      intro a50 he50
      clear he48 a48
      refine lW (.pointer (some ⟨qn, 0, none⟩)) he50 rfl (rn_asg rfl (he50.op rfl) w47) ?_
      intro a51 he51
      clear he50 a50
      refine wpList_nil (then_ok ?_)
      have e8 : (X.map (·.q)).map some ++ [some qn] = (((X ++ [(⟨qn, 0, []⟩ : PV)] : List PV)).map (·.q)).map some := by simp
      rw [e8] at hD
      replace hD := hD.pick 1 rfl
      replace hD := hD.pick 2 rfl
      replace hD := hD.pick 2 rfl
      have hD2 := Dt.shut_ring (mo := (R.mo : Int)) (fi := (R.fi : Int)) (nx := (R.nx : Int)) (qs := ((X ++ [(⟨qn, 0, []⟩ : PV)] : List PV).map (·.q))) (X := X) hD (hH49.at (i := 0) rfl) (Hp.notin hH49)
      replace hD := hD2
      clear hD2
      have hH52 := hH49.tail rfl
      clear hH49
      replace hD := hD.pick 1 rfl
      refine wp_ret ?_
      try simp only [Exit.then, Exit.inBlock, Exit.noGoto]
      refine ret_env rfl he51 rfl ⟨X, ⟨qn, 0, []⟩, rfl, by simp; omega, fun l => ?_, hD.turned⟩
      have hXe : X = [] := List.length_eq_zero_iff.1 hX0
      subst hXe
      simp only [List.map_nil] at hX
      rw [← hX]
      rfl
    obtain ⟨Y, y, rfl⟩ : ∃ Y y, X = Y ++ [y] := ⟨X.dropLast, X.getLast (fun e => hX0 (by rw [e]; rfl)), (List.dropLast_concat_getLast _).symm⟩
    have hyl : (Y ++ [y]).length = Y.length + 1 := by simp
    have hy : (Y ++ [y])[Y.length]? = some y := by simp
    have e3 : (((Y ++ [y]).length : Nat) : Int) - 1 = (Y.length : Int) := by omega
    rw [e3] at he10
    have hyo := hD.pags (i := 1) rfl hy
    have hyo2 := hyo.2.2.1
    obtain ⟨bb, hrd, -, hlc⟩ := hD.rdP (i := 0) rfl
    obtain ⟨oo, eA⟩ := hrd.base (by omega)
    subst eA
    obtain ⟨U_, hU_⟩ : ∃ U, (pagD R.pl y).P _ U := by obtain ⟨V_, hV_⟩ := hD.get (i := 1) rfl; obtain ⟨U_, _, h_, _⟩ := pags_out hy (SepL.one hV_); exact ⟨U_, h_⟩
    by_cases hroom : y.gn + y.L.length < R.pl
    · skip
      refine wp_region_lit ?_
      refine lW (.int .i64 Y.length) he10 rfl (rn_mv rfl (he10.op rfl) w) ?_
      intro a53 he53
      clear he10 a9
      refine lW (.bool true) he53 rfl (rn_geq rfl (he53.op rfl) (he53.op rfl) (decide_eq_true (by omega)) w) ?_
      intro a54 he54
      clear he53 a53
      refine lW (.bool true) he54 rfl (rn_mv rfl (he54.op rfl) w) ?_
      intro a55 he55
      clear he54 a54
      refine lV (.pointer (some ⟨p, 0, none⟩)) he55 rfl rfl (he55.want rfl rfl rfl rfl rfl) (rn_mv rfl (he55.op rfl) w) ?_
      intro a56 he56
      clear he55 a55
      refine lV (.pointer (some ⟨p, 0, none⟩)) he56 rfl rfl (he56.want rfl rfl rfl rfl rfl) (rn_nilck rfl (he56.op rfl) w) ?_
      intro a57 he57
      clear he56 a56
      refine lV (.pointer (some ⟨p, 0, none⟩)) he57 rfl rfl (he57.want rfl rfl rfl rfl rfl) (rn_faH0 rfl (he57.op rfl) rfl w) ?_
      intro a58 he58
      clear he57 a57
      refine lV (.slice (some ⟨bb, oo, none⟩) ((Y ++ [y]).map (·.q)).length c2) he58 rfl rfl (he58.want rfl rfl rfl rfl rfl) (rn_ldGps rfl (he58.op rfl) (hH2.at (i := 0) rfl) rfl) ?_
      intro a59 he59
      clear he58 a58
      refine lV (.int .i64 Y.length) he59 rfl rfl (he59.want rfl rfl rfl rfl rfl) (rn_mv rfl (he59.op rfl) w) ?_
      intro a60 he60
      clear he59 a59
      refine lV (.pointer (some ⟨bb, oo + Y.length * 1, none⟩)) he60 rfl rfl (he60.want rfl rfl rfl rfl rfl) (rn_idxGp (i := Y.length) rfl (he60.op rfl) (he60.op rfl) (by omega) (by rw [addr_add]) w) ?_
      intro a61 he61
      clear he60 a60
      refine lV (.pointer (some ⟨y.q, 0, none⟩)) he61 rfl rfl (he61.want rfl rfl rfl rfl rfl) (rn_ldPt (i := Y.length) rfl (he61.op rfl) hrd rfl (ptr_at hy)) ?_
      intro a62 he62
      clear he61 a61
      refine lC he62 rfl rfl Tryd.func69 (by kernel_rfl) rfl rfl (he62.want rfl rfl rfl rfl rfl) rfl (room_b y.q R.pl y.gn y.L U_ w hU_ hD.tab) ?_
      intro w63 a64 hn he64
      have hH63 := hH2.call hn
      replace hD := (hD).new hn
      replace hrd := hrd.new hn
      replace hU_ := (shD _ _ _ _).fr hU_ hn (fun _ _ h => h)
      clear he62 a62 hH2 hn
      refine lV (.bool true) he64 rfl rfl (he64.want rfl rfl rfl rfl rfl) (rn_gtr rfl (he64.op rfl) (he64.op rfl) (decide_eq_true (by omega)) w63) ?_
      intro a65 he65
      clear he64 a64
      refine lW (.bool true) he65 rfl (rn_pk rfl (he65.op rfl) (he65.op rfl) w63) ?_
      intro a66 he66
      clear he65 a65
      refine wpList_nil (then_ok ?_)
      refine wp_cond_true (he66.op rfl) ?_
      refine wp_seq (wp_region_lit ?_)
      refine lW (.pointer (some ⟨p, 0, none⟩)) he66 rfl (rn_mv rfl (he66.op rfl) w63) ?_
      intro a67 he67
      clear he66 a66
      refine lW (.pointer (some ⟨p, 0, none⟩)) he67 rfl (rn_nilck rfl (he67.op rfl) w63) ?_
      intro a68 he68
      clear he67 a67
      refine lW (.pointer (some ⟨p, 0, none⟩)) he68 rfl (rn_faH0 rfl (he68.op rfl) rfl w63) ?_
      intro a69 he69
      clear he68 a68
      refine lW (.slice (some ⟨bb, oo, none⟩) ((Y ++ [y]).map (·.q)).length c2) he69 rfl (rn_ldGps rfl (he69.op rfl) (hH63.at (i := 0) rfl) rfl) ?_
      intro a70 he70
      clear he69 a69
      refine lW (.int .i64 Y.length) he70 rfl (rn_mv rfl (he70.op rfl) w63) ?_
      intro a71 he71
      clear he70 a70
      refine lW (.pointer (some ⟨bb, oo + Y.length * 1, none⟩)) he71 rfl (rn_idxGp (i := Y.length) rfl (he71.op rfl) (he71.op rfl) (by omega) (by rw [addr_add]) w63) ?_
      intro a72 he72
      clear he71 a71
      refine lW (.pointer (some ⟨y.q, 0, none⟩)) he72 rfl (rn_ldPt (i := Y.length) rfl (he72.op rfl) hrd rfl (ptr_at hy)) ?_
      intro a73 he73
      clear he72 a72
      refine lW (.pointer (some ⟨y.q, 0, none⟩)) he73 rfl (rn_asg rfl (he73.op rfl) w63) ?_
      intro a74 he74
      clear he73 a73
      refine wpList_nil (then_ok ?_)
      have hD2 := Dt.shut_ring (mo := (R.mo : Int)) (fi := (R.fi : Int)) (nx := (R.nx : Int)) (qs := ((Y ++ [y]).map (·.q))) (X := (Y ++ [y])) hD (hH63.at (i := 0) rfl) (Hp.notin hH63)
      replace hD := hD2
      clear hD2
      have hH75 := hH63.tail rfl
      clear hH63
      have e9 : (Y ++ [y]).eraseIdx Y.length = Y := by rw [List.eraseIdx_append_of_length_le (Nat.le_refl _)]; simp
      replace hD := Dt.front (A := [rawD p (R.mo : Int) R.pl (R.fi : Int) (R.nx : Int) ((Y ++ [y]).map (·.q)) (Y ++ [y])]) (B := [pagD R.pl y, rawD p (R.mo : Int) R.pl (R.fi : Int) (R.nx : Int) ((Y ++ [y]).map (·.q)) Y]) (D := []) hD (fun G h => by have h_ := raw_out hy h; rw [e9] at h_; exact h_)
      refine wp_ret ?_
      try simp only [Exit.then, Exit.inBlock, Exit.noGoto]
      refine ret_env rfl he74 rfl ⟨Y, y, rfl, hroom, fun l => ?_, hD.turned⟩
      rw [← hX]
      simp only [List.map_append, List.map_cons, List.map_nil]
      rw [addP_snoc, if_neg (by show ¬ y.gn + y.L.length = R.pl; omega)]
    refine wp_region_lit ?_
    refine lW (.int .i64 Y.length) he10 rfl (rn_mv rfl (he10.op rfl) w) ?_
    intro a76 he76
    clear he10 a9
    refine lW (.bool true) he76 rfl (rn_geq rfl (he76.op rfl) (he76.op rfl) (decide_eq_true (by omega)) w) ?_
    intro a77 he77
    clear he76 a76
    refine lW (.bool true) he77 rfl (rn_mv rfl (he77.op rfl) w) ?_
    intro a78 he78
    clear he77 a77
    refine lV (.pointer (some ⟨p, 0, none⟩)) he78 rfl rfl (he78.want rfl rfl rfl rfl rfl) (rn_mv rfl (he78.op rfl) w) ?_
    intro a79 he79
    clear he78 a78
    refine lV (.pointer (some ⟨p, 0, none⟩)) he79 rfl rfl (he79.want rfl rfl rfl rfl rfl) (rn_nilck rfl (he79.op rfl) w) ?_
    intro a80 he80
    clear he79 a79
    refine lV (.pointer (some ⟨p, 0, none⟩)) he80 rfl rfl (he80.want rfl rfl rfl rfl rfl) (rn_faH0 rfl (he80.op rfl) rfl w) ?_
    intro a81 he81
    clear he80 a80
    refine lV (.slice (some ⟨bb, oo, none⟩) ((Y ++ [y]).map (·.q)).length c2) he81 rfl rfl (he81.want rfl rfl rfl rfl rfl) (rn_ldGps rfl (he81.op rfl) (hH2.at (i := 0) rfl) rfl) ?_
    intro a82 he82
    clear he81 a81
    refine lV (.int .i64 Y.length) he82 rfl rfl (he82.want rfl rfl rfl rfl rfl) (rn_mv rfl (he82.op rfl) w) ?_
    intro a83 he83
    clear he82 a82
    refine lV (.pointer (some ⟨bb, oo + Y.length * 1, none⟩)) he83 rfl rfl (he83.want rfl rfl rfl rfl rfl) (rn_idxGp (i := Y.length) rfl (he83.op rfl) (he83.op rfl) (by omega) (by rw [addr_add]) w) ?_
    intro a84 he84
    clear he83 a83
    refine lV (.pointer (some ⟨y.q, 0, none⟩)) he84 rfl rfl (he84.want rfl rfl rfl rfl rfl) (rn_ldPt (i := Y.length) rfl (he84.op rfl) hrd rfl (ptr_at hy)) ?_
    intro a85 he85
    clear he84 a84
    refine lC he85 rfl rfl Tryd.func69 (by kernel_rfl) rfl rfl (he85.want rfl rfl rfl rfl rfl) rfl (room_b y.q R.pl y.gn y.L U_ w hU_ hD.tab) ?_
    intro w86 a87 hn he87
    have hH86 := hH2.call hn
    replace hD := (hD).new hn
    replace hrd := hrd.new hn
    replace hU_ := (shD _ _ _ _).fr hU_ hn (fun _ _ h => h)
    clear he85 a85 hH2 hn
    refine lV (.bool false) he87 rfl rfl (he87.want rfl rfl rfl rfl rfl) (rn_gtr rfl (he87.op rfl) (he87.op rfl) (decide_eq_false (by omega)) w86) ?_
    intro a88 he88
    clear he87 a87
    refine lW (.bool false) he88 rfl (rn_pk rfl (he88.op rfl) (he88.op rfl) w86) ?_
    intro a89 he89
    clear he88 a88
    refine wpList_nil (then_ok ?_)
    refine wp_cond_false (he89.op rfl) ?_
    refine wp_skip ?_
    refine then_ok ?_
    clear hrd hU_
    refine wp_seq (wp_region_lit ?_)
    refine lW (.pointer (some ⟨p, 0, none⟩)) he89 rfl (rn_mv rfl (he89.op rfl) w86) ?_
    intro a90 he90
    clear he89 a89
    refine lW (.pointer (some ⟨p, 0, none⟩)) he90 rfl (rn_nilck rfl (he90.op rfl) w86) ?_
    intro a91 he91
    clear he90 a90
    refine lW (.pointer (some ⟨p, 2, none⟩)) he91 rfl (rn_faH2 rfl (he91.op rfl) rfl w86) ?_
    intro a92 he92
    clear he91 a91
    refine lW (.int .i64 R.pl) he92 rfl (rn_ld1 rfl (he92.op rfl) Tryd.underlying3 (hH86.at (i := 0) rfl) rfl) ?_
    intro a93 he93
    clear he92 a92
    refine lCx he93 rfl rfl Tryd.func70 (by kernel_rfl) rfl rfl (wanted_plain rfl _) rfl (new_ok R.pl h1 h2 w86 hD.tab) ?_
    rintro _ w94 ⟨qn, rfl, ht⟩
    have hD2 := hD.made ht
    have hH94 := hH86.call ht.new
    replace hD := hD2
    clear hD2 ht
    refine ⟨_, rfl, ?_⟩
    intro a95 he95
    clear he93 a93 hH86
    refine lW (.tuple #[.pointer (some ⟨qn, 0, none⟩), .int .i64 0]) he95 rfl (rn_mv rfl (he95.op rfl) w94) ?_
    intro a96 he96
    clear he95 a95
    refine lW (.pointer (some ⟨qn, 0, none⟩)) he96 rfl (rn_ext rfl (he96.op rfl) rfl w94) ?_
    intro a97 he97
    clear he96 a96
    refine lW (.int .i64 0) he97 rfl (rn_ext rfl (he97.op rfl) rfl w94) ?_
    intro a98 he98
    clear he97 a97
    refine lW (.pointer (some ⟨qn, 0, none⟩)) he98 rfl (rn_asg rfl (he98.op rfl) w94) ?_
    intro a99 he99
    clear he98 a98
    refine lW (.int .i64 0) he99 rfl (rn_asg rfl (he99.op rfl) w94) ?_
    intro a100 he100
    clear he99 a99
    refine wpList_nil (then_ok ?_)
    replace hD := hD.pick 1 rfl
    refine wp_seq (wp_region_lit ?_)
    refine lW (.pointer (some ⟨p, 0, none⟩)) he100 rfl (rn_mv rfl (he100.op rfl) w94) ?_
    intro a101 he101
    clear he100 a100
    refine lW (.pointer (some ⟨p, 0, none⟩)) he101 rfl (rn_mv rfl (he101.op rfl) w94) ?_
    intro a102 he102
    clear he101 a101
    refine lW (.pointer (some ⟨p, 0, none⟩)) he102 rfl (rn_nilck rfl (he102.op rfl) w94) ?_
    intro a103 he103
    clear he102 a102
    refine lW (.pointer (some ⟨p, 0, none⟩)) he103 rfl (rn_faH0 rfl (he103.op rfl) rfl w94) ?_
    intro a104 he104
    clear he103 a103
    refine lW (.slice (some ⟨bb, oo, none⟩) ((Y ++ [y]).map (·.q)).length c2) he104 rfl (rn_ldGps rfl (he104.op rfl) (hH94.at (i := 0) rfl) rfl) ?_
    intro a105 he105
    clear he104 a104
    refine lW (.pointer (some ⟨qn, 0, none⟩)) he105 rfl (rn_mv rfl (he105.op rfl) w94) ?_
    intro a106 he106
    clear he105 a105
    refine lNewP (fun p => .slice (some ⟨p, 0, none⟩) 1 1) he106 hH94 rfl rfl (wanted_plain rfl _) (rn_bsGp1 rfl (he106.op rfl) w94) ?_
    intro p107 w107 a108 hp hn hH107 he108
    replace hD := hD.cons hn hp (hH107.at (i := 0) rfl).lt
    clear he106 a106 hH94 hn hp
    obtain ⟨F_, hsep, hF, hstep⟩ := Dt.step (A := [rowP (.slice (some ⟨bb, oo, none⟩) ((Y ++ [y]).map (·.q)).length c2) (((Y ++ [y]).map (·.q)).map some)]) (D := [pagD R.pl ⟨qn, 0, []⟩, pagsD R.pl (Y ++ [y])]) hD
    refine lEx he108 rfl rfl (wanted_plain rfl _) (app_p (u := some qn) (M := (((Y ++ [y]) ++ [(⟨qn, 0, []⟩ : PV)]).map (·.q)).length) hsep.the (rdg_blk (R := rPt) (l := [some qn]) (hH107.at (i := 0) rfl) rfl rfl) (by simp) (by simp; omega) rfl (he108.op rfl) (he108.op rfl)) ?_
    rintro _ w109 ⟨A2, c2, rfl, ht⟩
    obtain ⟨hD2, hHs⟩ := hstep _ _ ht
    have hH109 := hHs _ rfl hH107
    clear hHs hstep hsep hF
    replace hD := hD2
    clear hD2 ht
    intro a110 he110
    clear he108 a108 hH107
    refine lW (.pointer (some ⟨p, 0, none⟩)) he110 rfl (rn_nilck rfl (he110.op rfl) w109) ?_
    intro a111 he111
    clear he110 a110
    refine lW (.pointer (some ⟨p, 0, none⟩)) he111 rfl (rn_faH0 rfl (he111.op rfl) rfl w109) ?_
    intro a112 he112
    clear he111 a111
    refine lSetF 1 #[.slice A2 (((Y ++ [y]) ++ [(⟨qn, 0, []⟩ : PV)]).map (·.q)).length c2] (cs := #[.slice A2 (((Y ++ [y]) ++ [(⟨qn, 0, []⟩ : PV)]).map (·.q)).length c2, .int .i64 R.mo, .int .i64 R.pl, .int .i64 R.fi, .int .i64 R.nx]) he112 hH109 rfl (wanted_plain rfl _) rfl rfl rfl rfl rfl (by kernel_rfl) (by kernel_rfl) (by kernel_rfl) rfl ?_
    intro w113 a114 hH113 hf he114
    replace hD := hD.setb (i := 1) rfl rfl hf
    replace hH113 : Hp (bare w) [⟨p107, 99, #[.pointer (some ⟨qn, 0, none⟩)]⟩, ⟨p, 60, #[.slice A2 (((Y ++ [y]) ++ [(⟨qn, 0, []⟩ : PV)]).map (·.q)).length c2, .int .i64 R.mo, .int .i64 R.pl, .int .i64 R.fi, .int .i64 R.nx]⟩] w113 := hH113
    clear hf
    clear he112 a112 hH109
    refine wpList_nil (then_ok ?_)
    have hH115 := hH113.tail rfl
    clear hH113
    replace hD := hD.tail
    refine wp_seq (wp_region_lit ?_)
    refine lW (.pointer (some ⟨qn, 0, none⟩)) he114 rfl (rn_mv rfl (he114.op rfl) w113) ?_
    intro a116 he116
    clear he114 a114
    refine lW (.pointer (some ⟨qn, 0, none⟩)) he116 rfl (rn_asg rfl (he116.op rfl) w113) ?_
    intro a117 he117
    clear he116 a116
    refine wpList_nil (then_ok ?_)
    have e8 : ((Y ++ [y]).map (·.q)).map some ++ [some qn] = ((((Y ++ [y]) ++ [(⟨qn, 0, []⟩ : PV)] : List PV)).map (·.q)).map some := by simp
    rw [e8] at hD
    replace hD := hD.pick 1 rfl
    replace hD := hD.pick 2 rfl
    replace hD := hD.pick 2 rfl
    have hD2 := Dt.shut_ring (mo := (R.mo : Int)) (fi := (R.fi : Int)) (nx := (R.nx : Int)) (qs := (((Y ++ [y]) ++ [(⟨qn, 0, []⟩ : PV)] : List PV).map (·.q))) (X := (Y ++ [y])) hD (hH115.at (i := 0) rfl) (Hp.notin hH115)
    replace hD := hD2
    clear hD2
    have hH118 := hH115.tail rfl
    clear hH115
    replace hD := hD.pick 1 rfl
    refine wp_ret ?_
    try simp only [Exit.then, Exit.inBlock, Exit.noGoto]
    refine ret_env rfl he117 rfl ⟨(Y ++ [y]), ⟨qn, 0, []⟩, rfl, by simp; omega, fun l => ?_, hD.turned⟩
    rw [← hX]
    simp only [List.map_append, List.map_cons, List.map_nil]
    rw [addP_snoc, if_pos (by show y.gn + y.L.length = R.pl; omega), List.append_assoc]
    rfl
set_option linter.unusedSimpArgs false in
set_option maxRecDepth 100000 in
set_option maxHeartbeats 1600000 in
theorem rPush (p : Nat) (R : RS) (x : Value) (l : List Ce) (s : Bool) (F Gx : FP) (w : World) (hs : (ringD p R).P w F) (hn9 : R.nx < bigN) (hx0 : SlF w Gx x l) (hGF : ∀ k, Gx k → ¬ F k) (hF : ∀ k, F k → 2 ≤ k ∧ k < w.heap.size) (hT : Tab w) : Calls Tryd.prog 32 #[.pointer (some ⟨p, 0, none⟩), .agg #[x, .bool s]] w fun e w' => e = .returned (.tuple #[.int .i64 (pushR R (l, s)).2.1, .int .i64 (pushR R (l, s)).2.2]) ∧ Turned [ringD p (pushR R (l, s)).1] F w w' := by
  obtain ⟨B, cb, b, e_, hcb, hr, hb⟩ := id hx0
  subst e_
  have hx := hx0.lt
  clear hr hb hcb hx0
  refine calls_args (vl := [.pointer (some ⟨p, 0, none⟩), .agg #[.slice B l.length cb, .bool s]]) 32 Tryd.func32 rfl Tryd.ntmps32 (by kernel_rfl) (fun a he => ?_)
  have he0 : Env 32 [(0, .pointer (some ⟨p, 0, none⟩)), (1, .agg #[.slice B l.length cb, .bool s])] a := he
  clear he
  have hH := Hp.bare w
  have hD := Dt.begin hT (SepL.one hs) hF
  have hok := hD.ring_ok
  replace hD := Dt.front (A := [ringD p R]) (B := [ringW p R]) (D := []) hD (fun G h => ring_w h)
  have hplz : ((R.pl : Int) == 0) = false := by have := hok.pl1; simp; omega
  refine wp_seq (wp_region_lit ?_)
  refine lNewP (fun p => .pointer (some ⟨p, 0, none⟩)) he0 hH rfl rfl (wanted_plain rfl _) (rn_boxL rfl (he0.op rfl) w) ?_
  intro p1 w1 a2 hp hn hH1 he2
  replace hD := hD.cons hn hp (hH1.at (i := 0) rfl).lt
  replace hx := SlF.fr hx hn (fun _ _ h => h)
  clear he0 a hH hn hp
  refine lW (.int .i64 0) he2 rfl (rn_asg rfl (he2.op rfl) w1) ?_
  intro a3 he3
  clear he2 a2
  refine lW (.int .i64 0) he3 rfl (rn_asg rfl (he3.op rfl) w1) ?_
  intro a4 he4
  clear he3 a3
  refine wpList_nil (then_ok ?_)
  obtain ⟨X, hX, hD2⟩ := hD.ring_raw
  replace hD := hD2
  clear hD2
  obtain ⟨A5, c5, hD2, hH5⟩ := Dt.open_ring hD hH1 rfl
  clear hD hH1
  have hD := hD2
  clear hD2
  refine wp_seq ?_
  refine wp_block ?_
  refine wp_seq (wp_region_lit ?_)
  refine lW (.pointer (some ⟨p, 0, none⟩)) he4 rfl (rn_mv rfl (he4.op rfl) w1) ?_
  intro a6 he6
  clear he4 a4
  refine lC he6 rfl rfl Tryd.func45 (by kernel_rfl) rfl rfl (wanted_plain rfl _) rfl (rUnmade_f _ _ _ _ _ _ _ _ w1 (hH5.at (i := 0) rfl) hplz hD.tab) ?_
  intro w7 a8 hn he8
  have hH7 := hH5.call hn
  replace hD := (hD).new hn
  replace hx := SlF.fr hx hn (fun _ _ h => h)
  clear he6 a6 hH5 hn
  refine lW (.bool false) he8 rfl (rn_asg rfl (he8.op rfl) w7) ?_
  intro a9 he9
  clear he8 a8
  refine wpList_nil (then_ok ?_)
  refine wp_cond_false (he9.op rfl) ?_
  obtain ⟨v, hv⟩ : ∃ v, okL l = v := ⟨_, rfl⟩
  cases v with
  | false =>
    refine wp_seq (wp_region_lit ?_)
    refine lW (.agg #[.slice B l.length cb, .bool s]) he9 rfl (rn_ldp _ rfl (he9.op rfl) undL rfl infoL2 (hH7.at (i := 1) rfl) rfl) ?_
    intro a10 he10
    clear he9 a9
    refine lC he10 rfl rfl Tryd.func51 (by kernel_rfl) rfl rfl (wanted_plain rfl _) rfl (valid_s _ l s false hv w7 hx.sl hD.tab) ?_
    intro w11 a12 hn he12
    have hH11 := hH7.call hn
    replace hD := (hD).new hn
    replace hx := SlF.fr hx hn (fun _ _ h => h)
    clear he10 a10 hH7 hn
    refine lW (.bool true) he12 rfl (rn_not (b := false) rfl (he12.op rfl) w11) ?_
    intro a13 he13
    clear he12 a12
    refine lW (.bool true) he13 rfl (rn_asg rfl (he13.op rfl) w11) ?_
    intro a14 he14
    clear he13 a13
    refine wpList_nil (then_ok ?_)
    refine wp_cond_true (he14.op rfl) ?_
    refine wp_seq (wp_region_lit ?_)
    refine lW (.int .i64 0) he14 rfl (rn_asg rfl (he14.op rfl) w11) ?_
    intro a15 he15
    clear he14 a14
    refine lW (.int .i64 2) he15 rfl (rn_asg rfl (he15.op rfl) w11) ?_
    intro a16 he16
    clear he15 a15
    refine wpList_nil (then_ok ?_)
    rw [push_f hv]
    have hD2 := Dt.shut_ring (mo := (R.mo : Int)) (fi := (R.fi : Int)) (nx := (R.nx : Int)) (qs := (X.map (·.q))) (X := X) hD (hH11.at (i := 0) rfl) (Hp.notin hH11)
    replace hD := hD2
    clear hD2
    have hH17 := hH11.tail rfl
    clear hH11
    replace hD := Dt.front (A := [rawD p (R.mo : Int) R.pl (R.fi : Int) (R.nx : Int) (X.map (·.q)) X]) (B := [ringD p R]) (D := []) hD (fun G h => ring_ok hok (ring_shut hX h))
    refine wp_ret ?_
    try simp only [Exit.then, Exit.inBlock, Exit.noGoto]
    exact ret_tt rfl he16 rfl rfl ⟨rfl, hD.turned⟩
  | true =>
    refine wp_seq (wp_region_lit ?_)
    refine lW (.agg #[.slice B l.length cb, .bool s]) he9 rfl (rn_ldp _ rfl (he9.op rfl) undL rfl infoL2 (hH7.at (i := 1) rfl) rfl) ?_
    intro a18 he18
    clear he9 a9
    refine lC he18 rfl rfl Tryd.func51 (by kernel_rfl) rfl rfl (wanted_plain rfl _) rfl (valid_s _ l s true hv w7 hx.sl hD.tab) ?_
    intro w19 a20 hn he20
    have hH19 := hH7.call hn
    replace hD := (hD).new hn
    replace hx := SlF.fr hx hn (fun _ _ h => h)
    clear he18 a18 hH7 hn
    refine lW (.bool false) he20 rfl (rn_not (b := true) rfl (he20.op rfl) w19) ?_
    intro a21 he21
    clear he20 a20
    refine lW (.bool false) he21 rfl (rn_asg rfl (he21.op rfl) w19) ?_
    intro a22 he22
    clear he21 a21
    refine wpList_nil (then_ok ?_)
    refine wp_cond_false (he22.op rfl) ?_
    refine wp_skip ?_
    refine block_ok ?_
    refine then_ok ?_
    rw [push_t hv]
    have he23 : Env 32 [(3, .pointer (some ⟨p1, 0, none⟩)), (0, .pointer (some ⟨p, 0, none⟩))] a22 := he22.mem ⟨rfl, rfl, trivial⟩
    clear he22
    as_aux_lemma =>
      have hD2 := Dt.shut_ring (mo := (R.mo : Int)) (fi := (R.fi : Int)) (nx := (R.nx : Int)) (qs := (X.map (·.q))) (X := X) hD (hH19.at (i := 0) rfl) (Hp.notin hH19)
      replace hD := hD2
      clear hD2
      have hH24 := hH19.tail rfl
      clear hH19
      replace hD := Dt.front (A := [rawD p (R.mo : Int) R.pl (R.fi : Int) (R.nx : Int) (X.map (·.q)) X]) (B := [ringW p R]) (D := []) hD (fun G h => ring_shut hX h)
      have hPl : R.P.length ≤ 3000000 := by have := hok.pg.len_le; have h2 : (flatP R.P).length ≤ R.mo := hok.len; have := hok.mo; omega
      refine wp_seq ?_
      refine wp_region_held_drew (S := Hp (bare w) [⟨p1, 36, #[.slice B l.length cb, .bool s]⟩]) (by kernel_rfl) (hH24.drew) (fun _ => ?_)
      have hn : New w19 (World.drew w19) := (Fr.refl _ _).drew
      replace hD := (hD).new hn
      replace hx := SlF.fr hx hn (fun _ _ h => h)
      clear hn
      have hH25 := hH24.drew
      clear hH24
      generalize World.drew w19 = w25 at *
      refine hW (fuel := 3) (i := 0) (.pointer (some ⟨p, 0, none⟩)) he23 rfl (by kernel_rfl) (fun _ _ _ h => h) (fun w' _ => rn_mv rfl (he23.op rfl) w') hH25 ?_
      intro a26 he26
      clear he23 a22
      refine hW (fuel := 2) (i := 2) (.agg #[.slice B l.length cb, .bool s]) he26 rfl (by kernel_rfl) (fun _ _ _ h => h) (fun w' hw' => rn_ldp _ rfl (he26.op rfl) undL rfl infoL2 (hw'.at (i := 0) rfl) rfl) hH25 ?_
      intro a27 he27
      clear he26 a26
      obtain ⟨F_, hsep, hF, hlo, hstep⟩ := Dt.stepL (A := [ringW p R]) (D := []) hD
      refine hC (fuel := 1) (i := 1) he27 (by kernel_rfl) rfl rfl rfl Tryd.func57 (by kernel_rfl) rfl rfl (wanted_plain rfl _) rfl (((rOpen p R F_ w25 hsep.the hok.pl1 hok.pl2 hok.pg hPl hF hD.tab).mono (fun e_ w_ h_ => (by obtain ⟨Y, y, q1, q2, q3, ht_⟩ := h_; exact ⟨Y, y, q1, q2, q3, SlF.fr hx ht_.1 (fun k hk h9 => (hlo k h9).elim (hGF k hk.1) (fun h8 => by have := hk.2; omega)), ht_⟩ : ∃ (Y : List PV) (y : PV), e_ = .returned (.pointer (some ⟨y.q, 0, none⟩)) ∧ y.gn + y.L.length < R.pl ∧ (∀ l, (Y ++ [⟨y.q, y.gn, y.L ++ [l]⟩] : List PV).map PV.pg = addP R.pl R.P l) ∧ SlF w_ (fun k => Gx k ∧ k < w.heap.size) (.slice B l.length cb) l ∧ Turned [pagD R.pl y, rawD p (R.mo : Int) R.pl (R.fi : Int) (R.nx : Int) ((Y ++ [y]).map (·.q)) Y] F_ w25 w_)))) ?_
      rintro _ w28 ⟨Y, y, rfl, hroom, hadd, hx2, ht⟩
      obtain ⟨hD2, hHs⟩ := hstep _ _ ht
      have hH28 := hHs _ rfl hH25
      clear hHs hstep hsep hF hlo
      replace hD := hD2
      clear hD2 ht
      refine ⟨_, rfl, hH28, ?_⟩
      intro a29 he29
      clear he27 a27 hH25
      obtain ⟨F_, hsep, hF, hstep⟩ := Dt.step (A := [pagD R.pl y]) (D := [rawD p (R.mo : Int) R.pl (R.fi : Int) (R.nx : Int) ((Y ++ [y]).map (·.q)) Y]) hD
      refine hC (fuel := 0) (i := 3) he29 (by kernel_rfl) rfl rfl rfl Tryd.func58 (by kernel_rfl) rfl rfl (wanted_plain rfl _) rfl ((by have hc_ := push_b F_ y.q R.pl y.gn y.L _ l s w28 hsep.the hF hD.tab hx2.sl; rw [push_full hv hroom] at hc_; exact hc_)) ?_
      rintro _ w30 ⟨rfl, ht⟩
      obtain ⟨hD2, hHs⟩ := hstep _ _ ht
      have hH30 := hHs _ rfl hH28
      clear hHs hstep hsep hF
      replace hD := hD2
      clear hD2 ht
      refine ⟨_, rfl, hH30, ?_⟩
      intro a31 he31
      clear he29 a29 hH28
      refine wpAnyH_done (by kernel_rfl) ?_ _
      refine then_ok ?_
      clear hx hx2
      obtain ⟨z, hz⟩ : ∃ z : PV, z = ⟨y.q, y.gn, y.L ++ [(l, s)]⟩ := ⟨_, rfl⟩
      have hadd2 := hadd (l, s)
      rw [← hz] at hadd2
      replace hD := Dt.front (A := [pagD R.pl ⟨y.q, y.gn, y.L ++ [(l, s)]⟩]) (B := [pagD R.pl z]) (D := [rawD p (R.mo : Int) R.pl (R.fi : Int) (R.nx : Int) ((Y ++ [y]).map (·.q)) Y]) hD (fun G h => by rw [hz]; exact h)
      replace hD := Dt.front (A := [pagD R.pl z, rawD p (R.mo : Int) R.pl (R.fi : Int) (R.nx : Int) ((Y ++ [y]).map (·.q)) Y]) (B := [rawD p (R.mo : Int) R.pl (R.fi : Int) (R.nx : Int) ((Y ++ [z]).map (·.q)) (Y ++ [z])]) (D := []) hD (fun G h => raw_last (by rw [hz]) h)
      obtain ⟨A32, c32, hD2, hH32⟩ := Dt.open_ring hD hH30 rfl
      clear hD hH30
      have hD := hD2
      clear hD2
      refine wp_seq (wp_region_lit ?_)
      refine lW (.pointer (some ⟨p, 0, none⟩)) he31 rfl (rn_mv rfl (he31.op rfl) w30) ?_
      intro a33 he33
      clear he31 a31
      refine lW (.pointer (some ⟨p, 0, none⟩)) he33 rfl (rn_nilck rfl (he33.op rfl) w30) ?_
      intro a34 he34
      clear he33 a33
      refine lW (.pointer (some ⟨p, 4, none⟩)) he34 rfl (rn_faH4 rfl (he34.op rfl) rfl w30) ?_
      intro a35 he35
      clear he34 a34
      refine lW (.int .i64 R.nx) he35 rfl (rn_ld1 rfl (he35.op rfl) Tryd.underlying3 (hH32.at (i := 0) rfl) rfl) ?_
      intro a36 he36
      clear he35 a35
      refine lW (.int .i64 R.nx) he36 rfl (rn_asg rfl (he36.op rfl) w30) ?_
      intro a37 he37
      clear he36 a36
      refine wpList_nil (then_ok ?_)
      have hnb : bigN = 1000000000 := rfl
      refine wp_seq (wp_region_lit ?_)
      refine lW (.pointer (some ⟨p, 0, none⟩)) he37 rfl (rn_mv rfl (he37.op rfl) w30) ?_
      intro a38 he38
      clear he37 a37
      refine lW (.pointer (some ⟨p, 0, none⟩)) he38 rfl (rn_nilck rfl (he38.op rfl) w30) ?_
      intro a39 he39
      clear he38 a38
      refine lW (.pointer (some ⟨p, 4, none⟩)) he39 rfl (rn_faH4 rfl (he39.op rfl) rfl w30) ?_
      intro a40 he40
      clear he39 a39
      refine lW (.int .i64 R.nx) he40 rfl (rn_ld1 rfl (he40.op rfl) Tryd.underlying3 (hH32.at (i := 0) rfl) rfl) ?_
      intro a41 he41
      clear he40 a40
      refine lW (.int .i64 ((adR R (l, s)).nx : Int)) he41 rfl (rn_add1 rfl (he41.op rfl) (he41.op rfl) (by rw [IntWalk.i64_in _ ⟨by omega, by omega⟩, adR_nx]; omega) w30) ?_
      intro a42 he42
      clear he41 a41
      refine lW (.pointer (some ⟨p, 0, none⟩)) he42 rfl (rn_nilck rfl (he42.op rfl) w30) ?_
      intro a43 he43
      clear he42 a42
      refine lW (.pointer (some ⟨p, 4, none⟩)) he43 rfl (rn_faH4 rfl (he43.op rfl) rfl w30) ?_
      intro a44 he44
      clear he43 a43
      refine lSetF 0 #[.int .i64 ((adR R (l, s)).nx : Int)] (cs := #[.slice A32 ((Y ++ [z]).map (·.q)).length c32, .int .i64 R.mo, .int .i64 R.pl, .int .i64 R.fi, .int .i64 ((adR R (l, s)).nx : Int)]) he44 hH32 rfl (wanted_plain rfl _) rfl rfl rfl rfl rfl (by kernel_rfl) (by kernel_rfl) (by kernel_rfl) rfl ?_
      intro w45 a46 hH45 hf he46
      replace hD := hD.setb (i := 0) rfl rfl hf
      replace hH45 : Hp (bare w) [⟨p, 60, #[.slice A32 ((Y ++ [z]).map (·.q)).length c32, .int .i64 R.mo, .int .i64 R.pl, .int .i64 R.fi, .int .i64 ((adR R (l, s)).nx : Int)]⟩, ⟨p1, 36, #[.slice B l.length cb, .bool s]⟩] w45 := hH45
      clear hf
      clear he44 a44 hH32
      refine wpList_nil (then_ok ?_)
      have hD2 := Dt.shut_ring (mo := (R.mo : Int)) (fi := (R.fi : Int)) (nx := ((adR R (l, s)).nx : Int)) (qs := ((Y ++ [z]).map (·.q))) (X := (Y ++ [z])) hD (hH45.at (i := 0) rfl) (Hp.notin hH45)
      replace hD := hD2
      clear hD2
      have hH47 := hH45.tail rfl
      clear hH45
      replace hD := Dt.front (A := [rawD p (R.mo : Int) R.pl (R.fi : Int) ((adR R (l, s)).nx : Int) ((Y ++ [z]).map (·.q)) (Y ++ [z])]) (B := [ringW p (adR R (l, s))]) (D := []) hD (fun G h => ring_shut (R := adR R (l, s)) hadd2 h)
      refine wp_seq (wp_region_lit ?_)
      refine lW (.pointer (some ⟨p, 0, none⟩)) he46 rfl (rn_mv rfl (he46.op rfl) w45) ?_
      intro a48 he48
      clear he46 a46
      obtain ⟨F_, hsep, hF, hstep⟩ := Dt.step (A := [ringW p (adR R (l, s))]) (D := []) hD
      refine lCx he48 rfl rfl Tryd.func54 (by kernel_rfl) rfl rfl (wanted_plain rfl _) rfl (rEvict p (adR R (l, s)) F_ w45 hsep.the hok.pl1 hok.pl2 (addP_ok hok.pl1 hok.pg) (by rw [adR_nx]; omega) hF hD.tab) ?_
      rintro _ w49 ⟨rfl, ht⟩
      obtain ⟨hD2, hHs⟩ := hstep _ _ ht
      have hH49 := hHs _ rfl hH47
      clear hHs hstep hsep hF
      replace hD := hD2
      clear hD2 ht
      refine ⟨_, rfl, ?_⟩
      intro a50 he50
      clear he48 a48 hH47
      refine wpList_nil (then_ok ?_)
      refine wp_seq (wp_region_lit ?_)
      refine lW (.int .i64 R.nx) he50 rfl (rn_mv rfl (he50.op rfl) w49) ?_
      intro a51 he51
      clear he50 a50
      refine lW (.int .i64 R.nx) he51 rfl (rn_asg rfl (he51.op rfl) w49) ?_
      intro a52 he52
      clear he51 a51
      refine lW (.int .i64 0) he52 rfl (rn_asg rfl (he52.op rfl) w49) ?_
      intro a53 he53
      clear he52 a52
      refine wpList_nil (then_ok ?_)
      replace hD := Dt.front (A := [ringW p (evR (adR R (l, s)))]) (B := [ringD p (evR (adR R (l, s)))]) (D := []) hD (fun G h => ring_ok (by have h9 := push_rg (l := (l, s)) hok hn9; rw [push_t hv] at h9; exact h9) h)
      refine wp_ret ?_
      try simp only [Exit.then, Exit.inBlock, Exit.noGoto]
      exact ret_tt rfl he53 rfl rfl ⟨rfl, hD.turned⟩
set_option linter.unusedSimpArgs false in
set_option maxRecDepth 100000 in
set_option maxHeartbeats 1600000 in
theorem rLimit (p : Nat) (R : RS) (i : Int) (F : FP) (w : World) (hs : (ringD p R).P w F) (hF : ∀ k, F k → 2 ≤ k ∧ k < w.heap.size) (hT : Tab w) : Calls Tryd.prog 27 #[.pointer (some ⟨p, 0, none⟩), .int .i64 i] w fun e w' => e = .returned (.int .i64 (limitR R i).2) ∧ Turned [ringD p (limitR R i).1] F w w' := by
  refine calls_args (vl := [.pointer (some ⟨p, 0, none⟩), .int .i64 i]) 18 Tryd.func27 rfl Tryd.ntmps27 (by kernel_rfl) (fun a he => ?_)
  have he0 : Env 18 [(0, .pointer (some ⟨p, 0, none⟩)), (1, .int .i64 i)] a := he
  clear he
  have hH := Hp.bare w
  have hD := Dt.begin hT (SepL.one hs) hF
  have hok := hD.ring_ok
  replace hD := Dt.front (A := [ringD p R]) (B := [ringW p R]) (D := []) hD (fun G h => ring_w h)
  have hplz : ((R.pl : Int) == 0) = false := by have := hok.pl1; simp; omega
  have hlr := limit_rg hok i
  refine wp_seq (wp_region_lit ?_)
  refine lW (.int .i64 0) he0 rfl (rn_asg rfl (he0.op rfl) w) ?_
  intro a1 he1
  clear he0 a
  refine wpList_nil (then_ok ?_)
  obtain ⟨X, hX, hD2⟩ := hD.ring_raw
  replace hD := hD2
  clear hD2
  obtain ⟨A2, c2, hD2, hH2⟩ := Dt.open_ring hD hH rfl
  clear hD hH
  have hD := hD2
  clear hD2
  refine wp_seq ?_
  refine wp_block ?_
  refine wp_seq (wp_region_lit ?_)
  refine lW (.pointer (some ⟨p, 0, none⟩)) he1 rfl (rn_mv rfl (he1.op rfl) w) ?_
  intro a3 he3
  clear he1 a1
  refine lC he3 rfl rfl Tryd.func45 (by kernel_rfl) rfl rfl (wanted_plain rfl _) rfl (rUnmade_f _ _ _ _ _ _ _ _ w (hH2.at (i := 0) rfl) hplz hD.tab) ?_
  intro w4 a5 hn he5
  have hH4 := hH2.call hn
  replace hD := (hD).new hn
  clear he3 a3 hH2 hn
  refine lW (.bool false) he5 rfl (rn_asg rfl (he5.op rfl) w4) ?_
  intro a6 he6
  clear he5 a5
  refine wpList_nil (then_ok ?_)
  refine wp_cond_false (he6.op rfl) ?_
  by_cases hi : 0 ≤ i ∧ i ≤ 1048576
  · skip
    have hz : (decide (0 ≤ i) && decide (i ≤ 1048576)) = true := by simp [hi.1, hi.2]
    refine wp_seq (wp_region_lit ?_)
    refine lW (.int .i64 i) he6 rfl (rn_mv rfl (he6.op rfl) w4) ?_
    intro a7 he7
    clear he6 a6
    refine lC he7 rfl rfl Tryd.func33 (by kernel_rfl) rfl rfl (wanted_plain rfl _) rfl (rAllowed i true hz w4) ?_
    intro w8 a9 hn he9
    have hH8 := hH4.call hn
    replace hD := (hD).new hn
    clear he7 a7 hH4 hn
    refine lW (.bool false) he9 rfl (rn_not (b := true) rfl (he9.op rfl) w8) ?_
    intro a10 he10
    clear he9 a9
    refine lW (.bool false) he10 rfl (rn_asg rfl (he10.op rfl) w8) ?_
    intro a11 he11
    clear he10 a10
    refine wpList_nil (then_ok ?_)
    refine wp_cond_false (he11.op rfl) ?_
    refine wp_skip ?_
    refine block_ok ?_
    refine then_ok ?_
    obtain ⟨k, rfl⟩ : ∃ k : Nat, i = k := ⟨i.toNat, by omega⟩
    obtain ⟨T, hT9⟩ : ∃ T : RS, T = { R with mo := k } := ⟨_, rfl⟩
    have e_ : limitR R k = (evR T, 0) := by rw [hT9]; exact if_pos hi
    rw [e_] at hlr ⊢
    refine wp_seq (wp_region_lit ?_)
    refine lW (.pointer (some ⟨p, 0, none⟩)) he11 rfl (rn_mv rfl (he11.op rfl) w8) ?_
    intro a12 he12
    clear he11 a11
    refine lW (.int .i64 k) he12 rfl (rn_mv rfl (he12.op rfl) w8) ?_
    intro a13 he13
    clear he12 a12
    refine lW (.pointer (some ⟨p, 0, none⟩)) he13 rfl (rn_nilck rfl (he13.op rfl) w8) ?_
    intro a14 he14
    clear he13 a13
    refine lW (.pointer (some ⟨p, 1, none⟩)) he14 rfl (rn_faH1 rfl (he14.op rfl) rfl w8) ?_
    intro a15 he15
    clear he14 a14
    refine lSetF 0 #[.int .i64 k] (cs := #[.slice A2 (X.map (·.q)).length c2, .int .i64 k, .int .i64 R.pl, .int .i64 R.fi, .int .i64 R.nx]) he15 hH8 rfl (wanted_plain rfl _) rfl rfl rfl rfl rfl (by kernel_rfl) (by kernel_rfl) (by kernel_rfl) rfl ?_
    intro w16 a17 hH16 hf he17
    replace hD := hD.setb (i := 0) rfl rfl hf
    replace hH16 : Hp (bare w) [⟨p, 60, #[.slice A2 (X.map (·.q)).length c2, .int .i64 k, .int .i64 R.pl, .int .i64 R.fi, .int .i64 R.nx]⟩] w16 := hH16
    clear hf
    clear he15 a15 hH8
    refine wpList_nil (then_ok ?_)
    have hD2 := Dt.shut_ring (mo := (k : Int)) (fi := (R.fi : Int)) (nx := (R.nx : Int)) (qs := (X.map (·.q))) (X := X) hD (hH16.at (i := 0) rfl) (Hp.notin hH16)
    replace hD := hD2
    clear hD2
    have hH18 := hH16.tail rfl
    clear hH16
    have hT1 : T.mo = k ∧ T.pl = R.pl ∧ T.fi = R.fi ∧ T.nx = R.nx ∧ T.P = R.P := by subst hT9; exact ⟨rfl, rfl, rfl, rfl, rfl⟩
    obtain ⟨q1, q2, q3, q4, q5⟩ := hT1
    rw [← q1, ← q2, ← q3, ← q4] at hD
    replace hD := Dt.front (A := [rawD p (T.mo : Int) T.pl (T.fi : Int) (T.nx : Int) (X.map (·.q)) X]) (B := [ringW p T]) (D := []) hD (fun G h => ring_shut (by rw [q5]; exact hX) h)
    refine wp_seq (wp_region_lit ?_)
    refine lW (.pointer (some ⟨p, 0, none⟩)) he17 rfl (rn_mv rfl (he17.op rfl) w16) ?_
    intro a19 he19
    clear he17 a17
    have hnb : bigN = 1000000000 := rfl
    have hn8 := hok.nx
    obtain ⟨F_, hsep, hF, hstep⟩ := Dt.step (A := [ringW p T]) (D := []) hD
    refine lCx he19 rfl rfl Tryd.func54 (by kernel_rfl) rfl rfl (wanted_plain rfl _) rfl (rEvict p T F_ w16 hsep.the (by rw [q2]; exact hok.pl1) (by rw [q2]; exact hok.pl2) (by rw [q2, q5]; exact hok.pg) (by rw [q4]; omega) hF hD.tab) ?_
    rintro _ w20 ⟨rfl, ht⟩
    obtain ⟨hD2, hHs⟩ := hstep _ _ ht
    have hH20 := hHs _ rfl hH18
    clear hHs hstep hsep hF
    replace hD := hD2
    clear hD2 ht
    refine ⟨_, rfl, ?_⟩
    intro a21 he21
    clear he19 a19 hH18
    refine wpList_nil (then_ok ?_)
    refine wp_seq (wp_region_lit ?_)
    refine lW (.int .i64 0) he21 rfl (rn_asg rfl (he21.op rfl) w20) ?_
    intro a22 he22
    clear he21 a21
    refine wpList_nil (then_ok ?_)
    replace hD := Dt.front (A := [ringW p (evR T)]) (B := [ringD p (evR T)]) (D := []) hD (fun G h => ring_ok hlr h)
    refine wp_ret ?_
    try simp only [Exit.then, Exit.inBlock, Exit.noGoto]
    exact ret_env rfl he22 rfl ⟨rfl, hD.turned⟩
  have hz : (decide (0 ≤ i) && decide (i ≤ 1048576)) = false := by rw [← Bool.decide_and]; exact decide_eq_false hi
  refine wp_seq (wp_region_lit ?_)
  refine lW (.int .i64 i) he6 rfl (rn_mv rfl (he6.op rfl) w4) ?_
  intro a23 he23
  clear he6 a6
  refine lC he23 rfl rfl Tryd.func33 (by kernel_rfl) rfl rfl (wanted_plain rfl _) rfl (rAllowed i false hz w4) ?_
  intro w24 a25 hn he25
  have hH24 := hH4.call hn
  replace hD := (hD).new hn
  clear he23 a23 hH4 hn
  refine lW (.bool true) he25 rfl (rn_not (b := false) rfl (he25.op rfl) w24) ?_
  intro a26 he26
  clear he25 a25
  refine lW (.bool true) he26 rfl (rn_asg rfl (he26.op rfl) w24) ?_
  intro a27 he27
  clear he26 a26
  refine wpList_nil (then_ok ?_)
  refine wp_cond_true (he27.op rfl) ?_
  refine wp_seq (wp_region_lit ?_)
  refine lW (.int .i64 2) he27 rfl (rn_asg rfl (he27.op rfl) w24) ?_
  intro a28 he28
  clear he27 a27
  refine wpList_nil (then_ok ?_)
  have e_ : limitR R i = (R, 2) := if_neg hi
  rw [e_]
  have hD2 := Dt.shut_ring (mo := (R.mo : Int)) (fi := (R.fi : Int)) (nx := (R.nx : Int)) (qs := (X.map (·.q))) (X := X) hD (hH24.at (i := 0) rfl) (Hp.notin hH24)
  replace hD := hD2
  clear hD2
  have hH29 := hH24.tail rfl
  clear hH24
  replace hD := Dt.front (A := [rawD p (R.mo : Int) R.pl (R.fi : Int) (R.nx : Int) (X.map (·.q)) X]) (B := [ringD p R]) (D := []) hD (fun G h => ring_ok hok (ring_shut hX h))
  refine wp_ret ?_
  try simp only [Exit.then, Exit.inBlock, Exit.noGoto]
  exact ret_env rfl he28 rfl ⟨rfl, hD.turned⟩
set_option linter.unusedSimpArgs false in
set_option maxRecDepth 100000 in
set_option maxHeartbeats 1600000 in
theorem rClear (p : Nat) (R : RS) (F : FP) (w : World) (hs : (ringD p R).P w F) (hF : ∀ k, F k → 2 ≤ k ∧ k < w.heap.size) (hT : Tab w) : Calls Tryd.prog 24 #[.pointer (some ⟨p, 0, none⟩)] w fun e w' => e = .returned (.tuple #[]) ∧ Turned [ringD p (clearR R)] F w w' := by
  refine calls_args (vl := [.pointer (some ⟨p, 0, none⟩)]) 14 Tryd.func24 rfl Tryd.ntmps24 (by kernel_rfl) (fun a he => ?_)
  have he0 : Env 14 [(0, .pointer (some ⟨p, 0, none⟩))] a := he
  clear he
  have hH := Hp.bare w
  have hD := Dt.begin hT (SepL.one hs) hF
  have hok := hD.ring_ok
  replace hD := Dt.front (A := [ringD p R]) (B := [ringW p R]) (D := []) hD (fun G h => ring_w h)
  have hplz : ((R.pl : Int) == 0) = false := by have := hok.pl1; simp; omega
  obtain ⟨X, hX, hD2⟩ := hD.ring_raw
  replace hD := hD2
  clear hD2
  obtain ⟨A1, c1, hD2, hH1⟩ := Dt.open_ring hD hH rfl
  clear hD hH
  have hD := hD2
  clear hD2
  refine wp_seq ?_
  refine wp_seq (wp_region_lit ?_)
  refine lW (.pointer (some ⟨p, 0, none⟩)) he0 rfl (rn_mv rfl (he0.op rfl) w) ?_
  intro a2 he2
  clear he0 a
  refine lC he2 rfl rfl Tryd.func45 (by kernel_rfl) rfl rfl (wanted_plain rfl _) rfl (rUnmade_f _ _ _ _ _ _ _ _ w (hH1.at (i := 0) rfl) hplz hD.tab) ?_
  intro w3 a4 hn he4
  have hH3 := hH1.call hn
  replace hD := (hD).new hn
  clear he2 a2 hH1 hn
  refine wpList_nil (then_ok ?_)
  refine wp_cond_false (he4.op rfl) ?_
  refine wp_skip ?_
  refine then_ok ?_
  refine wp_region_lit ?_
  refine lW (.pointer (some ⟨p, 0, none⟩)) he4 rfl (rn_mv rfl (he4.op rfl) w3) ?_
  intro a5 he5
  clear he4 a4
  refine lW (.pointer (some ⟨p, 0, none⟩)) he5 rfl (rn_mv rfl (he5.op rfl) w3) ?_
  intro a6 he6
  clear he5 a5
  refine lW (.pointer (some ⟨p, 0, none⟩)) he6 rfl (rn_mv rfl (he6.op rfl) w3) ?_
  intro a7 he7
  clear he6 a6
  refine lW (.pointer (some ⟨p, 0, none⟩)) he7 rfl (rn_nilck rfl (he7.op rfl) w3) ?_
  intro a8 he8
  clear he7 a7
  refine lW (.pointer (some ⟨p, 4, none⟩)) he8 rfl (rn_faH4 rfl (he8.op rfl) rfl w3) ?_
  intro a9 he9
  clear he8 a8
  refine lW (.int .i64 R.nx) he9 rfl (rn_ld1 rfl (he9.op rfl) Tryd.underlying3 (hH3.at (i := 0) rfl) rfl) ?_
  intro a10 he10
  clear he9 a9
  refine lW (.pointer (some ⟨p, 0, none⟩)) he10 rfl (rn_nilck rfl (he10.op rfl) w3) ?_
  intro a11 he11
  clear he10 a10
  refine lW (.pointer (some ⟨p, 0, none⟩)) he11 rfl (rn_faH0 rfl (he11.op rfl) rfl w3) ?_
  intro a12 he12
  clear he11 a11
  refine lSetF 0 #[.slice none 0 0] (cs := #[.slice none 0 0, .int .i64 R.mo, .int .i64 R.pl, .int .i64 R.fi, .int .i64 R.nx]) he12 hH3 rfl (wanted_plain rfl _) rfl rfl rfl rfl rfl (by kernel_rfl) (by kernel_rfl) (by kernel_rfl) rfl ?_
  intro w13 a14 hH13 hf he14
  replace hD := hD.setb (i := 0) rfl rfl hf
  replace hH13 : Hp (bare w) [⟨p, 60, #[.slice none 0 0, .int .i64 R.mo, .int .i64 R.pl, .int .i64 R.fi, .int .i64 R.nx]⟩] w13 := hH13
  clear hf
  clear he12 a12 hH3
  refine lW (.pointer (some ⟨p, 0, none⟩)) he14 rfl (rn_nilck rfl (he14.op rfl) w13) ?_
  intro a15 he15
  clear he14 a14
  refine lW (.pointer (some ⟨p, 3, none⟩)) he15 rfl (rn_faH3 rfl (he15.op rfl) rfl w13) ?_
  intro a16 he16
  clear he15 a15
  refine lSetF 0 #[.int .i64 R.nx] (cs := #[.slice none 0 0, .int .i64 R.mo, .int .i64 R.pl, .int .i64 R.nx, .int .i64 R.nx]) he16 hH13 rfl (wanted_plain rfl _) rfl rfl rfl rfl rfl (by kernel_rfl) (by kernel_rfl) (by kernel_rfl) rfl ?_
  intro w17 a18 hH17 hf he18
  replace hD := hD.setb (i := 0) rfl rfl hf
  replace hH17 : Hp (bare w) [⟨p, 60, #[.slice none 0 0, .int .i64 R.mo, .int .i64 R.pl, .int .i64 R.nx, .int .i64 R.nx]⟩] w17 := hH17
  clear hf
  clear he16 a16 hH13
  refine wpList_nil ?_
  replace hD := hD.drop.drop
  replace hD := Dt.front (A := []) (B := [rowP (.slice none 0 0) [], pagsD R.pl []]) (D := []) hD (sep_nilP _)
  have hD2 := Dt.shut_ring (mo := (R.mo : Int)) (fi := (R.nx : Int)) (nx := (R.nx : Int)) (qs := []) (X := []) hD (hH17.at (i := 0) rfl) (by simp)
  replace hD := Dt.front (A := [rawD p (R.mo : Int) R.pl (R.nx : Int) (R.nx : Int) [] []]) (B := [ringD p (clearR R)]) (D := []) hD2 (fun G h => ring_ok (clear_rg hok) (ring_shut (X := []) (R := clearR R) rfl h))
  exact end_unit rfl he18 ⟨rfl, hD.turned⟩
end Go.Proofs.YtlpjhaghphmbeaaDoor
