/-
  The specification's rings: Pop, Set.
-/
import Derived.Test.YtlpjhaghphmbeaaDoorRRef
namespace Go.Proofs.YtlpjhaghphmbeaaDoor
open Go.RowKit

set_option linter.unusedSimpArgs false in
set_option maxRecDepth 100000 in
set_option maxHeartbeats 1600000 in
theorem qPop (F : FP) (R : RS) (A B : Option Addr) (c d : Nat)  (w : World) (hr : SepL [rdD (.slice A R.L.length c) R.L, rowG (.slice B (pgI R.P).length d) (pgI R.P)] w F) (hok : RgOk R) (hsm : R.L.length ≤ 1000) (hF : ∀ k, F k → 2 ≤ k ∧ k < w.heap.size) (hT : Tab w) : Calls Tryd.prog 38 #[.agg #[.int .i64 R.mo, .int .i64 R.pl, .int .i64 R.fi, .slice A R.L.length c, .slice B (pgI R.P).length d]] w fun e w' => ∃ A' c' B' d' Ax cx, e = .returned (.tuple #[.agg #[.int .i64 ((popR R).1.mo : Int), .int .i64 ((popR R).1.pl : Int), .int .i64 ((popR R).1.fi : Int), .slice A' (popR R).1.L.length c', .slice B' (pgI (popR R).1.P).length d'], .agg #[.slice Ax (popR R).2.1.1.length cx, .bool (popR R).2.1.2], .int .i64 (popR R).2.2]) ∧ Turned [andD (rdD (.slice A' (popR R).1.L.length c') (popR R).1.L) (slD (.slice Ax (popR R).2.1.1.length cx) (popR R).2.1.1), rowG (.slice B' (pgI (popR R).1.P).length d') (pgI (popR R).1.P)] F w w' := by
  have hnb : bigN = 1000000000 := rfl
  have hnn : R.nx = R.fi + R.L.length := rfl
  have hn8 := hok.nx
  have hP1 := hok.pl1
  have hP2 := hok.pl2
  have hPl : R.P.length ≤ 1000 := by have h1 := hok.pg.len_le; have h2 : (flatP R.P).length ≤ 1000 := hsm; omega
  have hGl := pgI_len R.P
  refine calls_args (vl := [.agg #[.int .i64 R.mo, .int .i64 R.pl, .int .i64 R.fi, .slice A R.L.length c, .slice B (pgI R.P).length d]]) 60 Tryd.func38 rfl Tryd.ntmps38 (by kernel_rfl) (fun a he => ?_)
  have he0 : Env 60 [(0, .agg #[.int .i64 R.mo, .int .i64 R.pl, .int .i64 R.fi, .slice A R.L.length c, .slice B (pgI R.P).length d])] a := he
  clear he
  have hH := Hp.bare w
  have hD := Dt.begin hT hr hF
  refine wp_seq (wp_region_lit ?_)
  refine lNewP (fun p => .pointer (some ⟨p, 0, none⟩)) he0 hH rfl rfl (wanted_plain rfl _) (rn_boxQ rfl (he0.op rfl) w) ?_
  intro p1 w1 a2 hp hn hH1 he2
  replace hD := hD.cons hn hp (hH1.at (i := 0) rfl).lt
  clear he0 a hH hn hp
  refine lNewP (fun p => .pointer (some ⟨p, 0, none⟩)) he2 hH1 rfl rfl (wanted_plain rfl _) (rn_allocQ rfl w1) ?_
  intro p3 w3 a4 hp hn hH3 he4
  replace hD := hD.cons hn hp (hH3.at (i := 0) rfl).lt
  clear he2 a2 hH1 hn hp
  refine lNewP (fun p => .pointer (some ⟨p, 0, none⟩)) he4 hH3 rfl rfl (wanted_plain rfl _) (rn_allocL rfl w3) ?_
  intro p5 w5 a6 hp hn hH5 he6
  replace hD := hD.cons hn hp (hH5.at (i := 0) rfl).lt
  clear he4 a4 hH3 hn hp
  refine lW (.int .i64 0) he6 rfl (rn_asg rfl (he6.op rfl) w5) ?_
  intro a7 he7
  clear he6 a6
  refine wpList_nil (then_ok ?_)
  by_cases h0 : R.L.length = 0
  · skip
    refine wp_seq ?_
    refine wp_seq (wp_region_lit ?_)
    refine lW (.pointer (some ⟨p1, 3, none⟩)) he7 rfl (rn_faQ3 rfl (he7.op rfl) rfl w5) ?_
    intro a8 he8
    clear he7 a7
    refine lW (.slice A R.L.length c) he8 rfl (rn_ldLs rfl (he8.op rfl) (hH5.at (i := 2) rfl) rfl) ?_
    intro a9 he9
    clear he8 a8
    refine lW (.int .i64 R.L.length) he9 rfl (rn_lenL rfl (he9.op rfl) w5) ?_
    intro a10 he10
    clear he9 a9
    refine lW (.bool true) he10 rfl (rn_eqI rfl (he10.op rfl) (he10.op rfl) (beq_iff_eq.2 (by omega)) w5) ?_
    intro a11 he11
    clear he10 a10
    refine wpList_nil (then_ok ?_)
    refine wp_cond_true (he11.op rfl) ?_
    refine wp_seq (wp_region_lit ?_)
    refine lW (.agg #[.int .i64 R.mo, .int .i64 R.pl, .int .i64 R.fi, .slice A R.L.length c, .slice B (pgI R.P).length d]) he11 rfl (rn_ldp _ rfl (he11.op rfl) undQ rfl infoQ5 (hH5.at (i := 2) rfl) rfl) ?_
    intro a12 he12
    clear he11 a11
    refine lW (.agg #[.slice none 0 0, .bool false]) he12 rfl (rn_bL rfl  w5) ?_
    intro a13 he13
    clear he12 a12
    refine lSetF 1 #[.int .i64 R.mo, .int .i64 R.pl, .int .i64 R.fi, .slice A R.L.length c, .slice B (pgI R.P).length d] (cs := #[.int .i64 R.mo, .int .i64 R.pl, .int .i64 R.fi, .slice A R.L.length c, .slice B (pgI R.P).length d]) he13 hH5 rfl (wanted_plain rfl _) rfl rfl rfl rfl rfl (by kernel_rfl) (by kernel_rfl) (by kernel_rfl) rfl ?_
    intro w14 a15 hH14 hf he15
    replace hD := hD.setb (i := 1) rfl rfl hf
    replace hH14 : Hp (bare w) [⟨p5, 36, #[.slice none 0 0, .bool false]⟩, ⟨p3, 33, #[.int .i64 R.mo, .int .i64 R.pl, .int .i64 R.fi, .slice A R.L.length c, .slice B (pgI R.P).length d]⟩, ⟨p1, 33, #[.int .i64 R.mo, .int .i64 R.pl, .int .i64 R.fi, .slice A R.L.length c, .slice B (pgI R.P).length d]⟩] w14 := hH14
    clear hf
    clear he13 a13 hH5
    refine lSetF 0 #[.slice none 0 0, .bool false] (cs := #[.slice none 0 0, .bool false]) he15 hH14 rfl (wanted_plain rfl _) rfl rfl rfl rfl rfl (by kernel_rfl) (by kernel_rfl) (by kernel_rfl) rfl ?_
    intro w16 a17 hH16 hf he17
    replace hD := hD.setb (i := 0) rfl rfl hf
    replace hH16 : Hp (bare w) [⟨p5, 36, #[.slice none 0 0, .bool false]⟩, ⟨p3, 33, #[.int .i64 R.mo, .int .i64 R.pl, .int .i64 R.fi, .slice A R.L.length c, .slice B (pgI R.P).length d]⟩, ⟨p1, 33, #[.int .i64 R.mo, .int .i64 R.pl, .int .i64 R.fi, .slice A R.L.length c, .slice B (pgI R.P).length d]⟩] w16 := hH16
    clear hf
    clear he15 a15 hH14
    refine lW (.int .i64 9) he17 rfl (rn_asg rfl (he17.op rfl) w16) ?_
    intro a18 he18
    clear he17 a17
    refine wpList_nil (then_ok ?_)
    have e_ : popR R = (R, zLn, 9) := if_pos h0
    rw [e_]
    replace hD := Dt.front (A := [rdD (.slice A R.L.length c) R.L]) (B := [andD (rdD (.slice A R.L.length c) R.L) (slD (.slice none 0 0) [])]) (D := [rowG (.slice B (pgI R.P).length d) (pgI R.P)]) hD (fun G h => SepL.one (d := andD _ _) ⟨h.the, none, 0, 0, rfl, Nat.le_refl _, RdC.nil _ _ _, fun h => absurd h (by simp)⟩)
    refine wp_ret ?_
    try simp only [Exit.then, Exit.inBlock, Exit.noGoto]
    exact ret_cct rfl he18 rfl rfl rfl (hH16.at (i := 1) rfl) undQ rfl infoQ5 (hH16.at (i := 0) rfl) undL rfl infoL2 ⟨A, c, B, d, none, 0, rfl, hD.turned⟩
  refine wp_seq ?_
  refine wp_seq (wp_region_lit ?_)
  refine lW (.pointer (some ⟨p1, 3, none⟩)) he7 rfl (rn_faQ3 rfl (he7.op rfl) rfl w5) ?_
  intro a19 he19
  clear he7 a7
  refine lW (.slice A R.L.length c) he19 rfl (rn_ldLs rfl (he19.op rfl) (hH5.at (i := 2) rfl) rfl) ?_
  intro a20 he20
  clear he19 a19
  refine lW (.int .i64 R.L.length) he20 rfl (rn_lenL rfl (he20.op rfl) w5) ?_
  intro a21 he21
  clear he20 a20
  refine lW (.bool false) he21 rfl (rn_eqI rfl (he21.op rfl) (he21.op rfl) (beq_eq_false_iff_ne.2 (by omega)) w5) ?_
  intro a22 he22
  clear he21 a21
  refine wpList_nil (then_ok ?_)
  refine wp_cond_false (he22.op rfl) ?_
  refine wp_skip ?_
  refine then_ok ?_
  have hPn : R.P ≠ [] := fun e => h0 (by show (flatP R.P).length = 0; rw [e]; rfl)
  obtain ⟨Y, y, hP⟩ : ∃ Y y, R.P = Y ++ [y] := ⟨R.P.dropLast, R.P.getLast hPn, (List.dropLast_concat_getLast _).symm⟩
  obtain ⟨gn, M⟩ := y
  clear hPn
  have hYl : R.P.length = Y.length + 1 := by rw [hP]; simp
  have hy1 : 1 ≤ M.length := PgOk.last (z := (gn, M)) (hP ▸ hok.pg)
  have hfl9 : R.L.length = (flatP Y).length + M.length := by show (flatP R.P).length = _; rw [hP, flatP_snoc, List.length_append]
  obtain ⟨k, hk⟩ : ∃ k, M.length = k + 1 := ⟨M.length - 1, by omega⟩
  obtain ⟨m, hm⟩ : ∃ m, M[k]? = some m := ⟨_, List.getElem?_eq_getElem (by omega)⟩
  have e_ := popR_snoc hP hk hm
  have hLk : R.L[R.L.length - 1]? = some m := by show (flatP R.P)[_]? = _; rw [hP, flatP_snoc, List.getElem?_append_right (by omega), show R.L.length - 1 - (flatP Y).length = k by omega]; exact hm
  obtain ⟨T, hT9⟩ : ∃ T, T = (popR R).1 := ⟨_, rfl⟩
  have hTL : T.L = R.L.take (R.L.length - 1) := by rw [hT9]; unfold popR; rw [if_neg h0]; exact popP_flat hok.pg
  have hTP : T.P = if k = 0 then Y else Y ++ [(gn, M.take k)] := by rw [hT9, e_]
  have hT0 : (T.mo : Int) = R.mo ∧ (T.pl : Int) = R.pl ∧ (T.fi : Int) = R.fi := by rw [hT9, e_]; exact ⟨rfl, rfl, rfl⟩
  rw [← hT9, e_]
  simp only
  obtain ⟨n9, hn9⟩ : ∃ n, R.L.length - 1 = n := ⟨_, rfl⟩
  rw [hn9] at hLk hTL
  have hTl : T.L.length = n9 := by rw [hTL, List.length_take]; omega
  have he23 : Env 60 [(4, .int .i64 0), (3, .pointer (some ⟨p5, 0, none⟩)), (2, .pointer (some ⟨p3, 0, none⟩)), (1, .pointer (some ⟨p1, 0, none⟩))] a22 := he22.mem ⟨rfl, rfl, rfl, rfl, trivial⟩
  clear he22
  as_aux_lemma =>
    refine wp_seq (wp_region_lit ?_)
    refine lW (.agg #[.int .i64 R.mo, .int .i64 R.pl, .int .i64 R.fi, .slice A R.L.length c, .slice B (pgI R.P).length d]) he23 rfl (rn_ldp _ rfl (he23.op rfl) undQ rfl infoQ5 (hH5.at (i := 2) rfl) rfl) ?_
    intro a24 he24
    clear he23 a22
    replace hD := hD.pick 1 rfl
    replace hD := hD.pick 1 rfl
    obtain ⟨F_, hsep, hF, hstep⟩ := Dt.step (A := [rdD (.slice A R.L.length c) R.L, rowG (.slice B (pgI R.P).length d) (pgI R.P)]) (D := []) hD
    refine lCx he24 rfl rfl Tryd.func60 (by kernel_rfl) rfl rfl (wanted_plain rfl _) rfl (qCopy F_ R _ _ _ _ w5 hsep (by omega) (by omega) hF hD.tab) ?_
    rintro _ w25 ⟨A1, c1, B1, d1, xs, rfl, hxl, ht⟩
    obtain ⟨hD2, hHs⟩ := hstep _ _ ht
    have hH25 := hHs _ rfl hH5
    clear hHs hstep hsep hF
    replace hD := hD2
    clear hD2 ht
    refine ⟨_, rfl, ?_⟩
    intro a26 he26
    clear he24 a24 hH5
    refine lSetF 2 #[.int .i64 R.mo, .int .i64 R.pl, .int .i64 R.fi, .slice A1 R.L.length c1, .slice B1 (pgI R.P).length d1] (cs := #[.int .i64 R.mo, .int .i64 R.pl, .int .i64 R.fi, .slice A1 R.L.length c1, .slice B1 (pgI R.P).length d1]) he26 hH25 rfl (wanted_plain rfl _) rfl rfl rfl rfl rfl (by kernel_rfl) (by kernel_rfl) (by kernel_rfl) rfl ?_
    intro w27 a28 hH27 hf he28
    replace hD := hD.setb (i := 2) rfl rfl hf
    replace hH27 : Hp (bare w) [⟨p5, 36, #[.slice none 0 0, .bool false]⟩, ⟨p3, 33, #[.int .i64 0, .int .i64 0, .int .i64 0, .slice none 0 0, .slice none 0 0]⟩, ⟨p1, 33, #[.int .i64 R.mo, .int .i64 R.pl, .int .i64 R.fi, .slice A1 R.L.length c1, .slice B1 (pgI R.P).length d1]⟩] w27 := hH27
    clear hf
    clear he26 a26 hH25
    refine wpList_nil (then_ok ?_)
    obtain ⟨b2, hrd, -, hlc⟩ := hD.rdL (i := 0) rfl
    obtain ⟨oo, eA⟩ := hrd.base (by omega)
    subst eA
    obtain ⟨x, hx⟩ : ∃ x, xs[n9]? = some x := ⟨_, List.getElem?_eq_getElem (by omega)⟩
    obtain ⟨hxs, hxf⟩ := (hD.get (i := 1) rfl).choose_spec.2 n9 _ _ hx hLk
    obtain ⟨Ax, cx, hxe⟩ := hxf.sl.shape
    clear hxf
    obtain ⟨xa, xn, xc, xz⟩ := x
    simp only [Value.slice.injEq] at hxe hxs
    obtain ⟨rfl, rfl, rfl⟩ := hxe
    subst hxs
    refine wp_seq (wp_region_lit ?_)
    refine lW (.pointer (some ⟨p1, 3, none⟩)) he28 rfl (rn_faQ3 rfl (he28.op rfl) rfl w27) ?_
    intro a29 he29
    clear he28 a28
    refine lW (.slice (some ⟨b2, oo, none⟩) R.L.length c1) he29 rfl (rn_ldLs rfl (he29.op rfl) (hH27.at (i := 2) rfl) rfl) ?_
    intro a30 he30
    clear he29 a29
    refine lW (.pointer (some ⟨p1, 3, none⟩)) he30 rfl (rn_faQ3 rfl (he30.op rfl) rfl w27) ?_
    intro a31 he31
    clear he30 a30
    refine lW (.slice (some ⟨b2, oo, none⟩) R.L.length c1) he31 rfl (rn_ldLs rfl (he31.op rfl) (hH27.at (i := 2) rfl) rfl) ?_
    intro a32 he32
    clear he31 a31
    refine lW (.int .i64 R.L.length) he32 rfl (rn_lenL rfl (he32.op rfl) w27) ?_
    intro a33 he33
    clear he32 a32
    refine lW (.int .i64 n9) he33 rfl (rn_subI rfl (he33.op rfl) (he33.op rfl) (by rw [IntWalk.i64_in _ ⟨by omega, by omega⟩]; omega) w27) ?_
    intro a34 he34
    clear he33 a33
    refine lW (.pointer (some ⟨b2, oo + n9 * 2, none⟩)) he34 rfl (rn_idxL (i := n9) rfl (he34.op rfl) (he34.op rfl) (by omega) (by rw [addr_add]) w27) ?_
    intro a35 he35
    clear he34 a34
    refine lW (.agg #[.slice xa m.1.length xc, .bool m.2]) he35 rfl (rn_ldLn (i := n9) rfl (he35.op rfl) hrd rfl hx) ?_
    intro a36 he36
    clear he35 a35
    clear hrd
    refine lNewP (fun p => .pointer (some ⟨p, 0, none⟩)) he36 hH27 rfl rfl (wanted_plain rfl _) (rn_allocL rfl w27) ?_
    intro p37 w37 a38 hp hn hH37 he38
    replace hD := hD.cons hn hp (hH37.at (i := 0) rfl).lt
    clear he36 a36 hH27 hn hp
    refine lSetF 0 #[.slice xa m.1.length xc, .bool m.2] (cs := #[.slice xa m.1.length xc, .bool m.2]) he38 hH37 rfl (wanted_plain rfl _) rfl rfl rfl rfl rfl (by kernel_rfl) (by kernel_rfl) (by kernel_rfl) rfl ?_
    intro w39 a40 hH39 hf he40
    replace hD := hD.setb (i := 0) rfl rfl hf
    replace hH39 : Hp (bare w) [⟨p37, 36, #[.slice xa m.1.length xc, .bool m.2]⟩, ⟨p5, 36, #[.slice none 0 0, .bool false]⟩, ⟨p3, 33, #[.int .i64 0, .int .i64 0, .int .i64 0, .slice none 0 0, .slice none 0 0]⟩, ⟨p1, 33, #[.int .i64 R.mo, .int .i64 R.pl, .int .i64 R.fi, .slice (some ⟨b2, oo, none⟩) R.L.length c1, .slice B1 (pgI R.P).length d1]⟩] w39 := hH39
    clear hf
    clear he38 a38 hH37
    refine wpList_nil (then_ok ?_)
    obtain ⟨A2, e2⟩ := slg_cuth (A := some ⟨b2, oo, none⟩) (k := n9) (c := c1)
    rw [← hTl] at e2
    refine wp_seq (wp_region_lit ?_)
    refine lW (.pointer (some ⟨p1, 3, none⟩)) he40 rfl (rn_faQ3 rfl (he40.op rfl) rfl w39) ?_
    intro a41 he41
    clear he40 a40
    refine lW (.slice (some ⟨b2, oo, none⟩) R.L.length c1) he41 rfl (rn_ldLs rfl (he41.op rfl) (hH39.at (i := 3) rfl) rfl) ?_
    intro a42 he42
    clear he41 a41
    refine lW (.pointer (some ⟨p1, 3, none⟩)) he42 rfl (rn_faQ3 rfl (he42.op rfl) rfl w39) ?_
    intro a43 he43
    clear he42 a42
    refine lW (.slice (some ⟨b2, oo, none⟩) R.L.length c1) he43 rfl (rn_ldLs rfl (he43.op rfl) (hH39.at (i := 3) rfl) rfl) ?_
    intro a44 he44
    clear he43 a43
    refine lW (.int .i64 R.L.length) he44 rfl (rn_lenL rfl (he44.op rfl) w39) ?_
    intro a45 he45
    clear he44 a44
    refine lW (.int .i64 T.L.length) he45 rfl (rn_subI rfl (he45.op rfl) (he45.op rfl) (by rw [IntWalk.i64_in _ ⟨by omega, by omega⟩]; omega) w39) ?_
    intro a46 he46
    clear he45 a45
    refine lW (.slice A2 T.L.length c1) he46 rfl (rg_cuth (R := rL) (k := T.L.length) rfl (he46.op rfl) (he46.op rfl) (by omega) e2 w39) ?_
    intro a47 he47
    clear he46 a46
    refine lW (.pointer (some ⟨p1, 3, none⟩)) he47 rfl (rn_faQ3 rfl (he47.op rfl) rfl w39) ?_
    intro a48 he48
    clear he47 a47
    refine lSetF 3 #[.slice A2 T.L.length c1] (cs := #[.int .i64 R.mo, .int .i64 R.pl, .int .i64 R.fi, .slice A2 T.L.length c1, .slice B1 (pgI R.P).length d1]) he48 hH39 rfl (wanted_plain rfl _) rfl rfl rfl rfl rfl (by kernel_rfl) (by kernel_rfl) (by kernel_rfl) rfl ?_
    intro w49 a50 hH49 hf he50
    replace hD := hD.setb (i := 3) rfl rfl hf
    replace hH49 : Hp (bare w) [⟨p37, 36, #[.slice xa m.1.length xc, .bool m.2]⟩, ⟨p5, 36, #[.slice none 0 0, .bool false]⟩, ⟨p3, 33, #[.int .i64 0, .int .i64 0, .int .i64 0, .slice none 0 0, .slice none 0 0]⟩, ⟨p1, 33, #[.int .i64 R.mo, .int .i64 R.pl, .int .i64 R.fi, .slice A2 T.L.length c1, .slice B1 (pgI R.P).length d1]⟩] w49 := hH49
    clear hf
    clear he48 a48 hH39
    refine wpList_nil (then_ok ?_)
    replace hD := Dt.front (A := [rowD (.slice (some ⟨b2, oo, none⟩) R.L.length c1) xs]) (B := [rowD (.slice A2 T.L.length c1) (xs.take T.L.length)]) (D := [rdX xs R.L, rowG (.slice B1 (pgI R.P).length d1) (pgI R.P)]) hD (fun G h => row_cuth e2 (by omega) h)
    replace hD := Dt.front (A := [rowD (.slice A2 T.L.length c1) (xs.take T.L.length), rdX xs R.L]) (B := [andD (rdD (.slice A2 T.L.length c1) T.L) (slD (.slice xa m.1.length xc) m.1)]) (D := [rowG (.slice B1 (pgI R.P).length d1) (pgI R.P)]) hD (fun G h => SepL.one (d := andD _ _) ⟨(rd_shut (xs := xs.take T.L.length) (by obtain ⟨X_, Y_, h1, h2, h3, h4, h5⟩ := h; exact ⟨X_, Y_, h1, SepL.one (d := rdX _ _) (by have h9 := rdX_take h2.the T.L.length; rw [hTl, ← hTL] at h9; rw [hTl]; exact h9), h3, h4, h5⟩)).the, by obtain ⟨X_, Y_, h1, h2, h3, h4, h5⟩ := h; exact (h2.the.2 n9 _ _ hx hLk).2.up h5⟩)
    refine wp_seq (wp_region_lit ?_)
    refine lW (.pointer (some ⟨p1, 4, none⟩)) he50 rfl (rn_faQ4 rfl (he50.op rfl) rfl w49) ?_
    intro a51 he51
    clear he50 a50
    refine lW (.slice B1 (pgI R.P).length d1) he51 rfl (rn_ldDs rfl (he51.op rfl) (hH49.at (i := 3) rfl) rfl) ?_
    intro a52 he52
    clear he51 a51
    refine lW (.int .i64 ((pgI R.P).length : Nat)) he52 rfl (rn_lenD rfl (he52.op rfl) w49) ?_
    intro a53 he53
    clear he52 a52
    refine lW (.int .i64 ((pgI R.P).length : Nat)) he53 rfl (rn_asg rfl (he53.op rfl) w49) ?_
    intro a54 he54
    clear he53 a53
    refine wpList_nil (then_ok ?_)
    have hzg : (pgI R.P)[Y.length]? = some ((gn : Int), (M.length : Int)) := pgI_get (x := (gn, M)) (by rw [hP]; simp)
    have hM2 : gn + M.length ≤ R.pl := by have key : ∀ (P : List Pg) (z : Pg), PgOk R.pl (P ++ [z]) → z.1 + z.2.length ≤ R.pl := fun P => List.recOn P (fun z h => h.2.1) (fun a P ih z h => ih z h.2.2.2.2); exact key Y (gn, M) (hP ▸ hok.pg)
    obtain ⟨b3, hrg, -, hdc⟩ := hD.rdG (i := 1) rfl
    obtain ⟨o3, eB⟩ := hrg.base (by omega)
    subst eB
    refine wp_seq (wp_region_lit ?_)
    refine lW (.pointer (some ⟨p1, 4, none⟩)) he54 rfl (rn_faQ4 rfl (he54.op rfl) rfl w49) ?_
    intro a55 he55
    clear he54 a54
    refine lW (.slice (some ⟨b3, o3, none⟩) (pgI R.P).length d1) he55 rfl (rn_ldDs rfl (he55.op rfl) (hH49.at (i := 3) rfl) rfl) ?_
    intro a56 he56
    clear he55 a55
    refine lW (.int .i64 ((pgI R.P).length : Nat)) he56 rfl (rn_mv rfl (he56.op rfl) w49) ?_
    intro a57 he57
    clear he56 a56
    refine lW (.int .i64 Y.length) he57 rfl (rn_subI rfl (he57.op rfl) (he57.op rfl) (by rw [IntWalk.i64_in _ ⟨by omega, by omega⟩]; omega) w49) ?_
    intro a58 he58
    clear he57 a57
    refine lW (.pointer (some ⟨b3, o3 + Y.length * 2, none⟩)) he58 rfl (rn_idxD (i := Y.length) rfl (he58.op rfl) (he58.op rfl) (by omega) (by rw [addr_add]) w49) ?_
    intro a59 he59
    clear he58 a58
    refine lW (.pointer (some ⟨b3, o3 + Y.length * 2 + 1, none⟩)) he59 rfl (rn_faD1 rfl (he59.op rfl) rfl w49) ?_
    intro a60 he60
    clear he59 a59
    refine lW (.int .i64 M.length) he60 rfl (rn_ldG1 (i := Y.length) rfl (he60.op rfl) hrg rfl hzg) ?_
    intro a61 he61
    clear he60 a60
    refine lW (.int .i64 ((M.length : Int) - 1)) he61 rfl (rn_subI rfl (he61.op rfl) (he61.op rfl) (by rw [IntWalk.i64_in _ ⟨by omega, by omega⟩]) w49) ?_
    intro a62 he62
    clear he61 a61
    refine lW (.pointer (some ⟨b3, o3 + Y.length * 2, none⟩)) he62 rfl (rn_idxD (i := Y.length) rfl (he62.op rfl) (he62.op rfl) (by omega) (by rw [addr_add]) w49) ?_
    intro a63 he63
    clear he62 a62
    refine lW (.pointer (some ⟨b3, o3 + Y.length * 2 + 1, none⟩)) he63 rfl (rn_faD1 rfl (he63.op rfl) rfl w49) ?_
    intro a64 he64
    clear he63 a63
    replace hD := hD.pick 1 rfl
    obtain ⟨F_, hsep, hF, hstep⟩ := Dt.step (A := [rowG (.slice (some ⟨b3, o3, none⟩) (pgI R.P).length d1) (pgI R.P)]) (D := [andD (rdD (.slice A2 T.L.length c1) T.L) (slD (.slice xa m.1.length xc) m.1)]) hD
    refine lPg (i := Y.length) 1 ((gn : Int), (M.length : Int) - 1) (.inr ⟨rfl, rfl⟩) hsep.the (by omega) hzg he64 rfl (wanted_plain rfl _) rfl rfl rfl ?_
    intro w65 a66 ht he66
    obtain ⟨hD2, hHs⟩ := hstep _ _ ht
    have hH65 := hHs _ rfl hH49
    clear hHs hstep hsep hF hD ht hrg
    have hD := hD2
    clear hD2
    clear he64 a64 hH49
    refine wpList_nil (then_ok ?_)
    have e9 : (pgI R.P).set Y.length ((gn : Int), (M.length : Int) - 1) = pgI Y ++ [((gn : Int), (M.length : Int) - 1)] := by rw [hP, pgI_snoc, List.set_append_right _ _ (by rw [pgI_len]; exact Nat.le_refl _), pgI_len, Nat.sub_self]; rfl
    rw [e9] at hD
    have hc2 : (pgI Y ++ [((gn : Int), (M.length : Int) - 1)])[Y.length]? = some ((gn : Int), (M.length : Int) - 1) := by rw [List.getElem?_append_right (by rw [pgI_len]; exact Nat.le_refl _), pgI_len, Nat.sub_self]; rfl
    have hrg := hD.rdGb (i := 0) rfl
    by_cases hk0 : k = 0
    · skip
      refine wp_seq ?_
      refine wp_seq (wp_region_lit ?_)
      refine lW (.pointer (some ⟨p1, 4, none⟩)) he66 rfl (rn_faQ4 rfl (he66.op rfl) rfl w65) ?_
      intro a67 he67
      clear he66 a66
      refine lW (.slice (some ⟨b3, o3, none⟩) (pgI R.P).length d1) he67 rfl (rn_ldDs rfl (he67.op rfl) (hH65.at (i := 3) rfl) rfl) ?_
      intro a68 he68
      clear he67 a67
      refine lW (.int .i64 ((pgI R.P).length : Nat)) he68 rfl (rn_mv rfl (he68.op rfl) w65) ?_
      intro a69 he69
      clear he68 a68
      refine lW (.int .i64 Y.length) he69 rfl (rn_subI rfl (he69.op rfl) (he69.op rfl) (by rw [IntWalk.i64_in _ ⟨by omega, by omega⟩]; omega) w65) ?_
      intro a70 he70
      clear he69 a69
      refine lW (.pointer (some ⟨b3, o3 + Y.length * 2, none⟩)) he70 rfl (rn_idxD (i := Y.length) rfl (he70.op rfl) (he70.op rfl) (by omega) (by rw [addr_add]) w65) ?_
      intro a71 he71
      clear he70 a70
      refine lW (.pointer (some ⟨b3, o3 + Y.length * 2 + 1, none⟩)) he71 rfl (rn_faD1 rfl (he71.op rfl) rfl w65) ?_
      intro a72 he72
      clear he71 a71
      refine lW (.int .i64 ((M.length : Int) - 1)) he72 rfl (rn_ldG1 (i := Y.length) rfl (he72.op rfl) hrg rfl hc2) ?_
      intro a73 he73
      clear he72 a72
      refine lW (.bool true) he73 rfl (rn_eqI rfl (he73.op rfl) (he73.op rfl) (beq_iff_eq.2 (by omega)) w65) ?_
      intro a74 he74
      clear he73 a73
      refine wpList_nil (then_ok ?_)
      clear hrg
      refine wp_cond_true (he74.op rfl) ?_
      rw [if_pos hk0] at hTP
      have hTn : (pgI T.P).length = Y.length := by rw [hTP, pgI_len]
      obtain ⟨B2, e3⟩ := slg_cuth (A := some ⟨b3, o3, none⟩) (k := Y.length) (c := d1)
      rw [← hTn] at e3
      refine wp_region_lit ?_
      refine lW (.pointer (some ⟨p1, 4, none⟩)) he74 rfl (rn_faQ4 rfl (he74.op rfl) rfl w65) ?_
      intro a75 he75
      clear he74 a74
      refine lW (.slice (some ⟨b3, o3, none⟩) (pgI R.P).length d1) he75 rfl (rn_ldDs rfl (he75.op rfl) (hH65.at (i := 3) rfl) rfl) ?_
      intro a76 he76
      clear he75 a75
      refine lW (.int .i64 ((pgI R.P).length : Nat)) he76 rfl (rn_mv rfl (he76.op rfl) w65) ?_
      intro a77 he77
      clear he76 a76
      refine lW (.int .i64 ((pgI T.P).length : Nat)) he77 rfl (rn_subI rfl (he77.op rfl) (he77.op rfl) (by rw [IntWalk.i64_in _ ⟨by omega, by omega⟩]; omega) w65) ?_
      intro a78 he78
      clear he77 a77
      refine lW (.slice B2 (pgI T.P).length d1) he78 rfl (rg_cuth (R := rPg) (k := (pgI T.P).length) rfl (he78.op rfl) (he78.op rfl) (by omega) e3 w65) ?_
      intro a79 he79
      clear he78 a78
      refine lW (.pointer (some ⟨p1, 4, none⟩)) he79 rfl (rn_faQ4 rfl (he79.op rfl) rfl w65) ?_
      intro a80 he80
      clear he79 a79
      refine lSetF 3 #[.slice B2 (pgI T.P).length d1] (cs := #[.int .i64 R.mo, .int .i64 R.pl, .int .i64 R.fi, .slice A2 T.L.length c1, .slice B2 (pgI T.P).length d1]) he80 hH65 rfl (wanted_plain rfl _) rfl rfl rfl rfl rfl (by kernel_rfl) (by kernel_rfl) (by kernel_rfl) rfl ?_
      intro w81 a82 hH81 hf he82
      replace hD := hD.setb (i := 3) rfl rfl hf
      replace hH81 : Hp (bare w) [⟨p37, 36, #[.slice xa m.1.length xc, .bool m.2]⟩, ⟨p5, 36, #[.slice none 0 0, .bool false]⟩, ⟨p3, 33, #[.int .i64 0, .int .i64 0, .int .i64 0, .slice none 0 0, .slice none 0 0]⟩, ⟨p1, 33, #[.int .i64 R.mo, .int .i64 R.pl, .int .i64 R.fi, .slice A2 T.L.length c1, .slice B2 (pgI T.P).length d1]⟩] w81 := hH81
      clear hf
      clear he80 a80 hH65
      refine wpList_nil (then_ok ?_)
      have e7 : (pgI Y ++ [((gn : Int), (M.length : Int) - 1)]).take (pgI T.P).length = pgI T.P := by rw [hTn, List.take_append_of_le_length (by rw [pgI_len]; exact Nat.le_refl _), List.take_of_length_le (by rw [pgI_len]; exact Nat.le_refl _), hTP]
      replace hD := Dt.front (A := [rowG (.slice (some ⟨b3, o3, none⟩) (pgI R.P).length d1) (pgI Y ++ [((gn : Int), (M.length : Int) - 1)])]) (B := [rowG (.slice B2 (pgI T.P).length d1) (pgI T.P)]) (D := [andD (rdD (.slice A2 T.L.length c1) T.L) (slD (.slice xa m.1.length xc) m.1)]) hD (fun G h => by have h_ := rowg_cuth e3 (by omega) h; rw [e7] at h_; exact h_)
      replace hD := hD.pick 1 rfl
      refine wp_seq ?_
      refine wp_region_held_drew (S := Hp (bare w) [⟨p37, 36, #[.slice xa m.1.length xc, .bool m.2]⟩, ⟨p1, 33, #[.int .i64 R.mo, .int .i64 R.pl, .int .i64 R.fi, .slice A2 T.L.length c1, .slice B2 (pgI T.P).length d1]⟩]) (by kernel_rfl) (((hH81.drew).drop1 2 rfl).drop1 1 rfl) (fun _ => ?_)
      have hn : New w81 (World.drew w81) := (Fr.refl _ _).drew
      replace hD := (hD).new hn
      clear hn
      have hH83 := hH81.drew
      clear hH81
      generalize World.drew w81 = w83 at *
      refine hW (fuel := 4) (i := 0) (.agg #[.int .i64 R.mo, .int .i64 R.pl, .int .i64 R.fi, .slice A2 T.L.length c1, .slice B2 (pgI T.P).length d1]) he82 rfl (by kernel_rfl) (fun _ _ _ h => h) (fun w' hw' => rn_ldp _ rfl (he82.op rfl) undQ rfl infoQ5 (hw'.at (i := 1) rfl) rfl) ((hH83.drop1 2 rfl).drop1 1 rfl) ?_
      intro a84 he84
      clear he82 a82
      refine hW (fuel := 3) (i := 1) (.agg #[.slice xa m.1.length xc, .bool m.2]) he84 rfl (by kernel_rfl) (fun _ _ _ h => h) (fun w' hw' => rn_ldp _ rfl (he84.op rfl) undL rfl infoL2 (hw'.at (i := 0) rfl) rfl) ((hH83.drop1 2 rfl).drop1 1 rfl) ?_
      intro a85 he85
      clear he84 a84
      refine hSetV (fuel := 2) (n := 2) 2 #[.int .i64 R.mo, .int .i64 R.pl, .int .i64 R.fi, .slice A2 T.L.length c1, .slice B2 (pgI T.P).length d1] (cs := #[.int .i64 R.mo, .int .i64 R.pl, .int .i64 R.fi, .slice A2 T.L.length c1, .slice B2 (pgI T.P).length d1]) he85 hH83 (by kernel_rfl) rfl rfl (wanted_plain rfl _) rfl rfl rfl rfl rfl (by kernel_rfl) (by kernel_rfl) (by kernel_rfl) rfl ?_
      intro w86 a87 hH86 hf he87
      replace hD := hD.setb (i := 2) rfl rfl hf
      replace hH86 : Hp (bare w) [⟨p37, 36, #[.slice xa m.1.length xc, .bool m.2]⟩, ⟨p5, 36, #[.slice none 0 0, .bool false]⟩, ⟨p3, 33, #[.int .i64 R.mo, .int .i64 R.pl, .int .i64 R.fi, .slice A2 T.L.length c1, .slice B2 (pgI T.P).length d1]⟩, ⟨p1, 33, #[.int .i64 R.mo, .int .i64 R.pl, .int .i64 R.fi, .slice A2 T.L.length c1, .slice B2 (pgI T.P).length d1]⟩] w86 := hH86
      refine ⟨((hH86.drop1 2 rfl).drop1 1 rfl), ?_⟩
      clear hf
      clear he85 a85 hH83
      refine hSetV (fuel := 1) (n := 3) 1 #[.slice xa m.1.length xc, .bool m.2] (cs := #[.slice xa m.1.length xc, .bool m.2]) he87 hH86 (by kernel_rfl) rfl rfl (wanted_plain rfl _) rfl rfl rfl rfl rfl (by kernel_rfl) (by kernel_rfl) (by kernel_rfl) rfl ?_
      intro w88 a89 hH88 hf he89
      replace hD := hD.setb (i := 1) rfl rfl hf
      replace hH88 : Hp (bare w) [⟨p37, 36, #[.slice xa m.1.length xc, .bool m.2]⟩, ⟨p5, 36, #[.slice xa m.1.length xc, .bool m.2]⟩, ⟨p3, 33, #[.int .i64 R.mo, .int .i64 R.pl, .int .i64 R.fi, .slice A2 T.L.length c1, .slice B2 (pgI T.P).length d1]⟩, ⟨p1, 33, #[.int .i64 R.mo, .int .i64 R.pl, .int .i64 R.fi, .slice A2 T.L.length c1, .slice B2 (pgI T.P).length d1]⟩] w88 := hH88
      refine ⟨((hH88.drop1 2 rfl).drop1 1 rfl), ?_⟩
      clear hf
      clear he87 a87 hH86
      refine hW (fuel := 0) (i := 4) (.int .i64 0) he89 rfl (by kernel_rfl) (fun _ _ _ h => h) (fun w' _ => rn_asg rfl (he89.op rfl) w') ((hH88.drop1 2 rfl).drop1 1 rfl) ?_
      intro a90 he90
      clear he89 a89
      refine wpAnyH_done (by kernel_rfl) ?_ _
      refine then_ok ?_
      have hBe := hH88.at (i := 2) rfl
      simp only at hBe
      rw [← hT0.1, ← hT0.2.1, ← hT0.2.2] at hBe
      refine wp_ret ?_
      try simp only [Exit.then, Exit.inBlock, Exit.noGoto]
      exact ret_cct rfl he90 rfl rfl rfl hBe undQ rfl infoQ5 (hH88.at (i := 1) rfl) undL rfl infoL2 ⟨A2, c1, B2, d1, xa, xc, rfl, hD.turned⟩
    refine wp_seq ?_
    refine wp_seq (wp_region_lit ?_)
    refine lW (.pointer (some ⟨p1, 4, none⟩)) he66 rfl (rn_faQ4 rfl (he66.op rfl) rfl w65) ?_
    intro a91 he91
    clear he66 a66
    refine lW (.slice (some ⟨b3, o3, none⟩) (pgI R.P).length d1) he91 rfl (rn_ldDs rfl (he91.op rfl) (hH65.at (i := 3) rfl) rfl) ?_
    intro a92 he92
    clear he91 a91
    refine lW (.int .i64 ((pgI R.P).length : Nat)) he92 rfl (rn_mv rfl (he92.op rfl) w65) ?_
    intro a93 he93
    clear he92 a92
    refine lW (.int .i64 Y.length) he93 rfl (rn_subI rfl (he93.op rfl) (he93.op rfl) (by rw [IntWalk.i64_in _ ⟨by omega, by omega⟩]; omega) w65) ?_
    intro a94 he94
    clear he93 a93
    refine lW (.pointer (some ⟨b3, o3 + Y.length * 2, none⟩)) he94 rfl (rn_idxD (i := Y.length) rfl (he94.op rfl) (he94.op rfl) (by omega) (by rw [addr_add]) w65) ?_
    intro a95 he95
    clear he94 a94
    refine lW (.pointer (some ⟨b3, o3 + Y.length * 2 + 1, none⟩)) he95 rfl (rn_faD1 rfl (he95.op rfl) rfl w65) ?_
    intro a96 he96
    clear he95 a95
    refine lW (.int .i64 ((M.length : Int) - 1)) he96 rfl (rn_ldG1 (i := Y.length) rfl (he96.op rfl) hrg rfl hc2) ?_
    intro a97 he97
    clear he96 a96
    refine lW (.bool false) he97 rfl (rn_eqI rfl (he97.op rfl) (he97.op rfl) (beq_eq_false_iff_ne.2 (by omega)) w65) ?_
    intro a98 he98
    clear he97 a97
    refine wpList_nil (then_ok ?_)
    clear hrg
    refine wp_cond_false (he98.op rfl) ?_
    refine wp_skip ?_
    refine then_ok ?_
    rw [if_neg hk0] at hTP
    have e7 : pgI Y ++ [((gn : Int), (M.length : Int) - 1)] = pgI T.P := by rw [hTP, pgI_snoc, List.length_take]; congr 3; omega
    have e8 : (pgI R.P).length = (pgI T.P).length := by rw [hTP, pgI_len, pgI_len, hYl]; simp
    rw [e7, e8] at hD
    have hH9 := hH65
    rw [e8] at hH9
    clear hH65
    replace hD := hD.pick 1 rfl
    refine wp_seq ?_
    refine wp_region_held_drew (S := Hp (bare w) [⟨p37, 36, #[.slice xa m.1.length xc, .bool m.2]⟩, ⟨p1, 33, #[.int .i64 R.mo, .int .i64 R.pl, .int .i64 R.fi, .slice A2 T.L.length c1, .slice (some ⟨b3, o3, none⟩) (pgI T.P).length d1]⟩]) (by kernel_rfl) (((hH9.drew).drop1 2 rfl).drop1 1 rfl) (fun _ => ?_)
    have hn : New w65 (World.drew w65) := (Fr.refl _ _).drew
    replace hD := (hD).new hn
    clear hn
    have hH99 := hH9.drew
    clear hH9
    generalize World.drew w65 = w99 at *
    refine hW (fuel := 4) (i := 0) (.agg #[.int .i64 R.mo, .int .i64 R.pl, .int .i64 R.fi, .slice A2 T.L.length c1, .slice (some ⟨b3, o3, none⟩) (pgI T.P).length d1]) he98 rfl (by kernel_rfl) (fun _ _ _ h => h) (fun w' hw' => rn_ldp _ rfl (he98.op rfl) undQ rfl infoQ5 (hw'.at (i := 1) rfl) rfl) ((hH99.drop1 2 rfl).drop1 1 rfl) ?_
    intro a100 he100
    clear he98 a98
    refine hW (fuel := 3) (i := 1) (.agg #[.slice xa m.1.length xc, .bool m.2]) he100 rfl (by kernel_rfl) (fun _ _ _ h => h) (fun w' hw' => rn_ldp _ rfl (he100.op rfl) undL rfl infoL2 (hw'.at (i := 0) rfl) rfl) ((hH99.drop1 2 rfl).drop1 1 rfl) ?_
    intro a101 he101
    clear he100 a100
    refine hSetV (fuel := 2) (n := 2) 2 #[.int .i64 R.mo, .int .i64 R.pl, .int .i64 R.fi, .slice A2 T.L.length c1, .slice (some ⟨b3, o3, none⟩) (pgI T.P).length d1] (cs := #[.int .i64 R.mo, .int .i64 R.pl, .int .i64 R.fi, .slice A2 T.L.length c1, .slice (some ⟨b3, o3, none⟩) (pgI T.P).length d1]) he101 hH99 (by kernel_rfl) rfl rfl (wanted_plain rfl _) rfl rfl rfl rfl rfl (by kernel_rfl) (by kernel_rfl) (by kernel_rfl) rfl ?_
    intro w102 a103 hH102 hf he103
    replace hD := hD.setb (i := 2) rfl rfl hf
    replace hH102 : Hp (bare w) [⟨p37, 36, #[.slice xa m.1.length xc, .bool m.2]⟩, ⟨p5, 36, #[.slice none 0 0, .bool false]⟩, ⟨p3, 33, #[.int .i64 R.mo, .int .i64 R.pl, .int .i64 R.fi, .slice A2 T.L.length c1, .slice (some ⟨b3, o3, none⟩) (pgI T.P).length d1]⟩, ⟨p1, 33, #[.int .i64 R.mo, .int .i64 R.pl, .int .i64 R.fi, .slice A2 T.L.length c1, .slice (some ⟨b3, o3, none⟩) (pgI T.P).length d1]⟩] w102 := hH102
    refine ⟨((hH102.drop1 2 rfl).drop1 1 rfl), ?_⟩
    clear hf
    clear he101 a101 hH99
    refine hSetV (fuel := 1) (n := 3) 1 #[.slice xa m.1.length xc, .bool m.2] (cs := #[.slice xa m.1.length xc, .bool m.2]) he103 hH102 (by kernel_rfl) rfl rfl (wanted_plain rfl _) rfl rfl rfl rfl rfl (by kernel_rfl) (by kernel_rfl) (by kernel_rfl) rfl ?_
    intro w104 a105 hH104 hf he105
    replace hD := hD.setb (i := 1) rfl rfl hf
    replace hH104 : Hp (bare w) [⟨p37, 36, #[.slice xa m.1.length xc, .bool m.2]⟩, ⟨p5, 36, #[.slice xa m.1.length xc, .bool m.2]⟩, ⟨p3, 33, #[.int .i64 R.mo, .int .i64 R.pl, .int .i64 R.fi, .slice A2 T.L.length c1, .slice (some ⟨b3, o3, none⟩) (pgI T.P).length d1]⟩, ⟨p1, 33, #[.int .i64 R.mo, .int .i64 R.pl, .int .i64 R.fi, .slice A2 T.L.length c1, .slice (some ⟨b3, o3, none⟩) (pgI T.P).length d1]⟩] w104 := hH104
    refine ⟨((hH104.drop1 2 rfl).drop1 1 rfl), ?_⟩
    clear hf
    clear he103 a103 hH102
    refine hW (fuel := 0) (i := 4) (.int .i64 0) he105 rfl (by kernel_rfl) (fun _ _ _ h => h) (fun w' _ => rn_asg rfl (he105.op rfl) w') ((hH104.drop1 2 rfl).drop1 1 rfl) ?_
    intro a106 he106
    clear he105 a105
    refine wpAnyH_done (by kernel_rfl) ?_ _
    refine then_ok ?_
    have hBe := hH104.at (i := 2) rfl
    simp only at hBe
    rw [← hT0.1, ← hT0.2.1, ← hT0.2.2] at hBe
    refine wp_ret ?_
    try simp only [Exit.then, Exit.inBlock, Exit.noGoto]
    exact ret_cct rfl he106 rfl rfl rfl hBe undQ rfl infoQ5 (hH104.at (i := 1) rfl) undL rfl infoL2 ⟨A2, c1, (some ⟨b3, o3, none⟩), d1, xa, xc, rfl, hD.turned⟩
set_option linter.unusedSimpArgs false in
set_option maxRecDepth 100000 in
set_option maxHeartbeats 1600000 in
theorem qSet (F : FP) (R : RS) (A B : Option Addr) (c d : Nat) (i : Int) (x : Value) (l : List Ce) (s : Bool) (w : World) (hr : SepL [rdD (.slice A R.L.length c) R.L, rowG (.slice B (pgI R.P).length d) (pgI R.P)] w F) (hok : RgOk R) (hsm : R.L.length ≤ 1000) (hF : ∀ k, F k → 2 ≤ k ∧ k < w.heap.size) (hT : Tab w) (Gx : FP) (hx0 : SlF w Gx x l) (hGF : ∀ k, Gx k → ¬ F k) : Calls Tryd.prog 39 #[.agg #[.int .i64 R.mo, .int .i64 R.pl, .int .i64 R.fi, .slice A R.L.length c, .slice B (pgI R.P).length d], .int .i64 i, .agg #[x, .bool s]] w fun e w' => ∃ A' c' B' d', e = .returned (.tuple #[.agg #[.int .i64 ((setR R i (l, s)).1.mo : Int), .int .i64 ((setR R i (l, s)).1.pl : Int), .int .i64 ((setR R i (l, s)).1.fi : Int), .slice A' (setR R i (l, s)).1.L.length c', .slice B' (pgI (setR R i (l, s)).1.P).length d'], .int .i64 (setR R i (l, s)).2]) ∧ Turned [rdD (.slice A' (setR R i (l, s)).1.L.length c') (setR R i (l, s)).1.L, rowG (.slice B' (pgI (setR R i (l, s)).1.P).length d') (pgI (setR R i (l, s)).1.P)] F w w' := by
  have hnb : bigN = 1000000000 := rfl
  have hnn : R.nx = R.fi + R.L.length := rfl
  have hn8 := hok.nx
  have hP1 := hok.pl1
  have hP2 := hok.pl2
  have hPl : R.P.length ≤ 1000 := by have h1 := hok.pg.len_le; have h2 : (flatP R.P).length ≤ 1000 := hsm; omega
  have hGl := pgI_len R.P
  obtain ⟨Bx, cb, bx, e_, -, -, -⟩ := id hx0
  subst e_
  refine calls_args (vl := [.agg #[.int .i64 R.mo, .int .i64 R.pl, .int .i64 R.fi, .slice A R.L.length c, .slice B (pgI R.P).length d], .int .i64 i, .agg #[.slice Bx l.length cb, .bool s]]) 32 Tryd.func39 rfl Tryd.ntmps39 (by kernel_rfl) (fun a he => ?_)
  have he0 : Env 32 [(0, .agg #[.int .i64 R.mo, .int .i64 R.pl, .int .i64 R.fi, .slice A R.L.length c, .slice B (pgI R.P).length d]), (1, .int .i64 i), (2, .agg #[.slice Bx l.length cb, .bool s])] a := he
  clear he
  have hH := Hp.bare w
  have hD := Dt.begin hT hr hF
  refine wp_seq (wp_region_lit ?_)
  refine lNewP (fun p => .pointer (some ⟨p, 0, none⟩)) he0 hH rfl rfl (wanted_plain rfl _) (rn_boxQ rfl (he0.op rfl) w) ?_
  intro p1 w1 a2 hp hn hH1 he2
  replace hD := hD.cons hn hp (hH1.at (i := 0) rfl).lt
  clear he0 a hH hn hp
  refine lNewP (fun p => .pointer (some ⟨p, 0, none⟩)) he2 hH1 rfl rfl (wanted_plain rfl _) (rn_boxL rfl (he2.op rfl) w1) ?_
  intro p3 w3 a4 hp hn hH3 he4
  replace hD := hD.cons hn hp (hH3.at (i := 0) rfl).lt
  clear he2 a2 hH1 hn hp
  refine lNewP (fun p => .pointer (some ⟨p, 0, none⟩)) he4 hH3 rfl rfl (wanted_plain rfl _) (rn_allocQ rfl w3) ?_
  intro p5 w5 a6 hp hn hH5 he6
  replace hD := hD.cons hn hp (hH5.at (i := 0) rfl).lt
  clear he4 a4 hH3 hn hp
  refine lW (.int .i64 0) he6 rfl (rn_asg rfl (he6.op rfl) w5) ?_
  intro a7 he7
  clear he6 a6
  refine wpList_nil (then_ok ?_)
  obtain ⟨v, hv⟩ : ∃ v, okL l = v := ⟨_, rfl⟩
  cases v with
  | false =>
    refine wp_seq ?_
    refine wp_seq (wp_region_lit ?_)
    refine lW (.agg #[.slice Bx l.length cb, .bool s]) he7 rfl (rn_ldp _ rfl (he7.op rfl) undL rfl infoL2 (hH5.at (i := 1) rfl) rfl) ?_
    intro a8 he8
    clear he7 a7
    refine lC he8 rfl rfl Tryd.func59 (by kernel_rfl) rfl rfl (wanted_plain rfl _) rfl (rvalid_s _ l s false hv w5 ((SlF.fr hx0 hD.fr hGF).sl)) ?_
    intro w9 a10 hn he10
    have hH9 := hH5.call hn
    replace hD := (hD).new hn
    clear he8 a8 hH5 hn
    refine lW (.bool true) he10 rfl (rn_not (b := false) rfl (he10.op rfl) w9) ?_
    intro a11 he11
    clear he10 a10
    refine wpList_nil (then_ok ?_)
    refine wp_cond_true (he11.op rfl) ?_
    refine wp_seq (wp_region_lit ?_)
    refine lW (.agg #[.int .i64 R.mo, .int .i64 R.pl, .int .i64 R.fi, .slice A R.L.length c, .slice B (pgI R.P).length d]) he11 rfl (rn_ldp _ rfl (he11.op rfl) undQ rfl infoQ5 (hH9.at (i := 2) rfl) rfl) ?_
    intro a12 he12
    clear he11 a11
    refine lSetF 0 #[.int .i64 R.mo, .int .i64 R.pl, .int .i64 R.fi, .slice A R.L.length c, .slice B (pgI R.P).length d] (cs := #[.int .i64 R.mo, .int .i64 R.pl, .int .i64 R.fi, .slice A R.L.length c, .slice B (pgI R.P).length d]) he12 hH9 rfl (wanted_plain rfl _) rfl rfl rfl rfl rfl (by kernel_rfl) (by kernel_rfl) (by kernel_rfl) rfl ?_
    intro w13 a14 hH13 hf he14
    replace hD := hD.setb (i := 0) rfl rfl hf
    replace hH13 : Hp (bare w) [⟨p5, 33, #[.int .i64 R.mo, .int .i64 R.pl, .int .i64 R.fi, .slice A R.L.length c, .slice B (pgI R.P).length d]⟩, ⟨p3, 36, #[.slice Bx l.length cb, .bool s]⟩, ⟨p1, 33, #[.int .i64 R.mo, .int .i64 R.pl, .int .i64 R.fi, .slice A R.L.length c, .slice B (pgI R.P).length d]⟩] w13 := hH13
    clear hf
    clear he12 a12 hH9
    refine lW (.int .i64 2) he14 rfl (rn_asg rfl (he14.op rfl) w13) ?_
    intro a15 he15
    clear he14 a14
    refine wpList_nil (then_ok ?_)
    have e_ : setR R i (l, s) = (R, 2) := by unfold setR; rw [if_neg (by show ¬ okL l = true; rw [hv]; decide)]
    rw [e_]
    refine wp_ret ?_
    try simp only [Exit.then, Exit.inBlock, Exit.noGoto]
    exact ret_rowt rfl he15 rfl rfl (hH13.at (i := 0) rfl) undQ rfl infoQ5 ⟨A, c, B, d, rfl, hD.turned⟩
  | true =>
    refine wp_seq ?_
    refine wp_seq (wp_region_lit ?_)
    refine lW (.agg #[.slice Bx l.length cb, .bool s]) he7 rfl (rn_ldp _ rfl (he7.op rfl) undL rfl infoL2 (hH5.at (i := 1) rfl) rfl) ?_
    intro a16 he16
    clear he7 a7
    refine lC he16 rfl rfl Tryd.func59 (by kernel_rfl) rfl rfl (wanted_plain rfl _) rfl (rvalid_s _ l s true hv w5 ((SlF.fr hx0 hD.fr hGF).sl)) ?_
    intro w17 a18 hn he18
    have hH17 := hH5.call hn
    replace hD := (hD).new hn
    clear he16 a16 hH5 hn
    refine lW (.bool false) he18 rfl (rn_not (b := true) rfl (he18.op rfl) w17) ?_
    intro a19 he19
    clear he18 a18
    refine wpList_nil (then_ok ?_)
    refine wp_cond_false (he19.op rfl) ?_
    refine wp_skip ?_
    refine then_ok ?_
    have hll := okL_len hv
    refine wp_seq ?_
    refine wp_seq (wp_region_lit ?_)
    refine lW (.agg #[.int .i64 R.mo, .int .i64 R.pl, .int .i64 R.fi, .slice A R.L.length c, .slice B (pgI R.P).length d]) he19 rfl (rn_ldp _ rfl (he19.op rfl) undQ rfl infoQ5 (hH17.at (i := 2) rfl) rfl) ?_
    intro a20 he20
    clear he19 a19
    refine lW (.int .i64 i) he20 rfl (rn_mv rfl (he20.op rfl) w17) ?_
    intro a21 he21
    clear he20 a20
    refine lC he21 rfl rfl Tryd.func43 (by kernel_rfl) rfl rfl (wanted_plain rfl _) rfl (qAt R _ _ _ _ _ i w17 hn8) ?_
    intro w22 a23 hn he23
    have hH22 := hH17.call hn
    replace hD := (hD).new hn
    clear he21 a21 hH17 hn
    refine lW (.int .i64 (missR R i)) he23 rfl (rn_asg rfl (he23.op rfl) w22) ?_
    intro a24 he24
    clear he23 a23
    refine wpList_nil (then_ok ?_)
    by_cases hm : missR R i = 0
    · skip
      refine wp_seq (wp_region_lit ?_)
      refine lW (.int .i64 (missR R i)) he24 rfl (rn_mv rfl (he24.op rfl) w22) ?_
      intro a25 he25
      clear he24 a24
      refine lW (.bool false) he25 rfl (rn_neI rfl (he25.op rfl) (he25.op rfl) (by rw [hm]; rfl) w22) ?_
      intro a26 he26
      clear he25 a25
      refine wpList_nil (then_ok ?_)
      refine wp_cond_false (he26.op rfl) ?_
      refine wp_skip ?_
      refine then_ok ?_
      obtain ⟨k, rfl, hk⟩ := miss_zero hm
      obtain ⟨T, hT9⟩ : ∃ T : RS, T = { R with P := setP R k (l, s) } := ⟨_, rfl⟩
      have e_ : setR R (R.fi + k : Nat) (l, s) = (T, 0) := by unfold setR; rw [if_pos hv, if_pos hm, show (((R.fi + k : Nat) : Int) - R.fi).toNat = k by omega, hT9]
      rw [e_]
      have hTL : T.L = R.L.set k (l, s) := by rw [hT9]; exact setP_flat hok hk
      have hTP : pgI T.P = pgI R.P := by rw [hT9]; unfold pgI; have h9 := setP_lens (R := R) (k := k) (l := (l, s)); have h8 := congrArg (List.map fun x : Nat × Nat => ((x.1 : Int), (x.2 : Int))) h9; rw [List.map_map, List.map_map] at h8; exact h8
      have hT0 : (T.mo : Int) = R.mo ∧ (T.pl : Int) = R.pl ∧ (T.fi : Int) = R.fi := by rw [hT9]; exact ⟨rfl, rfl, rfl⟩
      have hTl : T.L.length = R.L.length := by rw [hTL, List.length_set]
      have he27 : Env 32 [(7, .int .i64 0), (6, .pointer (some ⟨p5, 0, none⟩)), (5, .pointer (some ⟨p3, 0, none⟩)), (3, .pointer (some ⟨p1, 0, none⟩)), (1, .int .i64 ((R.fi + k : Nat) : Int))] a26 := he26.mem ⟨rfl, rfl, rfl, rfl, rfl, trivial⟩
      clear he26
      as_aux_lemma =>
        refine wp_seq (wp_region_lit ?_)
        refine lW (.agg #[.int .i64 R.mo, .int .i64 R.pl, .int .i64 R.fi, .slice A R.L.length c, .slice B (pgI R.P).length d]) he27 rfl (rn_ldp _ rfl (he27.op rfl) undQ rfl infoQ5 (hH22.at (i := 2) rfl) rfl) ?_
        intro a28 he28
        clear he27 a26
        replace hD := hD.pick 1 rfl
        replace hD := hD.pick 1 rfl
        obtain ⟨F_, hsep, hF, hstep⟩ := Dt.step (A := [rdD (.slice A R.L.length c) R.L, rowG (.slice B (pgI R.P).length d) (pgI R.P)]) (D := []) hD
        refine lCx he28 rfl rfl Tryd.func60 (by kernel_rfl) rfl rfl (wanted_plain rfl _) rfl (qCopy F_ R _ _ _ _ w22 hsep (by omega) (by omega) hF hD.tab) ?_
        rintro _ w29 ⟨A1, c1, B1, d1, xs, rfl, hxl, ht⟩
        obtain ⟨hD2, hHs⟩ := hstep _ _ ht
        have hH29 := hHs _ rfl hH22
        clear hHs hstep hsep hF
        replace hD := hD2
        clear hD2 ht
        refine ⟨_, rfl, ?_⟩
        intro a30 he30
        clear he28 a28 hH22
        refine lSetF 2 #[.int .i64 R.mo, .int .i64 R.pl, .int .i64 R.fi, .slice A1 R.L.length c1, .slice B1 (pgI R.P).length d1] (cs := #[.int .i64 R.mo, .int .i64 R.pl, .int .i64 R.fi, .slice A1 R.L.length c1, .slice B1 (pgI R.P).length d1]) he30 hH29 rfl (wanted_plain rfl _) rfl rfl rfl rfl rfl (by kernel_rfl) (by kernel_rfl) (by kernel_rfl) rfl ?_
        intro w31 a32 hH31 hf he32
        replace hD := hD.setb (i := 2) rfl rfl hf
        replace hH31 : Hp (bare w) [⟨p5, 33, #[.int .i64 0, .int .i64 0, .int .i64 0, .slice none 0 0, .slice none 0 0]⟩, ⟨p3, 36, #[.slice Bx l.length cb, .bool s]⟩, ⟨p1, 33, #[.int .i64 R.mo, .int .i64 R.pl, .int .i64 R.fi, .slice A1 R.L.length c1, .slice B1 (pgI R.P).length d1]⟩] w31 := hH31
        clear hf
        clear he30 a30 hH29
        refine wpList_nil (then_ok ?_)
        obtain ⟨b2, hrd, -, hlc⟩ := hD.rdL (i := 0) rfl
        obtain ⟨oo, eA⟩ := hrd.base (by omega)
        subst eA
        clear hrd
        refine wp_seq ?_
        refine wp_region_held_drew (S := Hp (bare w) [⟨p5, 33, #[.int .i64 0, .int .i64 0, .int .i64 0, .slice none 0 0, .slice none 0 0]⟩, ⟨p3, 36, #[.slice Bx l.length cb, .bool s]⟩, ⟨p1, 33, #[.int .i64 R.mo, .int .i64 R.pl, .int .i64 R.fi, .slice (some ⟨b2, oo, none⟩) R.L.length c1, .slice B1 (pgI R.P).length d1]⟩]) (by kernel_rfl) (hH31.drew) (fun _ => ?_)
        have hn : New w31 (World.drew w31) := (Fr.refl _ _).drew
        replace hD := (hD).new hn
        clear hn
        have hH33 := hH31.drew
        clear hH31
        generalize World.drew w31 = w33 at *
        refine hW (fuel := 9) (i := 0) (.pointer (some ⟨p1, 3, none⟩)) he32 rfl (by kernel_rfl) (fun _ _ _ h => h) (fun w' _ => rn_faQ3 rfl (he32.op rfl) rfl w') hH33 ?_
        intro a34 he34
        clear he32 a32
        refine hW (fuel := 8) (i := 1) (.slice (some ⟨b2, oo, none⟩) R.L.length c1) he34 rfl (by kernel_rfl) (fun _ _ _ h => h) (fun w' hw' => rn_ldLs rfl (he34.op rfl) (hw'.at (i := 2) rfl) rfl) hH33 ?_
        intro a35 he35
        clear he34 a34
        refine hW (fuel := 7) (i := 2) (.int .i64 ((R.fi + k : Nat) : Int)) he35 rfl (by kernel_rfl) (fun _ _ _ h => h) (fun w' _ => rn_mv rfl (he35.op rfl) w') hH33 ?_
        intro a36 he36
        clear he35 a35
        refine hW (fuel := 6) (i := 3) (.pointer (some ⟨p1, 2, none⟩)) he36 rfl (by kernel_rfl) (fun _ _ _ h => h) (fun w' _ => rn_faQ2 rfl (he36.op rfl) rfl w') hH33 ?_
        intro a37 he37
        clear he36 a36
        refine hW (fuel := 5) (i := 4) (.int .i64 R.fi) he37 rfl (by kernel_rfl) (fun _ _ _ h => h) (fun w' hw' => rn_ld1 rfl (he37.op rfl) Tryd.underlying3 (hw'.at (i := 2) rfl) rfl) hH33 ?_
        intro a38 he38
        clear he37 a37
        refine hW (fuel := 4) (i := 5) (.int .i64 k) he38 rfl (by kernel_rfl) (fun _ _ _ h => h) (fun w' _ => rn_subI rfl (he38.op rfl) (he38.op rfl) (by rw [IntWalk.i64_in _ ⟨by omega, by omega⟩]; omega) w') hH33 ?_
        intro a39 he39
        clear he38 a38
        refine hW (fuel := 3) (i := 6) (.agg #[.slice Bx l.length cb, .bool s]) he39 rfl (by kernel_rfl) (fun _ _ _ h => h) (fun w' hw' => rn_ldp _ rfl (he39.op rfl) undL rfl infoL2 (hw'.at (i := 1) rfl) rfl) hH33 ?_
        intro a40 he40
        clear he39 a39
        refine hC (fuel := 2) (i := 7) he40 (by kernel_rfl) rfl rfl rfl Tryd.func34 (by kernel_rfl) rfl rfl (wanted_plain rfl _) rfl (rcopy_d _ l s (by omega) w33 ((SlF.fr hx0 hD.fr hGF).sl)) ?_
        rintro _ w41 ⟨Ac, cc, rfl, ht⟩
        have hD2 := hD.made ht
        have hH41 := hH33.call ht.new
        replace hD := hD2
        clear hD2 ht
        refine ⟨_, rfl, hH41, ?_⟩
        intro a42 he42
        clear he40 a40 hH33
        refine hW (fuel := 1) (i := 8) (.pointer (some ⟨b2, oo + k * 2, none⟩)) he42 rfl (by kernel_rfl) (fun _ _ _ h => h) (fun w' _ => rn_idxL (i := k) rfl (he42.op rfl) (he42.op rfl) (by omega) (by rw [addr_add]) w') hH41 ?_
        intro a43 he43
        clear he42 a42
        replace hD := hD.pick 1 rfl
        obtain ⟨F_, hsep, hF, hstep⟩ := Dt.step (A := [rowD (.slice (some ⟨b2, oo, none⟩) R.L.length c1) xs]) (D := [cellsD (.slice Ac l.length cc) l, rdX xs R.L, rowG (.slice B1 (pgI R.P).length d1) (pgI R.P)]) hD
        refine hRowR (fuel := 0) (j := 9) (u := ⟨Ac, l.length, cc, s⟩) (i := k) hsep.the (by omega) he43 (by kernel_rfl) rfl rfl (wanted_plain rfl _) rfl rfl rfl ?_
        intro w44 a45 ht he45
        obtain ⟨hD2, hHs⟩ := hstep _ _ ht
        have hH44 := hHs _ rfl hH41
        clear hHs hstep hsep hF hD ht
        have hD := hD2
        clear hD2
        refine ⟨hH44, ?_⟩
        clear he43 a43 hH41
        refine wpAnyH_done (by kernel_rfl) ?_ _
        refine then_ok ?_
        replace hD := Dt.front (A := [rowD (.slice (some ⟨b2, oo, none⟩) R.L.length c1) (xs.set k ⟨Ac, l.length, cc, s⟩), cellsD (.slice Ac l.length cc) l, rdX xs R.L]) (B := [rdD (.slice (some ⟨b2, oo, none⟩) R.L.length c1) T.L]) (D := [rowG (.slice B1 (pgI R.P).length d1) (pgI R.P)]) hD (fun G h => by have h_ := rd_set (x := ⟨Ac, l.length, cc, s⟩) (l := (l, s)) (xs := xs) (L := R.L) k rfl h; rw [← hTL] at h_; exact h_)
        rw [← hTl, ← hTP] at hD
        have hH9 := hH44
        rw [← hTl, ← hTP, ← hT0.1, ← hT0.2.1, ← hT0.2.2] at hH9
        clear hH44
        refine wp_seq (wp_region_lit ?_)
        refine lW (.agg #[.int .i64 T.mo, .int .i64 T.pl, .int .i64 T.fi, .slice (some ⟨b2, oo, none⟩) T.L.length c1, .slice B1 (pgI T.P).length d1]) he45 rfl (rn_ldp _ rfl (he45.op rfl) undQ rfl infoQ5 (hH9.at (i := 2) rfl) rfl) ?_
        intro a46 he46
        clear he45 a45
        refine lSetF 0 #[.int .i64 T.mo, .int .i64 T.pl, .int .i64 T.fi, .slice (some ⟨b2, oo, none⟩) T.L.length c1, .slice B1 (pgI T.P).length d1] (cs := #[.int .i64 T.mo, .int .i64 T.pl, .int .i64 T.fi, .slice (some ⟨b2, oo, none⟩) T.L.length c1, .slice B1 (pgI T.P).length d1]) he46 hH9 rfl (wanted_plain rfl _) rfl rfl rfl rfl rfl (by kernel_rfl) (by kernel_rfl) (by kernel_rfl) rfl ?_
        intro w47 a48 hH47 hf he48
        replace hD := hD.setb (i := 0) rfl rfl hf
        replace hH47 : Hp (bare w) [⟨p5, 33, #[.int .i64 T.mo, .int .i64 T.pl, .int .i64 T.fi, .slice (some ⟨b2, oo, none⟩) T.L.length c1, .slice B1 (pgI T.P).length d1]⟩, ⟨p3, 36, #[.slice Bx l.length cb, .bool s]⟩, ⟨p1, 33, #[.int .i64 T.mo, .int .i64 T.pl, .int .i64 T.fi, .slice (some ⟨b2, oo, none⟩) T.L.length c1, .slice B1 (pgI T.P).length d1]⟩] w47 := hH47
        clear hf
        clear he46 a46 hH9
        refine lW (.int .i64 0) he48 rfl (rn_asg rfl (he48.op rfl) w47) ?_
        intro a49 he49
        clear he48 a48
        refine wpList_nil (then_ok ?_)
        refine wp_ret ?_
        try simp only [Exit.then, Exit.inBlock, Exit.noGoto]
        exact ret_rowt rfl he49 rfl rfl (hH47.at (i := 0) rfl) undQ rfl infoQ5 ⟨_, c1, B1, d1, rfl, hD.turned⟩
    refine wp_seq (wp_region_lit ?_)
    refine lW (.int .i64 (missR R i)) he24 rfl (rn_mv rfl (he24.op rfl) w22) ?_
    intro a50 he50
    clear he24 a24
    refine lW (.bool true) he50 rfl (rn_neI rfl (he50.op rfl) (he50.op rfl) (by rw [bne_iff_ne]; exact hm) w22) ?_
    intro a51 he51
    clear he50 a50
    refine wpList_nil (then_ok ?_)
    refine wp_cond_true (he51.op rfl) ?_
    refine wp_seq (wp_region_lit ?_)
    refine lW (.agg #[.int .i64 R.mo, .int .i64 R.pl, .int .i64 R.fi, .slice A R.L.length c, .slice B (pgI R.P).length d]) he51 rfl (rn_ldp _ rfl (he51.op rfl) undQ rfl infoQ5 (hH22.at (i := 2) rfl) rfl) ?_
    intro a52 he52
    clear he51 a51
    refine lW (.int .i64 (missR R i)) he52 rfl (rn_mv rfl (he52.op rfl) w22) ?_
    intro a53 he53
    clear he52 a52
    refine lSetF 0 #[.int .i64 R.mo, .int .i64 R.pl, .int .i64 R.fi, .slice A R.L.length c, .slice B (pgI R.P).length d] (cs := #[.int .i64 R.mo, .int .i64 R.pl, .int .i64 R.fi, .slice A R.L.length c, .slice B (pgI R.P).length d]) he53 hH22 rfl (wanted_plain rfl _) rfl rfl rfl rfl rfl (by kernel_rfl) (by kernel_rfl) (by kernel_rfl) rfl ?_
    intro w54 a55 hH54 hf he55
    replace hD := hD.setb (i := 0) rfl rfl hf
    replace hH54 : Hp (bare w) [⟨p5, 33, #[.int .i64 R.mo, .int .i64 R.pl, .int .i64 R.fi, .slice A R.L.length c, .slice B (pgI R.P).length d]⟩, ⟨p3, 36, #[.slice Bx l.length cb, .bool s]⟩, ⟨p1, 33, #[.int .i64 R.mo, .int .i64 R.pl, .int .i64 R.fi, .slice A R.L.length c, .slice B (pgI R.P).length d]⟩] w54 := hH54
    clear hf
    clear he53 a53 hH22
    refine lW (.int .i64 (missR R i)) he55 rfl (rn_asg rfl (he55.op rfl) w54) ?_
    intro a56 he56
    clear he55 a55
    refine wpList_nil (then_ok ?_)
    have e_ : setR R i (l, s) = (R, missR R i) := by unfold setR; rw [if_pos hv, if_neg hm]
    rw [e_]
    refine wp_ret ?_
    try simp only [Exit.then, Exit.inBlock, Exit.noGoto]
    exact ret_rowt rfl he56 rfl rfl (hH54.at (i := 0) rfl) undQ rfl infoQ5 ⟨A, c, B, d, rfl, hD.turned⟩
end Go.Proofs.YtlpjhaghphmbeaaDoor
