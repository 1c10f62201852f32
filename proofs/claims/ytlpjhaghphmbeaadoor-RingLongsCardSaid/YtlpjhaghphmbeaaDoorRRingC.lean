/-
  Package ring: Pop, Get, Set.
-/
import Derived.Test.YtlpjhaghphmbeaaDoorRRingB
namespace Go.Proofs.YtlpjhaghphmbeaaDoor
open Go.RowKit

theorem map_set_same {X : List PV} {i : Nat} {x y : PV} (h : X[i]? = some x) (hq : y.q = x.q) : X.map (·.q) = (X.set i y).map (·.q) := by
  rw [List.map_set, hq]
  refine List.ext_getElem? (fun j => ?_)
  rw [List.getElem?_set]
  split
  · rename_i e
    subst e
    obtain ⟨h1, h2⟩ := List.getElem?_eq_some_iff.1 h
    rw [if_pos (by simpa using h1), List.getElem?_map, h]
    rfl
  · rfl
theorem popR_snoc {R : RS} {Y : List Pg} {g : Nat} {M : List Ln} {m : Ln} {k : Nat} (hP : R.P = Y ++ [(g, M)]) (hM : M.length = k + 1) (hm : M[k]? = some m) : popR R = ({ R with P := if k = 0 then Y else Y ++ [(g, M.take k)] }, m, 0) := by
  have hL : R.L = flatP Y ++ M := by show flatP R.P = _; rw [hP, flatP_snoc]
  have hl : R.L.length = (flatP Y).length + k + 1 := by rw [hL, List.length_append, hM]; omega
  have e1 : R.L.getD (R.L.length - 1) zLn = m := by
    rw [hl, List.getD_eq_getElem?_getD, hL, List.getElem?_append_right (by omega)]
    rw [show (flatP Y).length + k + 1 - 1 - (flatP Y).length = k by omega, hm]
    rfl
  have e2 : popP R.P = if k = 0 then Y else Y ++ [(g, M.take k)] := by rw [hP]; exact popP_cut hM
  unfold popR
  rw [if_neg (by omega), e1, e2]
theorem getR_t {R : RS} {k : Nat} {m : Ln} (hm : missR R (R.fi + k : Nat) = 0) (hL : R.L[k]? = some m) : getR R (R.fi + k : Nat) = (m, 0) := by
  have e : (((R.fi + k : Nat) : Int) - R.fi).toNat = k := by omega
  unfold getR
  rw [if_pos hm, e, List.getD_eq_getElem?_getD, hL]
  rfl
theorem setP_at {R : RS} {k pg ix : Nat} {g : Nat} {M : List Ln} {l : Ln} (hf : fndP R.pl (g0P R.P) k = (pg, ix)) (hx : R.P[pg]? = some (g, M)) : setP R k l = R.P.set pg (g, M.set ix l) := by
  unfold setP
  rw [hf]
  simp only [hx, Option.getD_some]

set_option linter.unusedSimpArgs false in
set_option maxRecDepth 100000 in
set_option maxHeartbeats 1600000 in
theorem rPop (p : Nat) (R : RS) (F : FP) (w : World) (hs : (ringD p R).P w F) (hF : ∀ k, F k → 2 ≤ k ∧ k < w.heap.size) (hT : Tab w) : Calls Tryd.prog 31 #[.pointer (some ⟨p, 0, none⟩)] w fun e w' => ∃ A' c', e = .returned (.tuple #[.agg #[.slice A' (popR R).2.1.1.length c', .bool (popR R).2.1.2], .int .i64 (popR R).2.2]) ∧ Turned [ringD p (popR R).1, cellsD (.slice A' (popR R).2.1.1.length c') (popR R).2.1.1] F w w' := by
  refine calls_args (vl := [.pointer (some ⟨p, 0, none⟩)]) 66 Tryd.func31 rfl Tryd.ntmps31 (by kernel_rfl) (fun a he => ?_)
  have he0 : Env 66 [(0, .pointer (some ⟨p, 0, none⟩))] a := he
  clear he
  have hH := Hp.bare w
  have hD := Dt.begin hT (SepL.one hs) hF
  have hok := hD.ring_ok
  replace hD := Dt.front (A := [ringD p R]) (B := [ringW p R]) (D := []) hD (fun G h => ring_w h)
  have hplz : ((R.pl : Int) == 0) = false := by have := hok.pl1; simp; omega
  have hpop := pop_rg hok
  have hnb : bigN = 1000000000 := rfl
  have hn8 := hok.nx
  have hnn : R.nx = R.fi + R.L.length := rfl
  refine wp_seq (wp_region_lit ?_)
  refine lNewP (fun p => .pointer (some ⟨p, 0, none⟩)) he0 hH rfl rfl (wanted_plain rfl _) (rn_allocL rfl w) ?_
  intro p1 w1 a2 hp hn hH1 he2
  replace hD := hD.cons hn hp (hH1.at (i := 0) rfl).lt
  clear he0 a hH hn hp
  refine lW (.int .i64 0) he2 rfl (rn_asg rfl (he2.op rfl) w1) ?_
  intro a3 he3
  clear he2 a2
  refine wpList_nil (then_ok ?_)
  obtain ⟨X, hX, hD2⟩ := hD.ring_raw
  replace hD := hD2
  clear hD2
  obtain ⟨A4, c4, hD2, hH4⟩ := Dt.open_ring hD hH1 rfl
  clear hD hH1
  have hD := hD2
  clear hD2
  refine wp_seq ?_
  refine wp_block ?_
  refine wp_seq (wp_region_lit ?_)
  refine lW (.pointer (some ⟨p, 0, none⟩)) he3 rfl (rn_mv rfl (he3.op rfl) w1) ?_
  intro a5 he5
  clear he3 a3
  refine lC he5 rfl rfl Tryd.func45 (by kernel_rfl) rfl rfl (wanted_plain rfl _) rfl (rUnmade_f _ _ _ _ _ _ _ _ w1 (hH4.at (i := 0) rfl) hplz hD.tab) ?_
  intro w6 a7 hn he7
  have hH6 := hH4.call hn
  replace hD := (hD).new hn
  clear he5 a5 hH4 hn
  refine lW (.bool false) he7 rfl (rn_asg rfl (he7.op rfl) w6) ?_
  intro a8 he8
  clear he7 a7
  refine wpList_nil (then_ok ?_)
  refine wp_cond_false (he8.op rfl) ?_
  by_cases h0 : R.L.length = 0
  · skip
    refine wp_seq (wp_region_lit ?_)
    refine lW (.pointer (some ⟨p, 0, none⟩)) he8 rfl (rn_mv rfl (he8.op rfl) w6) ?_
    intro a9 he9
    clear he8 a8
    refine lC he9 rfl rfl Tryd.func28 (by kernel_rfl) rfl rfl (wanted_plain rfl _) rfl (rLen _ _ _ _ _ _ _ _ w6 (hH6.at (i := 0) rfl) R.L.length (by omega) (by omega) (by omega) hplz hD.tab) ?_
    intro w10 a11 hn he11
    have hH10 := hH6.call hn
    replace hD := (hD).new hn
    clear he9 a9 hH6 hn
    refine lW (.bool true) he11 rfl (rn_eqI rfl (he11.op rfl) (he11.op rfl) (beq_iff_eq.2 (by omega)) w10) ?_
    intro a12 he12
    clear he11 a11
    refine lW (.bool true) he12 rfl (rn_asg rfl (he12.op rfl) w10) ?_
    intro a13 he13
    clear he12 a12
    refine wpList_nil (then_ok ?_)
    refine wp_cond_true (he13.op rfl) ?_
    refine wp_seq (wp_region_lit ?_)
    refine lW (.agg #[.slice none 0 0, .bool false]) he13 rfl (rn_bL rfl  w10) ?_
    intro a14 he14
    clear he13 a13
    refine lSetF 1 #[.slice none 0 0, .bool false] (cs := #[.slice none 0 0, .bool false]) he14 hH10 rfl (wanted_plain rfl _) rfl rfl rfl rfl rfl (by kernel_rfl) (by kernel_rfl) (by kernel_rfl) rfl ?_
    intro w15 a16 hH15 hf he16
    replace hD := hD.setb (i := 1) rfl rfl hf
    replace hH15 : Hp (bare w) [⟨p, 60, (rgCs (.slice A4 (X.map (·.q)).length c4) (R.mo : Int) (R.pl : Int) (R.fi : Int) (R.nx : Int))⟩, ⟨p1, 36, #[.slice none 0 0, .bool false]⟩] w15 := hH15
    clear hf
    clear he14 a14 hH10
    refine lW (.int .i64 9) he16 rfl (rn_asg rfl (he16.op rfl) w15) ?_
    intro a17 he17
    clear he16 a16
    refine wpList_nil (then_ok ?_)
    have e_ : popR R = (R, zLn, 9) := if_pos h0
    rw [e_]
    have hD2 := Dt.shut_ring (mo := (R.mo : Int)) (fi := (R.fi : Int)) (nx := (R.nx : Int)) (qs := (X.map (·.q))) (X := X) hD (hH15.at (i := 0) rfl) (Hp.notin hH15)
    replace hD := hD2
    clear hD2
    have hH18 := hH15.tail rfl
    clear hH15
    replace hD := Dt.front (A := [rawD p (R.mo : Int) R.pl (R.fi : Int) (R.nx : Int) (X.map (·.q)) X]) (B := [ringD p R]) (D := []) hD (fun G h => ring_ok hok (ring_shut hX h))
    replace hD := Dt.front (A := []) (B := [cellsD (.slice none 0 0) []]) (D := [ringD p R]) hD (fun G h => SepL.one (d := cellsD _ _) (cells_nil _ _))
    replace hD := hD.pick 1 rfl
    refine wp_ret ?_
    try simp only [Exit.then, Exit.inBlock, Exit.noGoto]
    exact ret_rowt rfl he17 rfl rfl (hH18.at (i := 0) rfl) undL rfl infoL2 ⟨none, 0, rfl, hD.turned⟩
  refine wp_seq (wp_region_lit ?_)
  refine lW (.pointer (some ⟨p, 0, none⟩)) he8 rfl (rn_mv rfl (he8.op rfl) w6) ?_
  intro a19 he19
  clear he8 a8
  refine lC he19 rfl rfl Tryd.func28 (by kernel_rfl) rfl rfl (wanted_plain rfl _) rfl (rLen _ _ _ _ _ _ _ _ w6 (hH6.at (i := 0) rfl) R.L.length (by omega) (by omega) (by omega) hplz hD.tab) ?_
  intro w20 a21 hn he21
  have hH20 := hH6.call hn
  replace hD := (hD).new hn
  clear he19 a19 hH6 hn
  refine lW (.bool false) he21 rfl (rn_eqI rfl (he21.op rfl) (he21.op rfl) (beq_eq_false_iff_ne.2 (by omega)) w20) ?_
  intro a22 he22
  clear he21 a21
  refine lW (.bool false) he22 rfl (rn_asg rfl (he22.op rfl) w20) ?_
  intro a23 he23
  clear he22 a22
  refine wpList_nil (then_ok ?_)
  refine wp_cond_false (he23.op rfl) ?_
  refine wp_skip ?_
  refine block_ok ?_
  refine then_ok ?_
  have he24 : Env 66 [(3, .int .i64 0), (2, .pointer (some ⟨p1, 0, none⟩)), (0, .pointer (some ⟨p, 0, none⟩))] a23 := he23.mem ⟨rfl, rfl, rfl, trivial⟩
  clear he23
  as_aux_lemma =>
    have hXn : X ≠ [] := fun e => by subst e; apply h0; show (flatP R.P).length = 0; rw [← hX]; rfl
    obtain ⟨Y, y, rfl⟩ : ∃ Y y, X = Y ++ [y] := ⟨X.dropLast, X.getLast hXn, (List.dropLast_concat_getLast _).symm⟩
    clear hXn
    have hyl : ((Y ++ [y]).map (·.q)).length = Y.length + 1 := by simp
    have hy : (Y ++ [y])[Y.length]? = some y := by simp
    have hYl : Y.length ≤ 3000000 := by have h1 := hok.pg.len_le; have h2 : (flatP R.P).length ≤ R.mo := hok.len; have := hok.mo; have h3 := congrArg List.length hX; simp at h3; omega
    have hP : R.P = Y.map PV.pg ++ [(y.gn, y.L)] := by rw [← hX]; simp
    have hyo := hD.pags (i := 1) rfl hy
    have hy1 : 1 ≤ y.L.length := PgOk.last (z := (y.gn, y.L)) (hP ▸ hok.pg)
    obtain ⟨k, hk⟩ : ∃ k, y.L.length = k + 1 := ⟨y.L.length - 1, by omega⟩
    obtain ⟨m, hm⟩ : ∃ m, y.L[k]? = some m := ⟨_, List.getElem?_eq_getElem (by omega)⟩
    have e_ := popR_snoc hP hk hm
    rw [e_] at hpop ⊢
    simp only at hpop ⊢
    have hps : popS y.L = (y.L.take k, m, 0) := by unfold popS; rw [if_neg (by omega), hk, Nat.add_sub_cancel, List.getD_eq_getElem?_getD, hm]; rfl
    refine wp_seq (wp_region_lit ?_)
    refine lW (.pointer (some ⟨p, 0, none⟩)) he24 rfl (rn_mv rfl (he24.op rfl) w20) ?_
    intro a25 he25
    clear he24 a23
    refine lW (.pointer (some ⟨p, 0, none⟩)) he25 rfl (rn_nilck rfl (he25.op rfl) w20) ?_
    intro a26 he26
    clear he25 a25
    refine lW (.pointer (some ⟨p, 0, none⟩)) he26 rfl (rn_faH0 rfl (he26.op rfl) rfl w20) ?_
    intro a27 he27
    clear he26 a26
    refine lW (.slice A4 ((Y ++ [y]).map (·.q)).length c4) he27 rfl (rn_ldGps rfl (he27.op rfl) (hH20.at (i := 0) rfl) rfl) ?_
    intro a28 he28
    clear he27 a27
    refine lW (.int .i64 (((Y ++ [y]).map (·.q)).length : Nat)) he28 rfl (rn_lenGp rfl (he28.op rfl) w20) ?_
    intro a29 he29
    clear he28 a28
    refine lW (.int .i64 Y.length) he29 rfl (rn_subI rfl (he29.op rfl) (he29.op rfl) (by rw [IntWalk.i64_in _ ⟨by omega, by omega⟩]; omega) w20) ?_
    intro a30 he30
    clear he29 a29
    refine lW (.int .i64 Y.length) he30 rfl (rn_asg rfl (he30.op rfl) w20) ?_
    intro a31 he31
    clear he30 a30
    refine wpList_nil (then_ok ?_)
    obtain ⟨bb, hrd, -, hlc⟩ := hD.rdP (i := 0) rfl
    obtain ⟨oo, eA⟩ := hrd.base (by omega)
    subst eA
    refine wp_seq (wp_region_lit ?_)
    refine lW (.pointer (some ⟨p, 0, none⟩)) he31 rfl (rn_mv rfl (he31.op rfl) w20) ?_
    intro a32 he32
    clear he31 a31
    refine lW (.pointer (some ⟨p, 0, none⟩)) he32 rfl (rn_nilck rfl (he32.op rfl) w20) ?_
    intro a33 he33
    clear he32 a32
    refine lW (.pointer (some ⟨p, 0, none⟩)) he33 rfl (rn_faH0 rfl (he33.op rfl) rfl w20) ?_
    intro a34 he34
    clear he33 a33
    refine lW (.slice (some ⟨bb, oo, none⟩) ((Y ++ [y]).map (·.q)).length c4) he34 rfl (rn_ldGps rfl (he34.op rfl) (hH20.at (i := 0) rfl) rfl) ?_
    intro a35 he35
    clear he34 a34
    refine lW (.int .i64 Y.length) he35 rfl (rn_mv rfl (he35.op rfl) w20) ?_
    intro a36 he36
    clear he35 a35
    refine lW (.pointer (some ⟨bb, oo + Y.length * 1, none⟩)) he36 rfl (rn_idxGp (i := Y.length) rfl (he36.op rfl) (he36.op rfl) (by omega) (by rw [addr_add]) w20) ?_
    intro a37 he37
    clear he36 a36
    refine lW (.pointer (some ⟨y.q, 0, none⟩)) he37 rfl (rn_ldPt (i := Y.length) rfl (he37.op rfl) hrd rfl (ptr_at hy)) ?_
    intro a38 he38
    clear he37 a37
    replace hD := hD.pick 1 rfl
    replace hD := Dt.front (A := [pagsD R.pl (Y ++ [y])]) (B := [pagD R.pl y, pagsD R.pl Y]) (D := [rowP (.slice (some ⟨bb, oo, none⟩) ((Y ++ [y]).map (·.q)).length c4) (((Y ++ [y]).map (·.q)).map some)]) hD (fun G h => pags_outl h)
    obtain ⟨F_, hsep, hF, hstep⟩ := Dt.step (A := [pagD R.pl y]) (D := [pagsD R.pl Y, rowP (.slice (some ⟨bb, oo, none⟩) ((Y ++ [y]).map (·.q)).length c4) (((Y ++ [y]).map (·.q)).map some)]) hD
    refine lCx he38 rfl rfl Tryd.func56 (by kernel_rfl) rfl rfl (wanted_plain rfl _) rfl ((by have hc_ := pop_b F_ y.q R.pl y.gn y.L w20 hsep.the hF hD.tab; rw [hps] at hc_; exact hc_)) ?_
    rintro _ w39 ⟨Ac, cc, rfl, ht⟩
    obtain ⟨hD2, hHs⟩ := hstep _ _ ht
    have hH39 := hHs _ rfl hH20
    clear hHs hstep hsep hF
    replace hD := hD2
    clear hD2 ht
    refine ⟨_, rfl, ?_⟩
    intro a40 he40
    clear he38 a38 hH20
    refine lW (.tuple #[.agg #[.slice Ac m.1.length cc, .bool m.2], .int .i64 0]) he40 rfl (rn_mv rfl (he40.op rfl) w39) ?_
    intro a41 he41
    clear he40 a40
    refine lW (.agg #[.slice Ac m.1.length cc, .bool m.2]) he41 rfl (rn_ext rfl (he41.op rfl) rfl w39) ?_
    intro a42 he42
    clear he41 a41
    refine lW (.int .i64 0) he42 rfl (rn_ext rfl (he42.op rfl) rfl w39) ?_
    intro a43 he43
    clear he42 a42
    refine lNewP (fun p => .pointer (some ⟨p, 0, none⟩)) he43 hH39 rfl rfl (wanted_plain rfl _) (rn_allocL rfl w39) ?_
    intro p44 w44 a45 hp hn hH44 he45
    replace hD := hD.cons hn hp (hH44.at (i := 0) rfl).lt
    clear he43 a43 hH39 hn hp
    refine lSetF 0 #[.slice Ac m.1.length cc, .bool m.2] (cs := #[.slice Ac m.1.length cc, .bool m.2]) he45 hH44 rfl (wanted_plain rfl _) rfl rfl rfl rfl rfl (by kernel_rfl) (by kernel_rfl) (by kernel_rfl) rfl ?_
    intro w46 a47 hH46 hf he47
    replace hD := hD.setb (i := 0) rfl rfl hf
    replace hH46 : Hp (bare w) [⟨p44, 36, #[.slice Ac m.1.length cc, .bool m.2]⟩, ⟨p, 60, (rgCs (.slice (some ⟨bb, oo, none⟩) ((Y ++ [y]).map (·.q)).length c4) (R.mo : Int) (R.pl : Int) (R.fi : Int) (R.nx : Int))⟩, ⟨p1, 36, #[.slice none 0 0, .bool false]⟩] w46 := hH46
    clear hf
    clear he45 a45 hH44
    refine lW (.int .i64 0) he47 rfl (rn_asg rfl (he47.op rfl) w46) ?_
    intro a48 he48
    clear he47 a47
    refine wpList_nil (then_ok ?_)
    refine wp_seq (wp_region_lit ?_)
    refine lW (.pointer (some ⟨p, 0, none⟩)) he48 rfl (rn_mv rfl (he48.op rfl) w46) ?_
    intro a49 he49
    clear he48 a48
    refine lW (.pointer (some ⟨p, 0, none⟩)) he49 rfl (rn_nilck rfl (he49.op rfl) w46) ?_
    intro a50 he50
    clear he49 a49
    refine lW (.pointer (some ⟨p, 4, none⟩)) he50 rfl (rn_faH4 rfl (he50.op rfl) rfl w46) ?_
    intro a51 he51
    clear he50 a50
    refine lW (.int .i64 R.nx) he51 rfl (rn_ld1 rfl (he51.op rfl) Tryd.underlying3 (hH46.at (i := 1) rfl) rfl) ?_
    intro a52 he52
    clear he51 a51
    refine lW (.int .i64 ((R.fi + (R.L.length - 1) : Nat) : Int)) he52 rfl (rn_subI rfl (he52.op rfl) (he52.op rfl) (by rw [IntWalk.i64_in _ ⟨by omega, by omega⟩]; omega) w46) ?_
    intro a53 he53
    clear he52 a52
    refine lW (.pointer (some ⟨p, 0, none⟩)) he53 rfl (rn_nilck rfl (he53.op rfl) w46) ?_
    intro a54 he54
    clear he53 a53
    refine lW (.pointer (some ⟨p, 4, none⟩)) he54 rfl (rn_faH4 rfl (he54.op rfl) rfl w46) ?_
    intro a55 he55
    clear he54 a54
    refine lSetF 1 #[.int .i64 ((R.fi + (R.L.length - 1) : Nat) : Int)] (cs := #[.slice (some ⟨bb, oo, none⟩) ((Y ++ [y]).map (·.q)).length c4, .int .i64 R.mo, .int .i64 R.pl, .int .i64 R.fi, .int .i64 ((R.fi + (R.L.length - 1) : Nat) : Int)]) he55 hH46 rfl (wanted_plain rfl _) rfl rfl rfl rfl rfl (by kernel_rfl) (by kernel_rfl) (by kernel_rfl) rfl ?_
    intro w56 a57 hH56 hf he57
    replace hD := hD.setb (i := 1) rfl rfl hf
    replace hH56 : Hp (bare w) [⟨p44, 36, #[.slice Ac m.1.length cc, .bool m.2]⟩, ⟨p, 60, #[.slice (some ⟨bb, oo, none⟩) ((Y ++ [y]).map (·.q)).length c4, .int .i64 R.mo, .int .i64 R.pl, .int .i64 R.fi, .int .i64 ((R.fi + (R.L.length - 1) : Nat) : Int)]⟩, ⟨p1, 36, #[.slice none 0 0, .bool false]⟩] w56 := hH56
    clear hf
    clear he55 a55 hH46
    refine wpList_nil (then_ok ?_)
    have hrd := hD.rdPb (i := 3) rfl
    obtain ⟨U_, hU_⟩ := hD.get (i := 0) rfl
    have htk : (y.L.take k).length = k := by rw [List.length_take]; omega
    have hnx : ∀ P9 : List Pg, (flatP P9).length = R.L.length - 1 → (({ R with P := P9 } : RS).nx : Int) = ((R.fi + (R.L.length - 1) : Nat) : Int) := fun P9 h9 => by show ((R.fi + (flatP P9).length : Nat) : Int) = _; rw [h9]
    have hfl : (flatP (popP R.P)).length = R.L.length - 1 := by rw [popP_flat hok.pg, List.length_take]; show min (R.L.length - 1) R.L.length = _; omega
    have hpp : popP R.P = if k = 0 then Y.map PV.pg else Y.map PV.pg ++ [(y.gn, y.L.take k)] := by rw [hP]; exact popP_cut (x := (y.gn, y.L)) hk
    rw [hpp] at hfl
    by_cases hk0 : k = 0
    · skip
      rw [if_pos hk0] at hfl hpop ⊢
      refine wp_seq ?_
      refine wp_seq (wp_region_lit ?_)
      refine lW (.pointer (some ⟨p, 0, none⟩)) he57 rfl (rn_mv rfl (he57.op rfl) w56) ?_
      intro a58 he58
      clear he57 a57
      refine lW (.pointer (some ⟨p, 0, none⟩)) he58 rfl (rn_nilck rfl (he58.op rfl) w56) ?_
      intro a59 he59
      clear he58 a58
      refine lW (.pointer (some ⟨p, 0, none⟩)) he59 rfl (rn_faH0 rfl (he59.op rfl) rfl w56) ?_
      intro a60 he60
      clear he59 a59
      refine lW (.slice (some ⟨bb, oo, none⟩) ((Y ++ [y]).map (·.q)).length c4) he60 rfl (rn_ldGps rfl (he60.op rfl) (hH56.at (i := 1) rfl) rfl) ?_
      intro a61 he61
      clear he60 a60
      refine lW (.int .i64 Y.length) he61 rfl (rn_mv rfl (he61.op rfl) w56) ?_
      intro a62 he62
      clear he61 a61
      refine lW (.pointer (some ⟨bb, oo + Y.length * 1, none⟩)) he62 rfl (rn_idxGp (i := Y.length) rfl (he62.op rfl) (he62.op rfl) (by omega) (by rw [addr_add]) w56) ?_
      intro a63 he63
      clear he62 a62
      refine lW (.pointer (some ⟨y.q, 0, none⟩)) he63 rfl (rn_ldPt (i := Y.length) rfl (he63.op rfl) hrd rfl (ptr_at hy)) ?_
      intro a64 he64
      clear he63 a63
      refine lC he64 rfl rfl Tryd.func48 (by kernel_rfl) rfl rfl (wanted_plain rfl _) rfl (lenS_b U_ y.q R.pl y.gn (y.L.take k) w56 hU_ hD.tab) ?_
      intro w65 a66 hn he66
      have hH65 := hH56.call hn
      replace hD := (hD).new hn
      replace hrd := hrd.new hn
      replace hU_ := (shD _ _ _ _).fr hU_ hn (fun _ _ h => h)
      clear he64 a64 hH56 hn
      refine lW (.bool true) he66 rfl (rn_eqI rfl (he66.op rfl) (he66.op rfl) (by rw [htk]; simp; omega) w65) ?_
      intro a67 he67
      clear he66 a66
      refine wpList_nil (then_ok ?_)
      clear hU_ hrd
      refine wp_cond_true (he67.op rfl) ?_
      replace hD := hD.drop
      replace hD := hD.pick 2 rfl
      obtain ⟨A2, e2⟩ := slp_cut (A := some ⟨bb, oo, none⟩) (n := ((Y ++ [y]).map (·.q)).length) (k := Y.length) (c := c4) (by omega)
      obtain ⟨A3, e3⟩ := slp_cuth (A := some ⟨bb, oo, none⟩) (k := Y.length) (c := c4)
      have e4 : ((Y ++ [y]).map (·.q)).length - Y.length = 1 := by omega
      rw [e4] at e2
      have e5 : (Y.map (·.q)).length = Y.length := by simp
      rw [← e5] at e3
      refine wp_seq (wp_region_lit ?_)
      refine lW (.pointer (some ⟨p, 0, none⟩)) he67 rfl (rn_mv rfl (he67.op rfl) w65) ?_
      intro a68 he68
      clear he67 a67
      refine lW (.pointer (some ⟨p, 0, none⟩)) he68 rfl (rn_nilck rfl (he68.op rfl) w65) ?_
      intro a69 he69
      clear he68 a68
      refine lW (.pointer (some ⟨p, 0, none⟩)) he69 rfl (rn_faH0 rfl (he69.op rfl) rfl w65) ?_
      intro a70 he70
      clear he69 a69
      refine lW (.slice (some ⟨bb, oo, none⟩) ((Y ++ [y]).map (·.q)).length c4) he70 rfl (rn_ldGps rfl (he70.op rfl) (hH65.at (i := 1) rfl) rfl) ?_
      intro a71 he71
      clear he70 a70
      refine lW (.int .i64 Y.length) he71 rfl (rn_mv rfl (he71.op rfl) w65) ?_
      intro a72 he72
      clear he71 a71
      refine lW (.slice A2 1 (c4 - Y.length)) he72 rfl (rg_cutl (R := rPt) (k := Y.length) rfl (he72.op rfl) (he72.op rfl) (by omega) e2 w65) ?_
      intro a73 he73
      clear he72 a72
      obtain ⟨F_, hsep, hF, hstep⟩ := Dt.step (A := [rowP (.slice (some ⟨bb, oo, none⟩) ((Y ++ [y]).map (·.q)).length c4) (((Y ++ [y]).map (·.q)).map some)]) (D := [cellsD (.slice Ac m.1.length cc) m.1, pagsD R.pl Y]) hD
      refine lEx0 he73 rfl (wanted_plain rfl _) (clear_p (k := Y.length) (m := 1) hsep.the (fun g_ o_ h_ hA_ => slp_addr e2 (by omega) g_ o_ hA_) (by omega) rfl (he73.op rfl)) ?_
      rintro _ w74 ⟨rfl, ht⟩
      obtain ⟨hD2, hHs⟩ := hstep _ _ ht
      have hH74 := hHs _ rfl hH65
      clear hHs hstep hsep hF
      replace hD := hD2
      clear hD2 ht
      intro a75 he75
      clear he73 a73 hH65
      refine wpList_nil (then_ok ?_)
      refine wp_region_lit ?_
      refine lW (.pointer (some ⟨p, 0, none⟩)) he75 rfl (rn_mv rfl (he75.op rfl) w74) ?_
      intro a76 he76
      clear he75 a75
      refine lW (.pointer (some ⟨p, 0, none⟩)) he76 rfl (rn_mv rfl (he76.op rfl) w74) ?_
      intro a77 he77
      clear he76 a76
      refine lW (.pointer (some ⟨p, 0, none⟩)) he77 rfl (rn_nilck rfl (he77.op rfl) w74) ?_
      intro a78 he78
      clear he77 a77
      refine lW (.pointer (some ⟨p, 0, none⟩)) he78 rfl (rn_faH0 rfl (he78.op rfl) rfl w74) ?_
      intro a79 he79
      clear he78 a78
      refine lW (.slice (some ⟨bb, oo, none⟩) ((Y ++ [y]).map (·.q)).length c4) he79 rfl (rn_ldGps rfl (he79.op rfl) (hH74.at (i := 1) rfl) rfl) ?_
      intro a80 he80
      clear he79 a79
      refine lW (.int .i64 Y.length) he80 rfl (rn_mv rfl (he80.op rfl) w74) ?_
      intro a81 he81
      clear he80 a80
      refine lW (.slice A3 (Y.map (·.q)).length c4) he81 rfl (rg_cuth (R := rPt) (k := (Y.map (·.q)).length) rfl (he81.op rfl) (by rw [e5]; exact (he81.op rfl)) (by omega) e3 w74) ?_
      intro a82 he82
      clear he81 a81
      refine lW (.pointer (some ⟨p, 0, none⟩)) he82 rfl (rn_nilck rfl (he82.op rfl) w74) ?_
      intro a83 he83
      clear he82 a82
      refine lW (.pointer (some ⟨p, 0, none⟩)) he83 rfl (rn_faH0 rfl (he83.op rfl) rfl w74) ?_
      intro a84 he84
      clear he83 a83
      refine lSetF 1 #[.slice A3 (Y.map (·.q)).length c4] (cs := #[.slice A3 (Y.map (·.q)).length c4, .int .i64 R.mo, .int .i64 R.pl, .int .i64 R.fi, .int .i64 ((R.fi + (R.L.length - 1) : Nat) : Int)]) he84 hH74 rfl (wanted_plain rfl _) rfl rfl rfl rfl rfl (by kernel_rfl) (by kernel_rfl) (by kernel_rfl) rfl ?_
      intro w85 a86 hH85 hf he86
      replace hD := hD.setb (i := 1) rfl rfl hf
      replace hH85 : Hp (bare w) [⟨p44, 36, #[.slice Ac m.1.length cc, .bool m.2]⟩, ⟨p, 60, #[.slice A3 (Y.map (·.q)).length c4, .int .i64 R.mo, .int .i64 R.pl, .int .i64 R.fi, .int .i64 ((R.fi + (R.L.length - 1) : Nat) : Int)]⟩, ⟨p1, 36, #[.slice none 0 0, .bool false]⟩] w85 := hH85
      clear hf
      clear he84 a84 hH74
      refine wpList_nil (then_ok ?_)
      have e7 : ((((Y ++ [y]).map PV.q).map some).take Y.length ++ List.replicate 1 none ++ (((Y ++ [y]).map PV.q).map some).drop (Y.length + 1)).take (Y.map PV.q).length = (Y.map PV.q).map some := by simp
      replace hD := Dt.front (A := [rowP (.slice (some ⟨bb, oo, none⟩) ((Y ++ [y]).map (·.q)).length c4) ((((Y ++ [y]).map PV.q).map some).take Y.length ++ List.replicate 1 none ++ (((Y ++ [y]).map PV.q).map some).drop (Y.length + 1))]) (B := [rowP (.slice A3 (Y.map (·.q)).length c4) ((Y.map (·.q)).map some)]) (D := [cellsD (.slice Ac m.1.length cc) m.1, pagsD R.pl Y]) hD (fun G h => by have h_ := rowp_cuth e3 (by omega) h; rw [e7] at h_; exact h_)
      replace hD := hD.pick 1 rfl
      replace hD := hD.pick 2 rfl
      replace hD := hD.pick 2 rfl
      refine wp_seq (wp_region_lit ?_)
      refine lW (.agg #[.slice Ac m.1.length cc, .bool m.2]) he86 rfl (rn_ldp _ rfl (he86.op rfl) undL rfl infoL2 (hH85.at (i := 0) rfl) rfl) ?_
      intro a87 he87
      clear he86 a86
      refine lW (.int .i64 0) he87 rfl (rn_mv rfl (he87.op rfl) w85) ?_
      intro a88 he88
      clear he87 a87
      refine lSetF 2 #[.slice Ac m.1.length cc, .bool m.2] (cs := #[.slice Ac m.1.length cc, .bool m.2]) he88 hH85 rfl (wanted_plain rfl _) rfl rfl rfl rfl rfl (by kernel_rfl) (by kernel_rfl) (by kernel_rfl) rfl ?_
      intro w89 a90 hH89 hf he90
      replace hD := hD.setb (i := 2) rfl rfl hf
      replace hH89 : Hp (bare w) [⟨p44, 36, #[.slice Ac m.1.length cc, .bool m.2]⟩, ⟨p, 60, #[.slice A3 (Y.map (·.q)).length c4, .int .i64 R.mo, .int .i64 R.pl, .int .i64 R.fi, .int .i64 ((R.fi + (R.L.length - 1) : Nat) : Int)]⟩, ⟨p1, 36, #[.slice Ac m.1.length cc, .bool m.2]⟩] w89 := hH89
      clear hf
      clear he88 a88 hH85
      refine lW (.int .i64 0) he90 rfl (rn_asg rfl (he90.op rfl) w89) ?_
      intro a91 he91
      clear he90 a90
      refine wpList_nil (then_ok ?_)
      have hH92 := hH89.tail rfl
      clear hH89
      replace hD := hD.tail
      have hn7 := hnx (Y.map PV.pg) hfl
      obtain ⟨T, hT9⟩ : ∃ T : RS, T = { R with P := Y.map PV.pg } := ⟨_, rfl⟩
      rw [← hT9] at hpop hn7 ⊢
      have hT1 : T.mo = R.mo ∧ T.pl = R.pl ∧ T.fi = R.fi ∧ (Y : List PV).map PV.pg = T.P := by subst hT9; exact ⟨rfl, rfl, rfl, rfl⟩
      obtain ⟨q1, q2, q3, q5⟩ := hT1
      have hBp := hH92.at (i := 0) rfl
      have hD2 := Dt.shut_ring (mo := (R.mo : Int)) (fi := (R.fi : Int)) (nx := ((R.fi + (R.L.length - 1) : Nat) : Int)) (pl := R.pl) (qs := (Y : List PV).map (·.q)) (X := Y) hD hBp (Hp.notin hH92)
      replace hD := hD2
      clear hD2
      rw [← hn7, ← q1, ← q2, ← q3] at hD
      have hHz := hH92.tail rfl
      clear hH92 hBp
      replace hD := Dt.front (A := [rawD p (T.mo : Int) T.pl (T.fi : Int) (T.nx : Int) ((Y : List PV).map (·.q)) Y]) (B := [ringD p T]) (D := [cellsD (.slice Ac m.1.length cc) m.1]) hD (fun G h => ring_ok hpop (ring_shut q5 h))
      refine wp_ret ?_
      try simp only [Exit.then, Exit.inBlock, Exit.noGoto]
      exact ret_rowt rfl he91 rfl rfl (hHz.at (i := 0) rfl) undL rfl infoL2 ⟨Ac, cc, rfl, hD.turned⟩
    rw [if_neg hk0] at hfl hpop ⊢
    refine wp_seq ?_
    refine wp_seq (wp_region_lit ?_)
    refine lW (.pointer (some ⟨p, 0, none⟩)) he57 rfl (rn_mv rfl (he57.op rfl) w56) ?_
    intro a93 he93
    clear he57 a57
    refine lW (.pointer (some ⟨p, 0, none⟩)) he93 rfl (rn_nilck rfl (he93.op rfl) w56) ?_
    intro a94 he94
    clear he93 a93
    refine lW (.pointer (some ⟨p, 0, none⟩)) he94 rfl (rn_faH0 rfl (he94.op rfl) rfl w56) ?_
    intro a95 he95
    clear he94 a94
    refine lW (.slice (some ⟨bb, oo, none⟩) ((Y ++ [y]).map (·.q)).length c4) he95 rfl (rn_ldGps rfl (he95.op rfl) (hH56.at (i := 1) rfl) rfl) ?_
    intro a96 he96
    clear he95 a95
    refine lW (.int .i64 Y.length) he96 rfl (rn_mv rfl (he96.op rfl) w56) ?_
    intro a97 he97
    clear he96 a96
    refine lW (.pointer (some ⟨bb, oo + Y.length * 1, none⟩)) he97 rfl (rn_idxGp (i := Y.length) rfl (he97.op rfl) (he97.op rfl) (by omega) (by rw [addr_add]) w56) ?_
    intro a98 he98
    clear he97 a97
    refine lW (.pointer (some ⟨y.q, 0, none⟩)) he98 rfl (rn_ldPt (i := Y.length) rfl (he98.op rfl) hrd rfl (ptr_at hy)) ?_
    intro a99 he99
    clear he98 a98
    refine lC he99 rfl rfl Tryd.func48 (by kernel_rfl) rfl rfl (wanted_plain rfl _) rfl (lenS_b U_ y.q R.pl y.gn (y.L.take k) w56 hU_ hD.tab) ?_
    intro w100 a101 hn he101
    have hH100 := hH56.call hn
    replace hD := (hD).new hn
    replace hrd := hrd.new hn
    replace hU_ := (shD _ _ _ _).fr hU_ hn (fun _ _ h => h)
    clear he99 a99 hH56 hn
    refine lW (.bool false) he101 rfl (rn_eqI rfl (he101.op rfl) (he101.op rfl) (by rw [htk]; simp; omega) w100) ?_
    intro a102 he102
    clear he101 a101
    refine wpList_nil (then_ok ?_)
    clear hU_ hrd
    refine wp_cond_false (he102.op rfl) ?_
    refine wp_skip ?_
    refine then_ok ?_
    replace hD := hD.pick 3 rfl
    replace hD := hD.pick 2 rfl
    replace hD := hD.pick 3 rfl
    replace hD := hD.pick 3 rfl
    replace hD := Dt.front (A := [pagD R.pl ⟨y.q, y.gn, y.L.take k⟩, pagsD R.pl Y]) (B := [pagsD R.pl (Y ++ [⟨y.q, y.gn, y.L.take k⟩])]) (D := [cellsD (.slice Ac m.1.length cc) m.1, rowP (.slice (some ⟨bb, oo, none⟩) ((Y ++ [y]).map (·.q)).length c4) (((Y ++ [y]).map (·.q)).map some)]) hD (fun G h => pags_inl h)
    replace hD := hD.pick 1 rfl
    replace hD := hD.pick 1 rfl
    replace hD := hD.pick 2 rfl
    refine wp_seq (wp_region_lit ?_)
    refine lW (.agg #[.slice Ac m.1.length cc, .bool m.2]) he102 rfl (rn_ldp _ rfl (he102.op rfl) undL rfl infoL2 (hH100.at (i := 0) rfl) rfl) ?_
    intro a103 he103
    clear he102 a102
    refine lW (.int .i64 0) he103 rfl (rn_mv rfl (he103.op rfl) w100) ?_
    intro a104 he104
    clear he103 a103
    refine lSetF 2 #[.slice Ac m.1.length cc, .bool m.2] (cs := #[.slice Ac m.1.length cc, .bool m.2]) he104 hH100 rfl (wanted_plain rfl _) rfl rfl rfl rfl rfl (by kernel_rfl) (by kernel_rfl) (by kernel_rfl) rfl ?_
    intro w105 a106 hH105 hf he106
    replace hD := hD.setb (i := 2) rfl rfl hf
    replace hH105 : Hp (bare w) [⟨p44, 36, #[.slice Ac m.1.length cc, .bool m.2]⟩, ⟨p, 60, #[.slice (some ⟨bb, oo, none⟩) ((Y ++ [y]).map (·.q)).length c4, .int .i64 R.mo, .int .i64 R.pl, .int .i64 R.fi, .int .i64 ((R.fi + (R.L.length - 1) : Nat) : Int)]⟩, ⟨p1, 36, #[.slice Ac m.1.length cc, .bool m.2]⟩] w105 := hH105
    clear hf
    clear he104 a104 hH100
    refine lW (.int .i64 0) he106 rfl (rn_asg rfl (he106.op rfl) w105) ?_
    intro a107 he107
    clear he106 a106
    refine wpList_nil (then_ok ?_)
    have hH108 := hH105.tail rfl
    clear hH105
    replace hD := hD.tail
    have hn7 := hnx (Y.map PV.pg ++ [(y.gn, y.L.take k)]) hfl
    obtain ⟨T, hT9⟩ : ∃ T : RS, T = { R with P := Y.map PV.pg ++ [(y.gn, y.L.take k)] } := ⟨_, rfl⟩
    rw [← hT9] at hpop hn7 ⊢
    have hT1 : T.mo = R.mo ∧ T.pl = R.pl ∧ T.fi = R.fi ∧ ((Y ++ [⟨y.q, y.gn, y.L.take k⟩]) : List PV).map PV.pg = T.P := by subst hT9; exact ⟨rfl, rfl, rfl, (by simp)⟩
    obtain ⟨q1, q2, q3, q5⟩ := hT1
    have hBp := hH108.at (i := 0) rfl
    have e6 : ((Y ++ [y]).map (·.q)) = (((Y ++ [⟨y.q, y.gn, y.L.take k⟩] : List PV)).map (·.q)) := by simp
    simp only at hBp
    rw [e6] at hBp hD
    have hD2 := Dt.shut_ring (mo := (R.mo : Int)) (fi := (R.fi : Int)) (nx := ((R.fi + (R.L.length - 1) : Nat) : Int)) (pl := R.pl) (qs := ((Y ++ [⟨y.q, y.gn, y.L.take k⟩]) : List PV).map (·.q)) (X := (Y ++ [⟨y.q, y.gn, y.L.take k⟩])) hD hBp (Hp.notin hH108)
    replace hD := hD2
    clear hD2
    rw [← hn7, ← q1, ← q2, ← q3] at hD
    have hHz := hH108.tail rfl
    clear hH108 hBp
    replace hD := Dt.front (A := [rawD p (T.mo : Int) T.pl (T.fi : Int) (T.nx : Int) (((Y ++ [⟨y.q, y.gn, y.L.take k⟩]) : List PV).map (·.q)) (Y ++ [⟨y.q, y.gn, y.L.take k⟩])]) (B := [ringD p T]) (D := [cellsD (.slice Ac m.1.length cc) m.1]) hD (fun G h => ring_ok hpop (ring_shut q5 h))
    refine wp_ret ?_
    try simp only [Exit.then, Exit.inBlock, Exit.noGoto]
    exact ret_rowt rfl he107 rfl rfl (hHz.at (i := 0) rfl) undL rfl infoL2 ⟨Ac, cc, rfl, hD.turned⟩
set_option linter.unusedSimpArgs false in
set_option maxRecDepth 100000 in
set_option maxHeartbeats 1600000 in
theorem rGet (p : Nat) (R : RS) (i : Int) (F : FP) (w : World) (hs : (ringD p R).P w F) (hT : Tab w) : Calls Tryd.prog 44 #[.pointer (some ⟨p, 0, none⟩), .int .i64 i] w fun e w' => ∃ A' c', e = .returned (.tuple #[.agg #[.slice A' (getR R i).1.1.length c', .bool (getR R i).1.2], .int .i64 (getR R i).2]) ∧ Made [cellsD (.slice A' (getR R i).1.1.length c') (getR R i).1.1] w w' := by
  obtain ⟨hok, X, hX, hraw⟩ := id hs
  obtain ⟨A, c, G, hB, hsep, hG, hFp, hGp⟩ := id hraw
  obtain ⟨F1, F2, hrow, hpag, -⟩ := hsep
  have hrow : OwnO rPt w F1 (.slice A (X.map (·.q)).length c) ((X.map (·.q)).map some) := hrow
  have hpag : (pagsD R.pl X).P w F2 := hpag.the
  have hplz : ((R.pl : Int) == 0) = false := by have := hok.pl1; simp; omega
  have hnb : bigN = 1000000000 := rfl
  have hn8 := hok.nx
  have hnn : R.nx = R.fi + R.L.length := rfl
  refine calls_args (vl := [.pointer (some ⟨p, 0, none⟩), .int .i64 i]) 36 Tryd.func44 rfl Tryd.ntmps44 (by kernel_rfl) (fun a he => ?_)
  have he0 : Env 36 [(0, .pointer (some ⟨p, 0, none⟩)), (1, .int .i64 i)] a := he
  clear he
  have hH := Hp.bare1 hB
  have hD := Dt.read1 hT hB.lt
  refine wp_seq (wp_region_lit ?_)
  refine lNewP (fun p => .pointer (some ⟨p, 0, none⟩)) he0 hH rfl rfl (wanted_plain rfl _) (rn_allocL rfl w) ?_
  intro p1 w1 a2 hp hn hH1 he2
  replace hD := hD.cons hn hp (hH1.at (i := 0) rfl).lt
  clear he0 a hH hn hp
  refine lW (.int .i64 0) he2 rfl (rn_asg rfl (he2.op rfl) w1) ?_
  intro a3 he3
  clear he2 a2
  refine wpList_nil (then_ok ?_)
  refine wp_seq ?_
  refine wp_seq (wp_region_lit ?_)
  refine lW (.pointer (some ⟨p, 0, none⟩)) he3 rfl (rn_mv rfl (he3.op rfl) w1) ?_
  intro a4 he4
  clear he3 a3
  refine lC he4 rfl rfl Tryd.func45 (by kernel_rfl) rfl rfl (wanted_plain rfl _) rfl (rUnmade_f _ _ _ _ _ _ _ _ w1 (hH1.at (i := 1) rfl) hplz hD.tab) ?_
  intro w5 a6 hn he6
  have hH5 := hH1.call hn
  replace hD := (hD).new hn
  clear he4 a4 hH1 hn
  refine wpList_nil (then_ok ?_)
  refine wp_cond_false (he6.op rfl) ?_
  refine wp_skip ?_
  refine then_ok ?_
  refine wp_seq ?_
  refine wp_seq (wp_region_lit ?_)
  refine lW (.pointer (some ⟨p, 0, none⟩)) he6 rfl (rn_mv rfl (he6.op rfl) w5) ?_
  intro a7 he7
  clear he6 a6
  refine lW (.int .i64 i) he7 rfl (rn_mv rfl (he7.op rfl) w5) ?_
  intro a8 he8
  clear he7 a7
  refine lC he8 rfl rfl Tryd.func52 (by kernel_rfl) rfl rfl (wanted_plain rfl _) rfl (rMissing _ _ _ _ _ _ _ _ w5 (hH5.at (i := 1) rfl) i hD.tab) ?_
  intro w9 a10 hn he10
  have hH9 := hH5.call hn
  replace hD := (hD).new hn
  clear he8 a8 hH5 hn
  refine lW (.int .i64 (missR R i)) he10 rfl (rn_asg rfl (he10.op rfl) w9) ?_
  intro a11 he11
  clear he10 a10
  refine wpList_nil (then_ok ?_)
  by_cases hm : missR R i = 0
  · skip
    refine wp_seq (wp_region_lit ?_)
    refine lW (.int .i64 (missR R i)) he11 rfl (rn_mv rfl (he11.op rfl) w9) ?_
    intro a12 he12
    clear he11 a11
    refine lW (.bool false) he12 rfl (rn_neE rfl (he12.op rfl) (he12.op rfl) (by rw [hm]; rfl) w9) ?_
    intro a13 he13
    clear he12 a12
    refine wpList_nil (then_ok ?_)
    refine wp_cond_false (he13.op rfl) ?_
    refine wp_skip ?_
    refine then_ok ?_
    obtain ⟨k, rfl, hk⟩ := miss_zero hm
    obtain ⟨-, -, hf3⟩ := fnd_drop hok.pl1 R.P k hok.pg (Nat.le_of_lt hk)
    obtain ⟨z, hz, hzl, hzm, -⟩ := hf3 hk
    obtain ⟨pg, ix, hfd⟩ : ∃ a b, fndP R.pl (g0P R.P) k = (a, b) := ⟨_, _, rfl⟩
    rw [hfd] at hz hzl hzm
    simp only at hz hzl hzm
    rw [← hX, List.getElem?_map, Option.map_eq_some_iff] at hz
    obtain ⟨x, hx, rfl⟩ := hz
    obtain ⟨m, hLk⟩ : ∃ m, R.L[k]? = some m := ⟨_, List.getElem?_eq_getElem hk⟩
    have hxm : x.L[ix]? = some m := hzm.trans hLk
    rw [getR_t hm hLk]
    have hxl : ix < x.L.length := hzl
    have hgs : getS x.L (ix : Nat) = (m, 0) := by unfold getS; rw [if_pos (by omega), Int.toNat_natCast, List.getD_eq_getElem?_getD, hxm]; rfl
    obtain ⟨U_, _, hU_, -⟩ := pags_out hx (SepL.one hpag)
    have hU_ : (shD x.q x.L R.pl x.gn).P w U_ := hU_
    have hxpg : pg < X.length := (List.getElem?_eq_some_iff.1 hx).1
    have hqx : (X.map (·.q)).length = X.length := by simp
    obtain ⟨bb, hrd, -, -, -⟩ := hrow.rdg
    obtain ⟨oo, eA⟩ := hrd.base (by omega)
    subst eA
    replace hrd := RdG.new hrd hD.fr
    replace hU_ := (shD _ _ _ _).fr hU_ hD.fr (fun _ _ h => h)
    replace hraw := (rawD _ _ _ _ _ _ _).fr hraw hD.fr (fun _ _ h => h)
    have hgX : g0P (X.map PV.pg) = g0P R.P := by rw [hX]
    refine wp_seq (wp_region_lit ?_)
    refine lW (.pointer (some ⟨p, 0, none⟩)) he13 rfl (rn_mv rfl (he13.op rfl) w9) ?_
    intro a14 he14
    clear he13 a13
    refine lW (.int .i64 ((R.fi + k : Nat) : Int)) he14 rfl (rn_mv rfl (he14.op rfl) w9) ?_
    intro a15 he15
    clear he14 a14
    refine lC he15 rfl rfl Tryd.func46 (by kernel_rfl) rfl rfl (wanted_plain rfl _) rfl ((by have hc_ := rFind p R.pl k R.mo R.fi R.nx X F w9 hraw hok.pl1 hok.pl2 (by omega) (by omega) (by omega) hD.tab; rw [hgX, hfd] at hc_; exact hc_)) ?_
    intro w16 a17 hn he17
    have hH16 := hH9.call hn
    replace hD := (hD).new hn
    replace hrd := hrd.new hn
    replace hU_ := (shD _ _ _ _).fr hU_ hn (fun _ _ h => h)
    replace hraw := (rawD _ _ _ _ _ _ _).fr hraw hn (fun _ _ h => h)
    clear he15 a15 hH9 hn
    refine lW (.tuple #[.int .i64 pg, .int .i64 ix]) he17 rfl (rn_mv rfl (he17.op rfl) w16) ?_
    intro a18 he18
    clear he17 a17
    refine lW (.int .i64 pg) he18 rfl (rn_ext rfl (he18.op rfl) rfl w16) ?_
    intro a19 he19
    clear he18 a18
    refine lW (.int .i64 ix) he19 rfl (rn_ext rfl (he19.op rfl) rfl w16) ?_
    intro a20 he20
    clear he19 a19
    refine lW (.int .i64 pg) he20 rfl (rn_asg rfl (he20.op rfl) w16) ?_
    intro a21 he21
    clear he20 a20
    refine lW (.int .i64 ix) he21 rfl (rn_asg rfl (he21.op rfl) w16) ?_
    intro a22 he22
    clear he21 a21
    refine wpList_nil (then_ok ?_)
    refine wp_seq (wp_region_lit ?_)
    refine lW (.pointer (some ⟨p, 0, none⟩)) he22 rfl (rn_mv rfl (he22.op rfl) w16) ?_
    intro a23 he23
    clear he22 a22
    refine lW (.pointer (some ⟨p, 0, none⟩)) he23 rfl (rn_nilck rfl (he23.op rfl) w16) ?_
    intro a24 he24
    clear he23 a23
    refine lW (.pointer (some ⟨p, 0, none⟩)) he24 rfl (rn_faH0 rfl (he24.op rfl) rfl w16) ?_
    intro a25 he25
    clear he24 a24
    refine lW (.slice (some ⟨bb, oo, none⟩) (X.map (·.q)).length c) he25 rfl (rn_ldGps rfl (he25.op rfl) (hH16.at (i := 1) rfl) rfl) ?_
    intro a26 he26
    clear he25 a25
    refine lW (.int .i64 pg) he26 rfl (rn_mv rfl (he26.op rfl) w16) ?_
    intro a27 he27
    clear he26 a26
    refine lW (.pointer (some ⟨bb, oo + pg * 1, none⟩)) he27 rfl (rn_idxGp (i := pg) rfl (he27.op rfl) (he27.op rfl) (by omega) (by rw [addr_add]) w16) ?_
    intro a28 he28
    clear he27 a27
    refine lW (.pointer (some ⟨x.q, 0, none⟩)) he28 rfl (rn_ldPt (i := pg) rfl (he28.op rfl) hrd rfl (ptr_at hx)) ?_
    intro a29 he29
    clear he28 a28
    refine lW (.int .i64 ix) he29 rfl (rn_mv rfl (he29.op rfl) w16) ?_
    intro a30 he30
    clear he29 a29
    refine lCx he30 rfl rfl Tryd.func49 (by kernel_rfl) rfl rfl (wanted_plain rfl _) rfl ((by have hc_ := get_b U_ x.q R.pl x.gn x.L (ix : Nat) w16 hU_ hD.tab; rw [hgs] at hc_; exact hc_)) ?_
    rintro _ w31 ⟨Ac, cc, rfl, ht⟩
    have hD2 := hD.made ht
    have hH31 := hH16.call ht.new
    replace hrd := hrd.new ht.new
    replace hD := hD2
    clear hD2 ht
    refine ⟨_, rfl, ?_⟩
    intro a32 he32
    clear he30 a30 hH16
    refine lW (.agg #[.slice Ac m.1.length cc, .bool m.2]) he32 rfl (rn_ext rfl (he32.op rfl) rfl w31) ?_
    intro a33 he33
    clear he32 a32
    refine lW (.int .i64 0) he33 rfl (rn_ext rfl (he33.op rfl) rfl w31) ?_
    intro a34 he34
    clear he33 a33
    refine lSetF 0 #[.slice Ac m.1.length cc, .bool m.2] (cs := #[.slice Ac m.1.length cc, .bool m.2]) he34 hH31 rfl (wanted_plain rfl _) rfl rfl rfl rfl rfl (by kernel_rfl) (by kernel_rfl) (by kernel_rfl) rfl ?_
    intro w35 a36 hH35 hf he36
    replace hD := hD.setb (i := 0) rfl rfl hf
    replace hH35 : Hp (bare w) [⟨p1, 36, #[.slice Ac m.1.length cc, .bool m.2]⟩, ⟨p, 60, (rgCs (.slice (some ⟨bb, oo, none⟩) (X.map (·.q)).length c) (R.mo : Int) (R.pl : Int) (R.fi : Int) (R.nx : Int))⟩] w35 := hH35
    clear hf
    clear he34 a34 hH31
    refine lW (.int .i64 0) he36 rfl (rn_asg rfl (he36.op rfl) w35) ?_
    intro a37 he37
    clear he36 a36
    refine wpList_nil (then_ok ?_)
    refine wp_ret ?_
    try simp only [Exit.then, Exit.inBlock, Exit.noGoto]
    exact ret_rowt rfl he37 rfl rfl (hH35.at (i := 0) rfl) undL rfl infoL2 ⟨Ac, cc, rfl, hD.turned⟩
  refine wp_seq (wp_region_lit ?_)
  refine lW (.int .i64 (missR R i)) he11 rfl (rn_mv rfl (he11.op rfl) w9) ?_
  intro a38 he38
  clear he11 a11
  refine lW (.bool true) he38 rfl (rn_neE rfl (he38.op rfl) (he38.op rfl) (by rw [bne_iff_ne]; exact hm) w9) ?_
  intro a39 he39
  clear he38 a38
  refine wpList_nil (then_ok ?_)
  refine wp_cond_true (he39.op rfl) ?_
  refine wp_seq (wp_region_lit ?_)
  refine lW (.agg #[.slice none 0 0, .bool false]) he39 rfl (rn_bL rfl  w9) ?_
  intro a40 he40
  clear he39 a39
  refine lW (.int .i64 (missR R i)) he40 rfl (rn_mv rfl (he40.op rfl) w9) ?_
  intro a41 he41
  clear he40 a40
  refine lSetF 0 #[.slice none 0 0, .bool false] (cs := #[.slice none 0 0, .bool false]) he41 hH9 rfl (wanted_plain rfl _) rfl rfl rfl rfl rfl (by kernel_rfl) (by kernel_rfl) (by kernel_rfl) rfl ?_
  intro w42 a43 hH42 hf he43
  replace hD := hD.setb (i := 0) rfl rfl hf
  replace hH42 : Hp (bare w) [⟨p1, 36, #[.slice none 0 0, .bool false]⟩, ⟨p, 60, (rgCs (.slice A (X.map (·.q)).length c) (R.mo : Int) (R.pl : Int) (R.fi : Int) (R.nx : Int))⟩] w42 := hH42
  clear hf
  clear he41 a41 hH9
  refine lW (.int .i64 (missR R i)) he43 rfl (rn_asg rfl (he43.op rfl) w42) ?_
  intro a44 he44
  clear he43 a43
  refine wpList_nil (then_ok ?_)
  have e_ : getR R i = (zLn, missR R i) := if_neg hm
  rw [e_]
  replace hD := Dt.front (A := []) (B := [cellsD (.slice none 0 0) []]) (D := []) hD (fun G h => SepL.one (d := cellsD _ _) (cells_nil _ _))
  refine wp_ret ?_
  try simp only [Exit.then, Exit.inBlock, Exit.noGoto]
  exact ret_rowt rfl he44 rfl rfl (hH42.at (i := 0) rfl) undL rfl infoL2 ⟨none, 0, rfl, hD.turned⟩
set_option linter.unusedSimpArgs false in
set_option maxRecDepth 100000 in
set_option maxHeartbeats 1600000 in
theorem rSet (p : Nat) (R : RS) (i : Int) (x : Value) (l : List Ce) (s : Bool) (F : FP) (w : World) (hs : (ringD p R).P w F) (hx : SlC w x l) (hF : ∀ k, F k → 2 ≤ k ∧ k < w.heap.size) (hT : Tab w) : Calls Tryd.prog 26 #[.pointer (some ⟨p, 0, none⟩), .int .i64 i, .agg #[x, .bool s]] w fun e w' => e = .returned (.int .i64 (setR R i (l, s)).2) ∧ Turned [ringD p (setR R i (l, s)).1] F w w' := by
  obtain ⟨B, cb, b, e_, hcb, hr⟩ := id hx
  subst e_
  clear hr hcb
  refine calls_args (vl := [.pointer (some ⟨p, 0, none⟩), .int .i64 i, .agg #[.slice B l.length cb, .bool s]]) 39 Tryd.func26 rfl Tryd.ntmps26 (by kernel_rfl) (fun a he => ?_)
  have he0 : Env 39 [(0, .pointer (some ⟨p, 0, none⟩)), (1, .int .i64 i), (2, .agg #[.slice B l.length cb, .bool s])] a := he
  clear he
  have hH := Hp.bare w
  have hD := Dt.begin hT (SepL.one hs) hF
  have hok := hD.ring_ok
  replace hD := Dt.front (A := [ringD p R]) (B := [ringW p R]) (D := []) hD (fun G h => ring_w h)
  have hplz : ((R.pl : Int) == 0) = false := by have := hok.pl1; simp; omega
  have hset := set_rg (l := (l, s)) (n := i) hok
  have hnb : bigN = 1000000000 := rfl
  have hn8 := hok.nx
  have hnn : R.nx = R.fi + R.L.length := rfl
  refine wp_seq (wp_region_lit ?_)
  refine lNewP (fun p => .pointer (some ⟨p, 0, none⟩)) he0 hH rfl rfl (wanted_plain rfl _) (rn_boxL rfl (he0.op rfl) w) ?_
  intro p1 w1 a2 hp hn hH1 he2
  replace hD := hD.cons hn hp (hH1.at (i := 0) rfl).lt
  replace hx := hx.new hn
  clear he0 a hH hn hp
  refine lW (.int .i64 0) he2 rfl (rn_asg rfl (he2.op rfl) w1) ?_
  intro a3 he3
  clear he2 a2
  refine wpList_nil (then_ok ?_)
  obtain ⟨X, hX, hD2⟩ := hD.ring_raw
  replace hD := hD2
  clear hD2
  obtain ⟨A4, c4, hD2, hH4⟩ := Dt.open_ring hD hH1 rfl
  clear hD hH1
  have hD := hD2
  clear hD2
  refine wp_seq ?_
  refine wp_block ?_
  refine wp_seq (wp_region_lit ?_)
  refine lW (.pointer (some ⟨p, 0, none⟩)) he3 rfl (rn_mv rfl (he3.op rfl) w1) ?_
  intro a5 he5
  clear he3 a3
  refine lC he5 rfl rfl Tryd.func45 (by kernel_rfl) rfl rfl (wanted_plain rfl _) rfl (rUnmade_f _ _ _ _ _ _ _ _ w1 (hH4.at (i := 0) rfl) hplz hD.tab) ?_
  intro w6 a7 hn he7
  have hH6 := hH4.call hn
  replace hD := (hD).new hn
  replace hx := hx.new hn
  clear he5 a5 hH4 hn
  refine lW (.bool false) he7 rfl (rn_asg rfl (he7.op rfl) w6) ?_
  intro a8 he8
  clear he7 a7
  refine wpList_nil (then_ok ?_)
  refine wp_cond_false (he8.op rfl) ?_
  obtain ⟨v, hv⟩ : ∃ v, okL l = v := ⟨_, rfl⟩
  cases v with
  | false =>
    refine wp_seq (wp_region_lit ?_)
    refine lW (.agg #[.slice B l.length cb, .bool s]) he8 rfl (rn_ldp _ rfl (he8.op rfl) undL rfl infoL2 (hH6.at (i := 1) rfl) rfl) ?_
    intro a9 he9
    clear he8 a8
    refine lC he9 rfl rfl Tryd.func51 (by kernel_rfl) rfl rfl (wanted_plain rfl _) rfl (valid_s _ l s false hv w6 hx hD.tab) ?_
    intro w10 a11 hn he11
    have hH10 := hH6.call hn
    replace hD := (hD).new hn
    replace hx := hx.new hn
    clear he9 a9 hH6 hn
    refine lW (.bool true) he11 rfl (rn_not (b := false) rfl (he11.op rfl) w10) ?_
    intro a12 he12
    clear he11 a11
    refine lW (.bool true) he12 rfl (rn_asg rfl (he12.op rfl) w10) ?_
    intro a13 he13
    clear he12 a12
    refine wpList_nil (then_ok ?_)
    refine wp_cond_true (he13.op rfl) ?_
    refine wp_seq (wp_region_lit ?_)
    refine lW (.int .i64 2) he13 rfl (rn_asg rfl (he13.op rfl) w10) ?_
    intro a14 he14
    clear he13 a13
    refine wpList_nil (then_ok ?_)
    have e_ : setR R i (l, s) = (R, 2) := by unfold setR; rw [if_neg (by show ¬ okL l = true; rw [hv]; decide)]
    rw [e_]
    have hD2 := Dt.shut_ring (mo := (R.mo : Int)) (fi := (R.fi : Int)) (nx := (R.nx : Int)) (qs := (X.map (·.q))) (X := X) hD (hH10.at (i := 0) rfl) (Hp.notin hH10)
    replace hD := hD2
    clear hD2
    have hH15 := hH10.tail rfl
    clear hH10
    replace hD := Dt.front (A := [rawD p (R.mo : Int) R.pl (R.fi : Int) (R.nx : Int) (X.map (·.q)) X]) (B := [ringD p R]) (D := []) hD (fun G h => ring_ok hok (ring_shut hX h))
    refine wp_ret ?_
    try simp only [Exit.then, Exit.inBlock, Exit.noGoto]
    exact ret_env rfl he14 rfl ⟨rfl, hD.turned⟩
  | true =>
    refine wp_seq (wp_region_lit ?_)
    refine lW (.agg #[.slice B l.length cb, .bool s]) he8 rfl (rn_ldp _ rfl (he8.op rfl) undL rfl infoL2 (hH6.at (i := 1) rfl) rfl) ?_
    intro a16 he16
    clear he8 a8
    refine lC he16 rfl rfl Tryd.func51 (by kernel_rfl) rfl rfl (wanted_plain rfl _) rfl (valid_s _ l s true hv w6 hx hD.tab) ?_
    intro w17 a18 hn he18
    have hH17 := hH6.call hn
    replace hD := (hD).new hn
    replace hx := hx.new hn
    clear he16 a16 hH6 hn
    refine lW (.bool false) he18 rfl (rn_not (b := true) rfl (he18.op rfl) w17) ?_
    intro a19 he19
    clear he18 a18
    refine lW (.bool false) he19 rfl (rn_asg rfl (he19.op rfl) w17) ?_
    intro a20 he20
    clear he19 a19
    refine wpList_nil (then_ok ?_)
    refine wp_cond_false (he20.op rfl) ?_
    refine wp_skip ?_
    refine block_ok ?_
    refine then_ok ?_
    have he21 : Env 39 [(6, .int .i64 0), (5, .pointer (some ⟨p1, 0, none⟩)), (0, .pointer (some ⟨p, 0, none⟩)), (1, .int .i64 i)] a20 := he20.mem ⟨rfl, rfl, rfl, rfl, trivial⟩
    clear he20
    as_aux_lemma =>
      refine wp_seq ?_
      refine wp_seq (wp_region_lit ?_)
      refine lW (.pointer (some ⟨p, 0, none⟩)) he21 rfl (rn_mv rfl (he21.op rfl) w17) ?_
      intro a22 he22
      clear he21 a20
      refine lW (.int .i64 i) he22 rfl (rn_mv rfl (he22.op rfl) w17) ?_
      intro a23 he23
      clear he22 a22
      refine lC he23 rfl rfl Tryd.func52 (by kernel_rfl) rfl rfl (wanted_plain rfl _) rfl (rMissing _ _ _ _ _ _ _ _ w17 (hH17.at (i := 0) rfl) i hD.tab) ?_
      intro w24 a25 hn he25
      have hH24 := hH17.call hn
      replace hD := (hD).new hn
      replace hx := hx.new hn
      clear he23 a23 hH17 hn
      refine lW (.int .i64 (missR R i)) he25 rfl (rn_asg rfl (he25.op rfl) w24) ?_
      intro a26 he26
      clear he25 a25
      refine wpList_nil (then_ok ?_)
      by_cases hm : missR R i = 0
      · skip
        refine wp_seq (wp_region_lit ?_)
        refine lW (.int .i64 (missR R i)) he26 rfl (rn_mv rfl (he26.op rfl) w24) ?_
        intro a27 he27
        clear he26 a26
        refine lW (.bool false) he27 rfl (rn_neE rfl (he27.op rfl) (he27.op rfl) (by rw [hm]; rfl) w24) ?_
        intro a28 he28
        clear he27 a27
        refine wpList_nil (then_ok ?_)
        refine wp_cond_false (he28.op rfl) ?_
        refine wp_skip ?_
        refine then_ok ?_
        obtain ⟨k, rfl, hk⟩ := miss_zero hm
        obtain ⟨-, -, hf3⟩ := fnd_drop hok.pl1 R.P k hok.pg (Nat.le_of_lt hk)
        obtain ⟨z, hz, hzl, hzm, -⟩ := hf3 hk
        obtain ⟨pg, ix, hfd⟩ : ∃ a b, fndP R.pl (g0P R.P) k = (a, b) := ⟨_, _, rfl⟩
        rw [hfd] at hz hzl hzm
        simp only at hz hzl hzm
        have hzP := hz
        rw [← hX, List.getElem?_map, Option.map_eq_some_iff] at hz
        obtain ⟨x, hxx, rfl⟩ := hz
        have hxl : ix < x.L.length := hzl
        have hxpg : pg < X.length := (List.getElem?_eq_some_iff.1 hxx).1
        have hqx : (X.map (·.q)).length = X.length := by simp
        have e_ : setR R (R.fi + k : Nat) (l, s) = ({ R with P := R.P.set pg (x.gn, x.L.set ix (l, s)) }, 0) := by unfold setR; rw [if_pos hv, if_pos hm, show (((R.fi + k : Nat) : Int) - R.fi).toNat = k by omega, setP_at hfd hzP]
        rw [e_] at hset ⊢
        simp only at hset ⊢
        have hgX : g0P (X.map PV.pg) = g0P R.P := by rw [hX]
        have hD2 := Dt.shut_ring (mo := (R.mo : Int)) (fi := (R.fi : Int)) (nx := (R.nx : Int)) (qs := (X.map (·.q))) (X := X) hD (hH24.at (i := 0) rfl) (Hp.notin hH24)
        replace hD := hD2
        clear hD2
        have hH29 := hH24.tail rfl
        clear hH24
        obtain ⟨V_, hV_⟩ := hD.get (i := 0) rfl
        refine wp_seq (wp_region_lit ?_)
        refine lW (.pointer (some ⟨p, 0, none⟩)) he28 rfl (rn_mv rfl (he28.op rfl) w24) ?_
        intro a30 he30
        clear he28 a28
        refine lW (.int .i64 ((R.fi + k : Nat) : Int)) he30 rfl (rn_mv rfl (he30.op rfl) w24) ?_
        intro a31 he31
        clear he30 a30
        refine lC he31 rfl rfl Tryd.func46 (by kernel_rfl) rfl rfl (wanted_plain rfl _) rfl ((by have hc_ := rFind p R.pl k R.mo R.fi R.nx X V_ w24 hV_ hok.pl1 hok.pl2 (by omega) (by omega) (by omega) hD.tab; rw [hgX, hfd] at hc_; exact hc_)) ?_
        intro w32 a33 hn he33
        have hH32 := hH29.call hn
        replace hD := (hD).new hn
        replace hx := hx.new hn
        replace hV_ := (rawD _ _ _ _ _ _ _).fr hV_ hn (fun _ _ h => h)
        clear he31 a31 hH29 hn
        refine lW (.tuple #[.int .i64 pg, .int .i64 ix]) he33 rfl (rn_mv rfl (he33.op rfl) w32) ?_
        intro a34 he34
        clear he33 a33
        refine lW (.int .i64 pg) he34 rfl (rn_ext rfl (he34.op rfl) rfl w32) ?_
        intro a35 he35
        clear he34 a34
        refine lW (.int .i64 ix) he35 rfl (rn_ext rfl (he35.op rfl) rfl w32) ?_
        intro a36 he36
        clear he35 a35
        refine lW (.int .i64 pg) he36 rfl (rn_asg rfl (he36.op rfl) w32) ?_
        intro a37 he37
        clear he36 a36
        refine lW (.int .i64 ix) he37 rfl (rn_asg rfl (he37.op rfl) w32) ?_
        intro a38 he38
        clear he37 a37
        refine wpList_nil (then_ok ?_)
        clear hV_
        obtain ⟨A39, c39, hD2, hH39⟩ := Dt.open_ring hD hH32 rfl
        clear hD hH32
        have hD := hD2
        clear hD2
        obtain ⟨bb, hrd, -, hlc⟩ := hD.rdP (i := 0) rfl
        obtain ⟨oo, eA⟩ := hrd.base (by omega)
        subst eA
        clear hrd
        replace hD := hD.pick 1 rfl
        replace hD := Dt.front (A := [pagsD R.pl X]) (B := [pagD R.pl x, pagsD R.pl (X.eraseIdx pg)]) (D := [rowP (.slice (some ⟨bb, oo, none⟩) (X.map (·.q)).length c39) ((X.map (·.q)).map some)]) hD (fun G h => pags_out hxx h)
        refine wp_seq ?_
        have hn : New w32 (World.drew w32) := (Fr.refl _ _).drew
        replace hD := (hD).new hn
        replace hx := hx.new hn
        clear hn
        have hH40 := hH39.drew
        clear hH39
        refine wp_region_held_drew (S := fun W => Hp (bare w) [⟨p, 60, (rgCs (.slice (some ⟨bb, oo, none⟩) (X.map (·.q)).length c39) (R.mo : Int) (R.pl : Int) (R.fi : Int) (R.nx : Int))⟩, ⟨p1, 36, #[.slice B l.length cb, .bool s]⟩] W ∧ RdG rPt W bb (some ⟨bb, oo, none⟩) (X.map (·.q)).length ((X.map (·.q)).map some)) (by kernel_rfl) ⟨hH40, (hD.rdPb (i := 2) rfl)⟩ (fun _ => ?_)
        generalize World.drew w32 = w40 at *
        refine hW (fuel := 10) (i := 0) (.pointer (some ⟨p, 0, none⟩)) he38 rfl (by kernel_rfl) (fun _ _ _ h => h) (fun w' _ => rn_mv rfl (he38.op rfl) w') ⟨hH40, (hD.rdPb (i := 2) rfl)⟩ ?_
        intro a41 he41
        clear he38 a38
        refine hW (fuel := 9) (i := 1) (.pointer (some ⟨p, 0, none⟩)) he41 rfl (by kernel_rfl) (fun _ _ _ h => h) (fun w' _ => rn_nilck rfl (he41.op rfl) w') ⟨hH40, (hD.rdPb (i := 2) rfl)⟩ ?_
        intro a42 he42
        clear he41 a41
        refine hW (fuel := 8) (i := 2) (.pointer (some ⟨p, 0, none⟩)) he42 rfl (by kernel_rfl) (fun _ _ _ h => h) (fun w' _ => rn_faH0 rfl (he42.op rfl) rfl w') ⟨hH40, (hD.rdPb (i := 2) rfl)⟩ ?_
        intro a43 he43
        clear he42 a42
        refine hW (fuel := 7) (i := 3) (.slice (some ⟨bb, oo, none⟩) (X.map (·.q)).length c39) he43 rfl (by kernel_rfl) (fun _ _ _ h => h) (fun w' hw' => rn_ldGps rfl (he43.op rfl) (hw'.1.at (i := 0) rfl) rfl) ⟨hH40, (hD.rdPb (i := 2) rfl)⟩ ?_
        intro a44 he44
        clear he43 a43
        refine hW (fuel := 6) (i := 4) (.int .i64 pg) he44 rfl (by kernel_rfl) (fun _ _ _ h => h) (fun w' _ => rn_mv rfl (he44.op rfl) w') ⟨hH40, (hD.rdPb (i := 2) rfl)⟩ ?_
        intro a45 he45
        clear he44 a44
        refine hW (fuel := 5) (i := 5) (.pointer (some ⟨bb, oo + pg * 1, none⟩)) he45 rfl (by kernel_rfl) (fun _ _ _ h => h) (fun w' _ => rn_idxGp (i := pg) rfl (he45.op rfl) (he45.op rfl) (by omega) (by rw [addr_add]) w') ⟨hH40, (hD.rdPb (i := 2) rfl)⟩ ?_
        intro a46 he46
        clear he45 a45
        refine hW (fuel := 4) (i := 6) (.pointer (some ⟨x.q, 0, none⟩)) he46 rfl (by kernel_rfl) (fun _ _ _ h => h) (fun w' hw' => rn_ldPt (i := pg) rfl (he46.op rfl) hw'.2 rfl (ptr_at hxx)) ⟨hH40, (hD.rdPb (i := 2) rfl)⟩ ?_
        intro a47 he47
        clear he46 a46
        refine hW (fuel := 3) (i := 7) (.int .i64 ix) he47 rfl (by kernel_rfl) (fun _ _ _ h => h) (fun w' _ => rn_mv rfl (he47.op rfl) w') ⟨hH40, (hD.rdPb (i := 2) rfl)⟩ ?_
        intro a48 he48
        clear he47 a47
        refine hW (fuel := 2) (i := 8) (.agg #[.slice B l.length cb, .bool s]) he48 rfl (by kernel_rfl) (fun _ _ _ h => h) (fun w' hw' => rn_ldp _ rfl (he48.op rfl) undL rfl infoL2 (hw'.1.at (i := 1) rfl) rfl) ⟨hH40, (hD.rdPb (i := 2) rfl)⟩ ?_
        intro a49 he49
        clear he48 a48
        obtain ⟨F_, hsep, hF, hstep⟩ := Dt.step (A := [pagD R.pl x]) (D := [pagsD R.pl (X.eraseIdx pg), rowP (.slice (some ⟨bb, oo, none⟩) (X.map (·.q)).length c39) ((X.map (·.q)).map some)]) hD
        refine hC (fuel := 1) (i := 9) he49 (by kernel_rfl) rfl rfl rfl Tryd.func53 (by kernel_rfl) rfl rfl (wanted_plain rfl _) rfl ((by have hc_ := set_b F_ x.q R.pl x.gn x.L (ix : Nat) _ l s w40 hsep.the hF hD.tab hx; rw [show setS x.L (ix : Nat) (l, s) = (x.L.set ix (l, s), 0) from by unfold setS; rw [if_pos hv, if_pos (by omega)]; rfl] at hc_; exact hc_)) ?_
        rintro _ w50 ⟨rfl, ht⟩
        obtain ⟨hD2, hHs⟩ := hstep _ _ ht
        have hH50 := hHs _ rfl hH40
        clear hHs hstep hsep hF
        replace hD := hD2
        clear hD2 ht
        refine ⟨_, rfl, ⟨hH50, (hD.rdPb (i := 2) rfl)⟩, ?_⟩
        intro a51 he51
        clear he49 a49 hH40
        refine hW (fuel := 0) (i := 10) (.int .i64 0) he51 rfl (by kernel_rfl) (fun _ _ _ h => h) (fun w' _ => rn_asg rfl (he51.op rfl) w') ⟨hH50, (hD.rdPb (i := 2) rfl)⟩ ?_
        intro a52 he52
        clear he51 a51
        refine wpAnyH_done (by kernel_rfl) ?_ _
        refine then_ok ?_
        replace hD := Dt.front (A := [pagD R.pl ⟨x.q, x.gn, x.L.set ix (l, s)⟩, pagsD R.pl (X.eraseIdx pg)]) (B := [pagsD R.pl (X.set pg ⟨x.q, x.gn, x.L.set ix (l, s)⟩)]) (D := [rowP (.slice (some ⟨bb, oo, none⟩) (X.map (·.q)).length c39) ((X.map (·.q)).map some)]) hD (fun G h => pags_in hxpg h)
        replace hD := hD.pick 1 rfl
        have eq9 : (X.map (·.q)) = ((X.set pg ⟨x.q, x.gn, x.L.set ix (l, s)⟩).map (·.q)) := map_set_same hxx rfl
        have hBp := hH50.at (i := 0) rfl
        simp only at hBp
        rw [eq9] at hBp hD
        obtain ⟨T, hT9⟩ : ∃ T : RS, T = { R with P := R.P.set pg (x.gn, x.L.set ix (l, s)) } := ⟨_, rfl⟩
        rw [← hT9] at hset ⊢
        have hT1 : T.mo = R.mo ∧ T.pl = R.pl ∧ T.fi = R.fi ∧ (X.set pg ⟨x.q, x.gn, x.L.set ix (l, s)⟩).map PV.pg = T.P := by subst hT9; exact ⟨rfl, rfl, rfl, by rw [List.map_set, hX]⟩
        obtain ⟨q1, q2, q3, q5⟩ := hT1
        have hn7 : (T.nx : Int) = (R.nx : Int) := by have h9 := setP_flat (l := (l, s)) hok hk; rw [setP_at hfd hzP] at h9; subst hT9; show ((R.fi + (flatP (R.P.set pg (x.gn, x.L.set ix (l, s)))).length : Nat) : Int) = _; rw [h9, List.length_set]
        have hD2 := Dt.shut_ring (mo := (R.mo : Int)) (fi := (R.fi : Int)) (nx := (R.nx : Int)) (pl := R.pl) (qs := (X.set pg ⟨x.q, x.gn, x.L.set ix (l, s)⟩).map (·.q)) (X := (X.set pg ⟨x.q, x.gn, x.L.set ix (l, s)⟩)) hD hBp (Hp.notin hH50)
        replace hD := hD2
        clear hD2
        rw [← hn7, ← q1, ← q2, ← q3] at hD
        have hHz := hH50.tail rfl
        clear hH50 hBp
        replace hD := Dt.front (A := [rawD p (T.mo : Int) T.pl (T.fi : Int) (T.nx : Int) ((X.set pg ⟨x.q, x.gn, x.L.set ix (l, s)⟩).map (·.q)) (X.set pg ⟨x.q, x.gn, x.L.set ix (l, s)⟩)]) (B := [ringD p T]) (D := []) hD (fun G h => ring_ok hset (ring_shut q5 h))
        refine wp_ret ?_
        try simp only [Exit.then, Exit.inBlock, Exit.noGoto]
        exact ret_env rfl he52 rfl ⟨rfl, hD.turned⟩
      refine wp_seq (wp_region_lit ?_)
      refine lW (.int .i64 (missR R i)) he26 rfl (rn_mv rfl (he26.op rfl) w24) ?_
      intro a53 he53
      clear he26 a26
      refine lW (.bool true) he53 rfl (rn_neE rfl (he53.op rfl) (he53.op rfl) (by rw [bne_iff_ne]; exact hm) w24) ?_
      intro a54 he54
      clear he53 a53
      refine wpList_nil (then_ok ?_)
      refine wp_cond_true (he54.op rfl) ?_
      refine wp_seq (wp_region_lit ?_)
      refine lW (.int .i64 (missR R i)) he54 rfl (rn_mv rfl (he54.op rfl) w24) ?_
      intro a55 he55
      clear he54 a54
      refine lW (.int .i64 (missR R i)) he55 rfl (rn_asg rfl (he55.op rfl) w24) ?_
      intro a56 he56
      clear he55 a55
      refine wpList_nil (then_ok ?_)
      have e_ : setR R i (l, s) = (R, missR R i) := by unfold setR; rw [if_pos hv, if_neg hm]
      rw [e_]
      have hD2 := Dt.shut_ring (mo := (R.mo : Int)) (fi := (R.fi : Int)) (nx := (R.nx : Int)) (qs := (X.map (·.q))) (X := X) hD (hH24.at (i := 0) rfl) (Hp.notin hH24)
      replace hD := hD2
      clear hD2
      have hH57 := hH24.tail rfl
      clear hH24
      replace hD := Dt.front (A := [rawD p (R.mo : Int) R.pl (R.fi : Int) (R.nx : Int) (X.map (·.q)) X]) (B := [ringD p R]) (D := []) hD (fun G h => ring_ok hok (ring_shut hX h))
      refine wp_ret ?_
      try simp only [Exit.then, Exit.inBlock, Exit.noGoto]
      exact ret_env rfl he56 rfl ⟨rfl, hD.turned⟩
end Go.Proofs.YtlpjhaghphmbeaaDoor
