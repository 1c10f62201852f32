/-
  Package ring: Copy, Range.
-/
import Derived.Test.YtlpjhaghphmbeaaDoorREach
namespace Go.Proofs.YtlpjhaghphmbeaaDoor
open Go.RowKit

set_option linter.unusedSimpArgs false in
set_option maxRecDepth 100000 in
set_option maxHeartbeats 1600000 in
theorem rCopy (p : Nat) (R : RS) (F : FP) (w : World) (hs : (ringD p R).P w F) (hT : Tab w) : Calls Tryd.prog 30 #[.pointer (some ⟨p, 0, none⟩)] w fun e w' => ∃ q, e = .returned (.pointer (some ⟨q, 0, none⟩)) ∧ Made [ringD q R] w w' := by
  obtain ⟨hok, X, hX, hraw⟩ := id hs
  obtain ⟨A, c, G, hB, hsep, hG, hFp, hGp⟩ := id hraw
  obtain ⟨F1, F2, hrow, hpag, -⟩ := hsep
  have hrow : OwnO rPt w F1 (.slice A (X.map (·.q)).length c) ((X.map (·.q)).map some) := hrow
  have hpag : (pagsD R.pl X).P w F2 := hpag.the
  have hplz : ((R.pl : Int) == 0) = false := by have := hok.pl1; simp; omega
  have hnb : bigN = 1000000000 := rfl
  have hn8 := hok.nx
  have hnn : R.nx = R.fi + R.L.length := rfl
  have hqx : (X.map (·.q)).length = X.length := by simp
  have hXl : X.length ≤ 3000000 := by have h1 := hok.pg.len_le; have h2 : (flatP R.P).length ≤ R.mo := hok.len; have := hok.mo; have h3 := congrArg List.length hX; simp at h3; omega
  refine calls_envM (vl := [.pointer (some ⟨p, 0, none⟩)]) 43 Tryd.func30 rfl Tryd.ntmps30 (by kernel_rfl) (fun a he => ?_)
  have he0 : Env 43 [(0, .pointer (some ⟨p, 0, none⟩))] a := he
  clear he
  have hH := Hp.bare1 hB
  have hD := Dt.read1 hT hB.lt
  refine wp_seq (wp_region_lit ?_)
  refine lW (.pointer none) he0 rfl (rn_asg rfl (he0.op rfl) w) ?_
  intro a1 he1
  clear he0 a
  refine wpList_nil (then_ok ?_)
  refine wp_seq ?_
  refine wp_seq (wp_region_lit ?_)
  refine lW (.pointer (some ⟨p, 0, none⟩)) he1 rfl (rn_mv rfl (he1.op rfl) w) ?_
  intro a2 he2
  clear he1 a1
  refine lC he2 rfl rfl Tryd.func45 (by kernel_rfl) rfl rfl (wanted_plain rfl _) rfl (rUnmade_f _ _ _ _ _ _ _ _ w (hH.at (i := 0) rfl) hplz hD.tab) ?_
  intro w3 a4 hn he4
  have hH3 := hH.call hn
  replace hD := (hD).new hn
  clear he2 a2 hH hn
  refine wpList_nil (then_ok ?_)
  refine wp_cond_false (he4.op rfl) ?_
  refine wp_skip ?_
  refine then_ok ?_
  refine wp_seq ?_
  refine wp_region_held_drew (S := Hp (bare w) [⟨p, 60, (rgCs (.slice A (X.map (·.q)).length c) (R.mo : Int) (R.pl : Int) (R.fi : Int) (R.nx : Int))⟩]) (by kernel_rfl) (hH3.drew) (fun _ => ?_)
  have hn : New w3 (World.drew w3) := (Fr.refl _ _).drew
  replace hD := (hD).new hn
  clear hn
  have hH5 := hH3.drew
  clear hH3
  generalize World.drew w3 = w5 at *
  refine hW (fuel := 19) (i := 0) (.pointer (some ⟨p, 0, none⟩)) he4 rfl (by kernel_rfl) (fun _ _ _ h => h) (fun w' _ => rn_mv rfl (he4.op rfl) w') hH5 ?_
  intro a6 he6
  clear he4 a4
  refine hW (fuel := 18) (i := 1) (.pointer (some ⟨p, 0, none⟩)) he6 rfl (by kernel_rfl) (fun _ _ _ h => h) (fun w' _ => rn_nilck rfl (he6.op rfl) w') hH5 ?_
  intro a7 he7
  clear he6 a6
  refine hW (fuel := 17) (i := 2) (.pointer (some ⟨p, 1, none⟩)) he7 rfl (by kernel_rfl) (fun _ _ _ h => h) (fun w' _ => rn_faH1 rfl (he7.op rfl) rfl w') hH5 ?_
  intro a8 he8
  clear he7 a7
  refine hW (fuel := 16) (i := 3) (.int .i64 R.mo) he8 rfl (by kernel_rfl) (fun _ _ _ h => h) (fun w' hw' => rn_ld1 rfl (he8.op rfl) Tryd.underlying3 (hw'.at (i := 0) rfl) rfl) hH5 ?_
  intro a9 he9
  clear he8 a8
  refine hW (fuel := 15) (i := 4) (.pointer (some ⟨p, 0, none⟩)) he9 rfl (by kernel_rfl) (fun _ _ _ h => h) (fun w' _ => rn_mv rfl (he9.op rfl) w') hH5 ?_
  intro a10 he10
  clear he9 a9
  refine hW (fuel := 14) (i := 5) (.pointer (some ⟨p, 0, none⟩)) he10 rfl (by kernel_rfl) (fun _ _ _ h => h) (fun w' _ => rn_nilck rfl (he10.op rfl) w') hH5 ?_
  intro a11 he11
  clear he10 a10
  refine hW (fuel := 13) (i := 6) (.pointer (some ⟨p, 2, none⟩)) he11 rfl (by kernel_rfl) (fun _ _ _ h => h) (fun w' _ => rn_faH2 rfl (he11.op rfl) rfl w') hH5 ?_
  intro a12 he12
  clear he11 a11
  refine hW (fuel := 12) (i := 7) (.int .i64 R.pl) he12 rfl (by kernel_rfl) (fun _ _ _ h => h) (fun w' hw' => rn_ld1 rfl (he12.op rfl) Tryd.underlying3 (hw'.at (i := 0) rfl) rfl) hH5 ?_
  intro a13 he13
  clear he12 a12
  refine hW (fuel := 11) (i := 8) (.pointer (some ⟨p, 0, none⟩)) he13 rfl (by kernel_rfl) (fun _ _ _ h => h) (fun w' _ => rn_mv rfl (he13.op rfl) w') hH5 ?_
  intro a14 he14
  clear he13 a13
  refine hW (fuel := 10) (i := 9) (.pointer (some ⟨p, 0, none⟩)) he14 rfl (by kernel_rfl) (fun _ _ _ h => h) (fun w' _ => rn_nilck rfl (he14.op rfl) w') hH5 ?_
  intro a15 he15
  clear he14 a14
  refine hW (fuel := 9) (i := 10) (.pointer (some ⟨p, 3, none⟩)) he15 rfl (by kernel_rfl) (fun _ _ _ h => h) (fun w' _ => rn_faH3 rfl (he15.op rfl) rfl w') hH5 ?_
  intro a16 he16
  clear he15 a15
  refine hW (fuel := 8) (i := 11) (.int .i64 R.fi) he16 rfl (by kernel_rfl) (fun _ _ _ h => h) (fun w' hw' => rn_ld1 rfl (he16.op rfl) Tryd.underlying3 (hw'.at (i := 0) rfl) rfl) hH5 ?_
  intro a17 he17
  clear he16 a16
  refine hW (fuel := 7) (i := 12) (.pointer (some ⟨p, 0, none⟩)) he17 rfl (by kernel_rfl) (fun _ _ _ h => h) (fun w' _ => rn_mv rfl (he17.op rfl) w') hH5 ?_
  intro a18 he18
  clear he17 a17
  refine hW (fuel := 6) (i := 13) (.pointer (some ⟨p, 0, none⟩)) he18 rfl (by kernel_rfl) (fun _ _ _ h => h) (fun w' _ => rn_nilck rfl (he18.op rfl) w') hH5 ?_
  intro a19 he19
  clear he18 a18
  refine hW (fuel := 5) (i := 14) (.pointer (some ⟨p, 4, none⟩)) he19 rfl (by kernel_rfl) (fun _ _ _ h => h) (fun w' _ => rn_faH4 rfl (he19.op rfl) rfl w') hH5 ?_
  intro a20 he20
  clear he19 a19
  refine hW (fuel := 4) (i := 15) (.int .i64 R.nx) he20 rfl (by kernel_rfl) (fun _ _ _ h => h) (fun w' hw' => rn_ld1 rfl (he20.op rfl) Tryd.underlying3 (hw'.at (i := 0) rfl) rfl) hH5 ?_
  intro a21 he21
  clear he20 a20
  refine hW (fuel := 3) (i := 16) (.agg #[.slice none 0 0, .int .i64 R.mo, .int .i64 R.pl, .int .i64 R.fi, .int .i64 R.nx]) he21 rfl (by kernel_rfl) (fun _ _ _ h => h) (fun w' _ => rn_bH1234 rfl (he21.op rfl) (he21.op rfl) (he21.op rfl) (he21.op rfl) w') hH5 ?_
  intro a22 he22
  clear he21 a21
  have he23 : Env 43 [(23, .agg #[.slice none 0 0, .int .i64 R.mo, .int .i64 R.pl, .int .i64 R.fi, .int .i64 R.nx]), (2, .pointer none), (0, .pointer (some ⟨p, 0, none⟩))] a22 := he22.mem ⟨rfl, rfl, rfl, trivial⟩
  clear he22
  refine hPair (fuel := 1) (i := 17) (j := 18) (fun aI wI => ∃ (qc qb : Nat), Env 43 [(3, .pointer (some ⟨qb, 0, none⟩)), (24, .pointer (some ⟨qc, 0, none⟩)), (23, .agg #[.slice none 0 0, .int .i64 R.mo, .int .i64 R.pl, .int .i64 R.fi, .int .i64 R.nx]), (2, .pointer none), (0, .pointer (some ⟨p, 0, none⟩))] aI ∧ Hp (bare w) [⟨qc, 60, #[.slice none 0 0, .int .i64 R.mo, .int .i64 R.pl, .int .i64 R.fi, .int .i64 R.nx]⟩, ⟨qb, 25, #[.pointer none]⟩, ⟨p, 60, (rgCs (.slice A (X.map (·.q)).length c) (R.mo : Int) (R.pl : Int) (R.fi : Int) (R.nx : Int))⟩] wI ∧ Dt (bare w) w (fun _ => False) 1 [qc, qb, p] [] wI) (by decide) (by kernel_rfl) (by kernel_rfl) (by kernel_rfl) ?_ ?_ ?_
  · skip
    refine kNewP (i := 17) (fun p => .pointer (some ⟨p, 0, none⟩)) he23 hH5 rfl rfl rfl (wanted_plain rfl _) (rn_boxH rfl (he23.op rfl) w5) ?_
    intro p24 w24 a25 hp hn hH24 he25
    replace hD := hD.cons hn hp (hH24.at (i := 0) rfl).lt
    refine ⟨(hH24.drop1 0 rfl), ?_⟩
    clear he23 a22 hH5 hn hp
    refine kNewP (i := 18) (fun p => .pointer (some ⟨p, 0, none⟩)) he25 hH24 rfl rfl rfl (wanted_plain rfl _) (rn_all1p rfl w24) ?_
    intro p26 w26 a27 hp hn hH26 he27
    replace hD := hD.cons hn hp (hH26.at (i := 0) rfl).lt
    refine ⟨((hH26.drop1 1 rfl).drop1 0 rfl), ?_⟩
    clear he25 a25 hH24 hn hp
    exact ⟨p24, p26, he27.mem ⟨rfl, rfl, rfl, rfl, rfl, trivial⟩, hH26.swap, hD.swap⟩
  · skip
    refine kNewP (i := 18) (fun p => .pointer (some ⟨p, 0, none⟩)) he23 hH5 rfl rfl rfl (wanted_plain rfl _) (rn_all1p rfl w5) ?_
    intro p28 w28 a29 hp hn hH28 he29
    replace hD := hD.cons hn hp (hH28.at (i := 0) rfl).lt
    refine ⟨(hH28.drop1 0 rfl), ?_⟩
    clear he23 a22 hH5 hn hp
    refine kNewP (i := 17) (fun p => .pointer (some ⟨p, 0, none⟩)) he29 hH28 rfl rfl rfl (wanted_plain rfl _) (rn_boxH rfl (he29.op rfl) w28) ?_
    intro p30 w30 a31 hp hn hH30 he31
    replace hD := hD.cons hn hp (hH30.at (i := 0) rfl).lt
    refine ⟨((hH30.drop1 1 rfl).drop1 0 rfl), ?_⟩
    clear he29 a29 hH28 hn hp
    exact ⟨p30, p28, he31.mem ⟨rfl, rfl, rfl, rfl, rfl, trivial⟩, hH30, hD⟩
  clear he23 hH5 hD
  rintro aI wI ⟨qc, qb, heI, hHI, hD⟩
  refine hSetV (fuel := 0) (n := 19) 1 #[.pointer (some ⟨qc, 0, none⟩)] (cs := #[.pointer (some ⟨qc, 0, none⟩)]) heI hHI (by kernel_rfl) rfl rfl (wanted_plain rfl _) rfl rfl rfl rfl rfl (by kernel_rfl) (by kernel_rfl) (by kernel_rfl) rfl ?_
  intro w32 a33 hH32 hf he33
  replace hD := hD.setb (i := 1) rfl rfl hf
  replace hH32 : Hp (bare w) [⟨qc, 60, #[.slice none 0 0, .int .i64 R.mo, .int .i64 R.pl, .int .i64 R.fi, .int .i64 R.nx]⟩, ⟨qb, 25, #[.pointer (some ⟨qc, 0, none⟩)]⟩, ⟨p, 60, (rgCs (.slice A (X.map (·.q)).length c) (R.mo : Int) (R.pl : Int) (R.fi : Int) (R.nx : Int))⟩] w32 := hH32
  refine ⟨((hH32.drop1 1 rfl).drop1 0 rfl), ?_⟩
  clear hf
  clear heI aI hHI
  refine wpAnyH_done (by kernel_rfl) ?_ _
  refine then_ok ?_
  refine wp_seq ?_
  refine wp_seq (wp_region_lit ?_)
  refine lW (.pointer (some ⟨p, 0, none⟩)) he33 rfl (rn_mv rfl (he33.op rfl) w32) ?_
  intro a34 he34
  clear he33 a33
  refine lW (.pointer (some ⟨p, 0, none⟩)) he34 rfl (rn_nilck rfl (he34.op rfl) w32) ?_
  intro a35 he35
  clear he34 a34
  refine lW (.pointer (some ⟨p, 0, none⟩)) he35 rfl (rn_faH0 rfl (he35.op rfl) rfl w32) ?_
  intro a36 he36
  clear he35 a35
  refine lW (.slice A (X.map (·.q)).length c) he36 rfl (rn_ldGps rfl (he36.op rfl) (hH32.at (i := 2) rfl) rfl) ?_
  intro a37 he37
  clear he36 a36
  refine lW (Value.func (.func 47) #[.slice A (X.map (·.q)).length c] #[]) he37 rfl (rn_mkF rfl (he37.op rfl) w32) ?_
  intro a38 he38
  clear he37 a37
  refine wpList_nil (then_ok ?_)
  have he39 : Env 43 [(29, Value.func (.func 47) #[.slice A (X.map (·.q)).length c] #[]), (3, .pointer (some ⟨qb, 0, none⟩))] a38 := he38.mem ⟨rfl, rfl, trivial⟩
  clear he38
  refine wp_block ?_
  refine wp_each (N := 43) (s := 4) (Fv := [(29, Value.func (.func 47) #[.slice A (X.map (·.q)).length c] #[]), (3, .pointer (some ⟨qb, 0, none⟩))]) A c (X.map (·.q)) (by omega) he39 rfl rfl (fun l q W a0 K he hK => ?_) (fun fn df l w1 rc hM => ?_)
  · skip
    refine rlit_in (by kernel_rfl) (fun ⟨_, _, h⟩ => h) ?_
    refine lW (.pointer (some ⟨q, 0, none⟩)) he rfl (rn_asg rfl (he.op rfl) W) ?_
    intro a40 he40
    clear he a0
    refine wpList_nil (then_ok ?_)
    exact hK _ he40
  have hD1 := hD.made hM
  clear hD
  have hH1 : Hp (bare w) [⟨qc, 60, #[.slice none 0 0, .int .i64 R.mo, .int .i64 R.pl, .int .i64 R.fi, .int .i64 R.nx]⟩, ⟨qb, 25, #[.pointer (some ⟨qc, 0, none⟩)]⟩, ⟨p, 60, (rgCs (.slice A (X.map (·.q)).length c) (R.mo : Int) (R.pl : Int) (R.fi : Int) (R.nx : Int))⟩] w1 := hH32.call hM.new
  clear hH32 he39 hM
  refine ⟨fun i x W => ∃ (A2 : Option Addr) (c2 : Nat) (Z : List PV), Z.map PV.pg = (X.take i).map PV.pg ∧ Hp (bare w) [⟨qc, 60, rgCs (.slice A2 (Z.map (fun x : PV => x.q)).length c2) (R.mo : Int) (R.pl : Int) (R.fi : Int) (R.nx : Int)⟩, ⟨qb, 25, #[.pointer (some ⟨qc, 0, none⟩)]⟩, ⟨p, 60, (rgCs (.slice A (X.map (fun x : PV => x.q)).length c) (R.mo : Int) (R.pl : Int) (R.fi : Int) (R.nx : Int))⟩] W ∧ Dt (bare w) w (fun _ => False) 1 [qc, qb, p] [objD l x, dfD df, rowP (.slice A2 (Z.map (fun x : PV => x.q)).length c2) ((Z.map (fun x : PV => x.q)).map some), pagsD R.pl Z] W, fun _ _ => False, ⟨none, 0, [], rfl, hH1, ?_⟩, fun i x W hJ => ?_, fun x W h => h.elim, fun i q W a1 hq hJ he1 => ?_, fun W a' hJ he' => ?_, fun W a' h => h.elim⟩
  · skip
    replace hD1 := Dt.front (A := []) (B := [rowP (.slice none 0 0) [], pagsD R.pl []]) (D := [objD l (rc .ready none), dfD df]) hD1 (sep_nilP _)
    exact (hD1.pick 3 rfl).pick 3 rfl
  · obtain ⟨A2, c2, Z, hZ, hH2, hD2⟩ := hJ
    refine ⟨hD2.obj, fun y => ⟨A2, c2, Z, hZ, (hD2.putObj y).2 _ rfl hH2, (hD2.putObj y).1⟩, ?_⟩
    obtain ⟨b, hr, -⟩ := hrow.rdg
    exact ⟨b, RdG.new hr hD2.fr⟩
  · skip
    obtain ⟨A2, c2, Z, hZ, hH2, hD⟩ := hJ
    clear hH1 hD1
    obtain ⟨x, hx, hxq⟩ : ∃ x, X[i]? = some x ∧ x.q = q := by rw [List.getElem?_map, Option.map_eq_some_iff] at hq; exact hq
    subst hxq
    have hZl : Z.length ≤ 3000000 := by have h1 := congrArg List.length hZ; simp at h1; omega
    obtain ⟨U_, _, hU_, -⟩ := pags_out hx (SepL.one hpag)
    have hU_ : (shD x.q x.L R.pl x.gn).P w U_ := hU_
    replace hU_ := (shD _ _ _ _).fr hU_ hD.fr (fun _ _ h => h)
    refine wpIn_block ?_
    refine rsplit1_in (S := Hp (bare w) [⟨qc, 60, (rgCs (.slice A2 (Z.map (·.q)).length c2) (R.mo : Int) (R.pl : Int) (R.fi : Int) (R.nx : Int))⟩, ⟨qb, 25, #[.pointer (some ⟨qc, 0, none⟩)]⟩, ⟨p, 60, (rgCs (.slice A (X.map (·.q)).length c) (R.mo : Int) (R.pl : Int) (R.fi : Int) (R.nx : Int))⟩]) (by kernel_rfl) (fun ⟨_, _, h⟩ => h) 9 3 (by kernel_rfl) (by kernel_rfl) (by kernel_rfl) ?_
    have hn : New W (World.drew W) := (Fr.refl _ _).drew
    replace hD := (hD).new hn
    replace hU_ := (shD _ _ _ _).fr hU_ hn (fun _ _ h => h)
    clear hn
    have hH41 := hH2.drew
    clear hH2
    generalize World.drew W = w41 at *
    refine hW (fuel := 8) (i := 0) (.pointer (some ⟨qc, 0, none⟩)) he1 rfl (by kernel_rfl) (fun _ _ _ h => h) (fun w' hw' => rn_ldPr rfl (he1.op rfl) (hw'.at (i := 1) rfl) rfl) hH41 ?_
    intro a42 he42
    clear he1 a1
    refine hW (fuel := 7) (i := 1) (.pointer (some ⟨qc, 0, none⟩)) he42 rfl (by kernel_rfl) (fun _ _ _ h => h) (fun w' hw' => rn_ldPr rfl (he42.op rfl) (hw'.at (i := 1) rfl) rfl) hH41 ?_
    intro a43 he43
    clear he42 a42
    refine hW (fuel := 6) (i := 2) (.pointer (some ⟨qc, 0, none⟩)) he43 rfl (by kernel_rfl) (fun _ _ _ h => h) (fun w' _ => rn_nilck rfl (he43.op rfl) w') hH41 ?_
    intro a44 he44
    clear he43 a43
    refine hW (fuel := 5) (i := 3) (.pointer (some ⟨qc, 0, none⟩)) he44 rfl (by kernel_rfl) (fun _ _ _ h => h) (fun w' _ => rn_faH0 rfl (he44.op rfl) rfl w') hH41 ?_
    intro a45 he45
    clear he44 a44
    refine hW (fuel := 4) (i := 4) (.slice A2 (Z.map (·.q)).length c2) he45 rfl (by kernel_rfl) (fun _ _ _ h => h) (fun w' hw' => rn_ldGps rfl (he45.op rfl) (hw'.at (i := 0) rfl) rfl) hH41 ?_
    intro a46 he46
    clear he45 a45
    refine hW (fuel := 3) (i := 5) (.pointer (some ⟨x.q, 0, none⟩)) he46 rfl (by kernel_rfl) (fun _ _ _ h => h) (fun w' _ => rn_mv rfl (he46.op rfl) w') hH41 ?_
    intro a47 he47
    clear he46 a46
    refine hC (fuel := 2) (i := 6) he47 (by kernel_rfl) rfl rfl rfl Tryd.func55 (by kernel_rfl) rfl rfl (wanted_plain rfl _) rfl (copy_b U_ x.q R.pl x.gn x.L w41 hU_ hD.tab) ?_
    rintro _ w48 ⟨qn, rfl, ht⟩
    have hD2 := hD.made ht
    have hH48 := hH41.call ht.new
    replace hD := hD2
    clear hD2 ht
    refine ⟨_, rfl, hH48, ?_⟩
    intro a49 he49
    clear he47 a47 hH41
    refine hNewP (fuel := 1) (i := 7) (fun p => .slice (some ⟨p, 0, none⟩) 1 1) he49 hH48 (by kernel_rfl) rfl rfl rfl (wanted_plain rfl _) (rn_bsGp1 rfl (he49.op rfl) w48) ?_
    intro p50 w50 a51 hp hn hH50 he51
    replace hD := hD.cons hn hp (hH50.at (i := 0) rfl).lt
    refine ⟨(hH50.drop1 0 rfl), ?_⟩
    clear he49 a49 hH48 hn hp
    replace hD := hD.pick 3 rfl
    obtain ⟨F_, hsep, hF, hstep⟩ := Dt.step (A := [rowP (.slice A2 (Z.map (·.q)).length c2) ((Z.map (·.q)).map some)]) (D := [pagD R.pl ⟨qn, x.gn, x.L⟩, objD l (rc .busy none), dfD df, pagsD R.pl Z]) hD
    refine hEx (fuel := 0) (i := 8) he51 (by kernel_rfl) rfl rfl rfl (wanted_plain rfl _) (app_p (u := some qn) (M := ((Z ++ [(⟨qn, x.gn, x.L⟩ : PV)]).map (·.q)).length) hsep.the (rdg_blk (R := rPt) (l := [some qn]) (hH50.at (i := 0) rfl) rfl rfl) (by simp) (by simp; omega) rfl (he51.op rfl) (he51.op rfl)) ?_
    rintro _ w52 ⟨A3, c3, rfl, ht⟩
    obtain ⟨hD2, hHs⟩ := hstep _ _ ht
    have hH52 := hHs _ rfl hH50
    clear hHs hstep hsep hF
    replace hD := hD2
    clear hD2 ht
    refine ⟨(hH52.drop1 0 rfl), ?_⟩
    intro a53 he53
    clear he51 a51 hH50
    refine wpAnyH_done (by kernel_rfl) ?_ _
    refine head_done ?_
    refine hW (fuel := 2) (i := 9) (.pointer (some ⟨qc, 0, none⟩)) he53 rfl (by kernel_rfl) (fun _ _ _ h => h) (fun w' _ => rn_nilck rfl (he53.op rfl) w') trivial ?_
    intro a54 he54
    clear he53 a53
    refine hW (fuel := 1) (i := 10) (.pointer (some ⟨qc, 0, none⟩)) he54 rfl (by kernel_rfl) (fun _ _ _ h => h) (fun w' _ => rn_faH0 rfl (he54.op rfl) rfl w') trivial ?_
    intro a55 he55
    clear he54 a54
    refine hSetV (fuel := 0) (n := 11) 1 #[.slice A3 ((Z ++ [(⟨qn, x.gn, x.L⟩ : PV)]).map (·.q)).length c3] (cs := #[.slice A3 ((Z ++ [(⟨qn, x.gn, x.L⟩ : PV)]).map (·.q)).length c3, .int .i64 R.mo, .int .i64 R.pl, .int .i64 R.fi, .int .i64 R.nx]) he55 hH52 (by kernel_rfl) rfl rfl (wanted_plain rfl _) rfl rfl rfl rfl rfl (by kernel_rfl) (by kernel_rfl) (by kernel_rfl) rfl ?_
    intro w56 a57 hH56 hf he57
    replace hD := hD.setb (i := 1) rfl rfl hf
    replace hH56 : Hp (bare w) [⟨p50, 99, #[.pointer (some ⟨qn, 0, none⟩)]⟩, ⟨qc, 60, #[.slice A3 ((Z ++ [(⟨qn, x.gn, x.L⟩ : PV)]).map (·.q)).length c3, .int .i64 R.mo, .int .i64 R.pl, .int .i64 R.fi, .int .i64 R.nx]⟩, ⟨qb, 25, #[.pointer (some ⟨qc, 0, none⟩)]⟩, ⟨p, 60, (rgCs (.slice A (X.map (·.q)).length c) (R.mo : Int) (R.pl : Int) (R.fi : Int) (R.nx : Int))⟩] w56 := hH56
    refine ⟨trivial, ?_⟩
    clear hf
    clear he55 a55 hH52
    refine wpAnyH_done (by kernel_rfl) ?_ _
    try simp only [Exit.then, Exit.inBlock, if_true]
    have hH58 := hH56.tail rfl
    clear hH56
    replace hD := hD.tail
    have e8 : (Z.map (·.q)).map some ++ [some qn] = ((Z ++ [(⟨qn, x.gn, x.L⟩ : PV)]).map (·.q)).map some := by simp
    rw [e8] at hD
    replace hD := hD.pick 3 rfl
    replace hD := hD.pick 3 rfl
    replace hD := hD.pick 3 rfl
    replace hD := hD.pick 4 rfl
    replace hD := Dt.front (A := [pagsD R.pl Z, pagD R.pl ⟨qn, x.gn, x.L⟩]) (B := [pagsD R.pl (Z ++ [(⟨qn, x.gn, x.L⟩ : PV)])]) (D := [objD l (rc .busy none), dfD df, rowP (.slice A3 ((Z ++ [(⟨qn, x.gn, x.L⟩ : PV)]).map (·.q)).length c3) (((Z ++ [(⟨qn, x.gn, x.L⟩ : PV)]).map (·.q)).map some)]) hD (fun G h => pags_snoc h)
    replace hD := hD.pick 3 rfl
    replace hD := hD.pick 3 rfl
    replace hD := hD.pick 3 rfl
    refine ⟨A3, c3, (Z ++ [(⟨qn, x.gn, x.L⟩ : PV)]), ?_, hH58, hD⟩
    obtain ⟨h1, h2⟩ := List.getElem?_eq_some_iff.1 hx
    rw [List.take_succ_eq_append_getElem h1, List.map_append, List.map_append, hZ, h2]
    rfl
  obtain ⟨A2, c2, Z, hZ, hH2, hD⟩ := hJ
  clear hH1 hD1
  rw [hqx, List.take_length] at hZ
  try simp only [Exit.then, Exit.inBlock]
  refine wp_seq (wp_region_lit ?_)
  refine lV (.pointer (some ⟨qc, 0, none⟩)) he' rfl rfl (wanted_plain rfl _) (rn_ldPr rfl (he'.op rfl) (hH2.at (i := 1) rfl) rfl) ?_
  intro a59 he59
  clear he' a'
  refine lW (.pointer (some ⟨qc, 0, none⟩)) he59 rfl (rn_asg rfl (he59.op rfl) W) ?_
  intro a60 he60
  clear he59 a59
  refine wpList_nil (then_ok ?_)
  replace hD := hD.drop
  have hk := hD.obj
  have hH9 := (hD.putDrop (.deferred none)).2 _ rfl hH2
  replace hD := (hD.putDrop (.deferred none)).1
  have hD2 := Dt.shut_ring (mo := (R.mo : Int)) (fi := (R.fi : Int)) (nx := (R.nx : Int)) (qs := Z.map (·.q)) (X := Z) hD (hH9.at (i := 0) rfl) (Hp.notin hH9)
  replace hD := Dt.front (A := [rawD qc (R.mo : Int) R.pl (R.fi : Int) (R.nx : Int) (Z.map (·.q)) Z]) (B := [ringD qc R]) (D := []) hD2 (fun G h => ring_ok hok (ring_shut (hZ.trans hX) h))
  refine wp_ret ?_
  try simp only [Exit.then, Exit.inBlock, Exit.noGoto]
  exact out_env rfl he60 hk rfl ⟨_, rfl, hD.turned⟩
/-- The first of the pages' numbers that a round begins with. -/
def j0 (ix : Nat) : Nat → Nat
  | 0 => ix
  | _ + 1 => 0
/-- What has been taken of the pages when i of them are over, and M of the next one has been seen. -/
def preS (Y : List PV) (ix i : Nat) (M : List Ln) : List Ln := (flatP ((Y.take i).map PV.pg) ++ M).drop ix
section
variable {Y : List PV} {ix i j : Nat} {x : PV} {m : Ln}
theorem pre_drop {A B : List Ln} (n : Nat) : A.drop n <+: (A ++ B).drop n := by
  rw [List.drop_append]
  exact List.prefix_append _ _
theorem preS_zero : preS Y ix 0 [] = [] := by simp [preS, flatP]
theorem preS_next (hx : Y[i]? = some x) : preS Y ix i x.L = preS Y ix (i + 1) [] := by
  obtain ⟨h1, h2⟩ := List.getElem?_eq_some_iff.1 hx
  unfold preS
  rw [List.take_succ_eq_append_getElem h1, h2, List.map_append, List.append_nil]
  simp [flatP]
theorem preS_start : preS Y ix i (x.L.take (j0 ix i)) = preS Y ix i [] := by
  cases i with
  | zero => simp [preS, flatP, j0]
  | succ i => simp [preS, j0]
theorem preS_snoc (hm : x.L[j]? = some m) (hj : i = 0 → ix ≤ j) (h0 : ∀ y, Y[0]? = some y → ix ≤ y.L.length) (hi : i ≤ Y.length) : preS Y ix i (x.L.take (j + 1)) = preS Y ix i (x.L.take j) ++ [m] := by
  obtain ⟨h1, h2⟩ := List.getElem?_eq_some_iff.1 hm
  unfold preS
  rw [List.take_succ_eq_append_getElem h1, h2, ← List.append_assoc]
  rw [List.drop_append_of_le_length]
  rw [List.length_append, List.length_take]
  cases i with
  | zero =>
    have := hj rfl
    omega
  | succ i =>
    cases Y with
    | nil => simp at hi
    | cons y Y =>
      have := h0 y rfl
      simp only [List.take_succ_cons, List.map_cons, flatP, List.flatMap_cons, List.length_append]
      omega
theorem preS_pre (hx : Y[i]? = some x) : preS Y ix i (x.L.take j) <+: (flatP (Y.map PV.pg)).drop ix := by
  obtain ⟨h1, h2⟩ := List.getElem?_eq_some_iff.1 hx
  have e : Y = Y.take i ++ x :: Y.drop (i + 1) := by
    rw [← h2, List.getElem_cons_drop, List.take_append_drop]
  have e2 : flatP (Y.map PV.pg) = (flatP ((Y.take i).map PV.pg) ++ x.L.take j) ++ (x.L.drop j ++ flatP ((Y.drop (i + 1)).map PV.pg)) := by
    conv => lhs; rw [e]
    simp only [List.map_append, List.map_cons, flatP, List.flatMap_append, List.flatMap_cons]
    rw [List.append_assoc, ← List.append_assoc (x.L.take j), List.take_append_drop]
  rw [e2]
  exact pre_drop ix
theorem preS_all : preS Y ix Y.length [] = (flatP (Y.map PV.pg)).drop ix := by simp [preS]
theorem preS_is {S T : List Ln} {d : Nat} (h : S <+: T) (hl : S.length = d) : T.take d = S := by
  rw [← hl]
  exact (List.prefix_iff_eq_take.1 h).symm
end
set_option linter.unusedSimpArgs false in
set_option maxRecDepth 100000 in
set_option maxHeartbeats 1600000 in
theorem rRange (p : Nat) (R : RS) (u v : Int) (F : FP) (w : World) (hs : (ringD p R).P w F) (hT : Tab w) : Calls Tryd.prog 22 #[.pointer (some ⟨p, 0, none⟩), .int .i64 u, .int .i64 v] w fun e w' => ∃ A' c', e = .returned (.tuple #[.slice A' (rangeL R u v).length c', .int .i64 (rangeE R u v)]) ∧ Made [linesD (.slice A' (rangeL R u v).length c') (rangeL R u v)] w w' := by
  obtain ⟨hok, X, hX, hraw⟩ := id hs
  obtain ⟨A, c, G, hB, hsep, hG, hFp, hGp⟩ := id hraw
  obtain ⟨F1, F2, hrow, hpag, -⟩ := hsep
  have hrow : OwnO rPt w F1 (.slice A (X.map (·.q)).length c) ((X.map (·.q)).map some) := hrow
  have hpag : (pagsD R.pl X).P w F2 := hpag.the
  have hplz : ((R.pl : Int) == 0) = false := by have := hok.pl1; simp; omega
  have hnb : bigN = 1000000000 := rfl
  have hn8 := hok.nx
  have hnn : R.nx = R.fi + R.L.length := rfl
  have hqx : (X.map (·.q)).length = X.length := by simp
  have hXl : X.length ≤ 3000000 := by have h1 := hok.pg.len_le; have h2 : (flatP R.P).length ≤ R.mo := hok.len; have := hok.mo; have h3 := congrArg List.length hX; simp at h3; omega
  refine calls_envM (vl := [.pointer (some ⟨p, 0, none⟩), .int .i64 u, .int .i64 v]) 82 Tryd.func22 rfl Tryd.ntmps22 (by kernel_rfl) (fun a he => ?_)
  have he0 : Env 82 [(0, .pointer (some ⟨p, 0, none⟩)), (1, .int .i64 u), (2, .int .i64 v)] a := he
  clear he
  have hH := Hp.bare1 hB
  have hD := Dt.read1 hT hB.lt
  refine wp_seq (wp_region_lit ?_)
  refine lNewP (fun p => .pointer (some ⟨p, 0, none⟩)) he0 hH rfl rfl (wanted_plain rfl _) (rn_box1i rfl (he0.op rfl) w) ?_
  intro p1 w1 a2 hp hn hH1 he2
  replace hD := hD.cons hn hp (hH1.at (i := 0) rfl).lt
  clear he0 a hH hn hp
  refine lNewP (fun p => .pointer (some ⟨p, 0, none⟩)) he2 hH1 rfl rfl (wanted_plain rfl _) (rn_box1i rfl (he2.op rfl) w1) ?_
  intro p3 w3 a4 hp hn hH3 he4
  replace hD := hD.cons hn hp (hH3.at (i := 0) rfl).lt
  clear he2 a2 hH1 hn hp
  refine lNewP (fun p => .pointer (some ⟨p, 0, none⟩)) he4 hH3 rfl rfl (wanted_plain rfl _) (rn_all1l rfl w3) ?_
  intro p5 w5 a6 hp hn hH5 he6
  replace hD := hD.cons hn hp (hH5.at (i := 0) rfl).lt
  clear he4 a4 hH3 hn hp
  refine lNewP (fun p => .pointer (some ⟨p, 0, none⟩)) he6 hH5 rfl rfl (wanted_plain rfl _) (rn_all1e rfl w5) ?_
  intro p7 w7 a8 hp hn hH7 he8
  replace hD := hD.cons hn hp (hH7.at (i := 0) rfl).lt
  clear he6 a6 hH5 hn hp
  refine wpList_nil (then_ok ?_)
  refine wp_seq ?_
  refine wp_block ?_
  refine wp_seq (wp_region_lit ?_)
  refine lW (.pointer (some ⟨p, 0, none⟩)) he8 rfl (rn_mv rfl (he8.op rfl) w7) ?_
  intro a9 he9
  clear he8 a8
  refine lC he9 rfl rfl Tryd.func45 (by kernel_rfl) rfl rfl (wanted_plain rfl _) rfl (rUnmade_f _ _ _ _ _ _ _ _ w7 (hH7.at (i := 4) rfl) hplz hD.tab) ?_
  intro w10 a11 hn he11
  have hH10 := hH7.call hn
  replace hD := (hD).new hn
  clear he9 a9 hH7 hn
  refine lW (.bool false) he11 rfl (rn_asg rfl (he11.op rfl) w10) ?_
  intro a12 he12
  clear he11 a11
  refine wpList_nil (then_ok ?_)
  refine wp_cond_false (he12.op rfl) ?_
  by_cases hc0 : u < 0
  · skip
    refine wp_seq ?_
    refine wp_region_held_drew (S := Hp (bare w) [⟨p7, 26, #[.int .i64 0]⟩, ⟨p5, 30, #[.slice none 0 0]⟩, ⟨p3, 3, #[.int .i64 v]⟩, ⟨p1, 3, #[.int .i64 u]⟩, ⟨p, 60, (rgCs (.slice A (X.map (·.q)).length c) (R.mo : Int) (R.pl : Int) (R.fi : Int) (R.nx : Int))⟩]) (by kernel_rfl) (hH10.drew) (fun _ => ?_)
    have hn : New w10 (World.drew w10) := (Fr.refl _ _).drew
    replace hD := (hD).new hn
    clear hn
    have hH13 := hH10.drew
    clear hH10
    generalize World.drew w10 = w13 at *
    refine hW (fuel := 15) (i := 0) (.int .i64 u) he12 rfl (by kernel_rfl) (fun _ _ _ h => h) (fun w' hw' => rn_ld1 rfl (he12.op rfl) Tryd.underlying3 (hw'.at (i := 3) rfl) rfl) hH13 ?_
    intro a14 he14
    clear he12 a12
    refine hW (fuel := 14) (i := 1) (.bool true) he14 rfl (by kernel_rfl) (fun _ _ _ h => h) (fun w' _ => rn_lss rfl (he14.op rfl) (he14.op rfl) (decide_eq_true hc0) w') hH13 ?_
    intro a15 he15
    clear he14 a14
    refine hW (fuel := 13) (i := 2) (.bool true) he15 rfl (by kernel_rfl) (fun _ _ _ h => h) (fun w' _ => rn_mv rfl (he15.op rfl) w') hH13 ?_
    intro a16 he16
    clear he15 a15
    refine hSkip (fuel := 12) (i := 3) he16 rfl rfl rfl (by kernel_rfl) (by kernel_rfl) (by kernel_rfl) (fun _ _ _ h => h) (he16.wantNot rfl rfl rfl rfl rfl rfl) hH13 ?_
    intro a17 he17
    clear he16 a16
    refine hSkip (fuel := 11) (i := 4) he17 rfl rfl rfl (by kernel_rfl) (by kernel_rfl) (by kernel_rfl) (fun _ _ _ h => h) (he17.wantNot rfl rfl rfl rfl rfl rfl) hH13 ?_
    intro a18 he18
    clear he17 a17
    refine hSkip (fuel := 10) (i := 5) he18 rfl rfl rfl (by kernel_rfl) (by kernel_rfl) (by kernel_rfl) (fun _ _ _ h => h) (he18.wantNot rfl rfl rfl rfl rfl rfl) hH13 ?_
    intro a19 he19
    clear he18 a18
    refine hW (fuel := 9) (i := 6) (.bool true) he19 rfl (by kernel_rfl) (fun _ _ _ h => h) (fun w' _ => rn_pk rfl (he19.op rfl) (he19.op rfl) w') hH13 ?_
    intro a20 he20
    clear he19 a19
    refine hW (fuel := 8) (i := 7) (.bool true) he20 rfl (by kernel_rfl) (fun _ _ _ h => h) (fun w' _ => rn_mv rfl (he20.op rfl) w') hH13 ?_
    intro a21 he21
    clear he20 a20
    refine hSkip (fuel := 7) (i := 8) he21 rfl rfl rfl (by kernel_rfl) (by kernel_rfl) (by kernel_rfl) (fun _ _ _ h => h) (he21.wantNot rfl rfl rfl rfl rfl rfl) hH13 ?_
    intro a22 he22
    clear he21 a21
    refine hSkip (fuel := 6) (i := 9) he22 rfl rfl rfl (by kernel_rfl) (by kernel_rfl) (by kernel_rfl) (fun _ _ _ h => h) (he22.wantNot rfl rfl rfl rfl rfl rfl) hH13 ?_
    intro a23 he23
    clear he22 a22
    refine hSkip (fuel := 5) (i := 10) he23 rfl rfl rfl (by kernel_rfl) (by kernel_rfl) (by kernel_rfl) (fun _ _ _ h => h) (he23.wantNot rfl rfl rfl rfl rfl rfl) hH13 ?_
    intro a24 he24
    clear he23 a23
    refine hSkip (fuel := 4) (i := 11) he24 rfl rfl rfl (by kernel_rfl) (by kernel_rfl) (by kernel_rfl) (fun _ _ _ h => h) (he24.wantNot rfl rfl rfl rfl rfl rfl) hH13 ?_
    intro a25 he25
    clear he24 a24
    refine hSkip (fuel := 3) (i := 12) he25 rfl rfl rfl (by kernel_rfl) (by kernel_rfl) (by kernel_rfl) (fun _ _ _ h => h) (he25.wantNot rfl rfl rfl rfl rfl rfl) hH13 ?_
    intro a26 he26
    clear he25 a25
    refine hSkip (fuel := 2) (i := 13) he26 rfl rfl rfl (by kernel_rfl) (by kernel_rfl) (by kernel_rfl) (fun _ _ _ h => h) (he26.wantNot rfl rfl rfl rfl rfl rfl) hH13 ?_
    intro a27 he27
    clear he26 a26
    refine hW (fuel := 1) (i := 14) (.bool true) he27 rfl (by kernel_rfl) (fun _ _ _ h => h) (fun w' _ => rn_pk rfl (he27.op rfl) (he27.op rfl) w') hH13 ?_
    intro a28 he28
    clear he27 a27
    refine hW (fuel := 0) (i := 15) (.bool true) he28 rfl (by kernel_rfl) (fun _ _ _ h => h) (fun w' _ => rn_asg rfl (he28.op rfl) w') hH13 ?_
    intro a29 he29
    clear he28 a28
    refine wpAnyH_done (by kernel_rfl) ?_ _
    refine then_ok ?_
    refine wp_cond_true (he29.op rfl) ?_
    refine wp_seq (wp_region_lit ?_)
    refine lSetF 1 #[.slice none 0 0] (cs := #[.slice none 0 0]) he29 hH13 rfl (wanted_plain rfl _) rfl rfl rfl rfl rfl (by kernel_rfl) (by kernel_rfl) (by kernel_rfl) rfl ?_
    intro w30 a31 hH30 hf he31
    replace hD := hD.setb (i := 1) rfl rfl hf
    replace hH30 : Hp (bare w) [⟨p7, 26, #[.int .i64 0]⟩, ⟨p5, 30, #[.slice none 0 0]⟩, ⟨p3, 3, #[.int .i64 v]⟩, ⟨p1, 3, #[.int .i64 u]⟩, ⟨p, 60, (rgCs (.slice A (X.map (·.q)).length c) (R.mo : Int) (R.pl : Int) (R.fi : Int) (R.nx : Int))⟩] w30 := hH30
    clear hf
    clear he29 a29 hH13
    refine lSetF 0 #[.int .i64 3] (cs := #[.int .i64 3]) he31 hH30 rfl (wanted_plain rfl _) rfl rfl rfl rfl rfl (by kernel_rfl) (by kernel_rfl) (by kernel_rfl) rfl ?_
    intro w32 a33 hH32 hf he33
    replace hD := hD.setb (i := 0) rfl rfl hf
    replace hH32 : Hp (bare w) [⟨p7, 26, #[.int .i64 3]⟩, ⟨p5, 30, #[.slice none 0 0]⟩, ⟨p3, 3, #[.int .i64 v]⟩, ⟨p1, 3, #[.int .i64 u]⟩, ⟨p, 60, (rgCs (.slice A (X.map (·.q)).length c) (R.mo : Int) (R.pl : Int) (R.fi : Int) (R.nx : Int))⟩] w32 := hH32
    clear hf
    clear he31 a31 hH30
    refine wpList_nil (then_ok ?_)
    have hE : rangeE R u v = 3 := if_pos (.inl hc0)
    have hL : rangeL R u v = [] := if_neg (by rw [hE]; decide)
    rw [hE, hL]
    replace hD := Dt.front (A := []) (B := [linesD (.slice none 0 0) []]) (D := []) hD (lines_nil _)
    refine wp_ret ?_
    try simp only [Exit.then, Exit.inBlock, Exit.noGoto]
    exact out_plain (bodyPost_ret (results_le rfl he33 rfl rfl (hH32.at (i := 1) rfl) (hH32.at (i := 0) rfl)) he33.df ⟨none, 0, rfl, hD.turned⟩)
  by_cases hc1 : v < u
  · skip
    refine wp_seq ?_
    refine wp_region_held_drew (S := Hp (bare w) [⟨p7, 26, #[.int .i64 0]⟩, ⟨p5, 30, #[.slice none 0 0]⟩, ⟨p3, 3, #[.int .i64 v]⟩, ⟨p1, 3, #[.int .i64 u]⟩, ⟨p, 60, (rgCs (.slice A (X.map (·.q)).length c) (R.mo : Int) (R.pl : Int) (R.fi : Int) (R.nx : Int))⟩]) (by kernel_rfl) (hH10.drew) (fun _ => ?_)
    have hn : New w10 (World.drew w10) := (Fr.refl _ _).drew
    replace hD := (hD).new hn
    clear hn
    have hH34 := hH10.drew
    clear hH10
    generalize World.drew w10 = w34 at *
    refine hW (fuel := 15) (i := 0) (.int .i64 u) he12 rfl (by kernel_rfl) (fun _ _ _ h => h) (fun w' hw' => rn_ld1 rfl (he12.op rfl) Tryd.underlying3 (hw'.at (i := 3) rfl) rfl) hH34 ?_
    intro a35 he35
    clear he12 a12
    refine hW (fuel := 14) (i := 1) (.bool false) he35 rfl (by kernel_rfl) (fun _ _ _ h => h) (fun w' _ => rn_lss rfl (he35.op rfl) (he35.op rfl) (decide_eq_false hc0) w') hH34 ?_
    intro a36 he36
    clear he35 a35
    refine hW (fuel := 13) (i := 2) (.bool false) he36 rfl (by kernel_rfl) (fun _ _ _ h => h) (fun w' _ => rn_mv rfl (he36.op rfl) w') hH34 ?_
    intro a37 he37
    clear he36 a36
    refine hV (fuel := 12) (i := 3) (.int .i64 u) he37 rfl rfl rfl (by kernel_rfl) (by kernel_rfl) (by kernel_rfl) (fun _ _ _ h => h) (he37.want rfl rfl rfl rfl rfl) (fun w' hw' => rn_ld1 rfl (he37.op rfl) Tryd.underlying3 (hw'.at (i := 3) rfl) rfl) hH34 ?_
    intro a38 he38
    clear he37 a37
    refine hV (fuel := 11) (i := 4) (.int .i64 v) he38 rfl rfl rfl (by kernel_rfl) (by kernel_rfl) (by kernel_rfl) (fun _ _ _ h => h) (he38.want rfl rfl rfl rfl rfl) (fun w' hw' => rn_ld1 rfl (he38.op rfl) Tryd.underlying3 (hw'.at (i := 2) rfl) rfl) hH34 ?_
    intro a39 he39
    clear he38 a38
    refine hV (fuel := 10) (i := 5) (.bool true) he39 rfl rfl rfl (by kernel_rfl) (by kernel_rfl) (by kernel_rfl) (fun _ _ _ h => h) (he39.want rfl rfl rfl rfl rfl) (fun w' _ => rn_gtr rfl (he39.op rfl) (he39.op rfl) (decide_eq_true hc1) w') hH34 ?_
    intro a40 he40
    clear he39 a39
    refine hW (fuel := 9) (i := 6) (.bool true) he40 rfl (by kernel_rfl) (fun _ _ _ h => h) (fun w' _ => rn_pk0 rfl (he40.op rfl) (he40.op rfl) w') hH34 ?_
    intro a41 he41
    clear he40 a40
    refine hW (fuel := 8) (i := 7) (.bool true) he41 rfl (by kernel_rfl) (fun _ _ _ h => h) (fun w' _ => rn_mv rfl (he41.op rfl) w') hH34 ?_
    intro a42 he42
    clear he41 a41
    refine hSkip (fuel := 7) (i := 8) he42 rfl rfl rfl (by kernel_rfl) (by kernel_rfl) (by kernel_rfl) (fun _ _ _ h => h) (he42.wantNot rfl rfl rfl rfl rfl rfl) hH34 ?_
    intro a43 he43
    clear he42 a42
    refine hSkip (fuel := 6) (i := 9) he43 rfl rfl rfl (by kernel_rfl) (by kernel_rfl) (by kernel_rfl) (fun _ _ _ h => h) (he43.wantNot rfl rfl rfl rfl rfl rfl) hH34 ?_
    intro a44 he44
    clear he43 a43
    refine hSkip (fuel := 5) (i := 10) he44 rfl rfl rfl (by kernel_rfl) (by kernel_rfl) (by kernel_rfl) (fun _ _ _ h => h) (he44.wantNot rfl rfl rfl rfl rfl rfl) hH34 ?_
    intro a45 he45
    clear he44 a44
    refine hSkip (fuel := 4) (i := 11) he45 rfl rfl rfl (by kernel_rfl) (by kernel_rfl) (by kernel_rfl) (fun _ _ _ h => h) (he45.wantNot rfl rfl rfl rfl rfl rfl) hH34 ?_
    intro a46 he46
    clear he45 a45
    refine hSkip (fuel := 3) (i := 12) he46 rfl rfl rfl (by kernel_rfl) (by kernel_rfl) (by kernel_rfl) (fun _ _ _ h => h) (he46.wantNot rfl rfl rfl rfl rfl rfl) hH34 ?_
    intro a47 he47
    clear he46 a46
    refine hSkip (fuel := 2) (i := 13) he47 rfl rfl rfl (by kernel_rfl) (by kernel_rfl) (by kernel_rfl) (fun _ _ _ h => h) (he47.wantNot rfl rfl rfl rfl rfl rfl) hH34 ?_
    intro a48 he48
    clear he47 a47
    refine hW (fuel := 1) (i := 14) (.bool true) he48 rfl (by kernel_rfl) (fun _ _ _ h => h) (fun w' _ => rn_pk rfl (he48.op rfl) (he48.op rfl) w') hH34 ?_
    intro a49 he49
    clear he48 a48
    refine hW (fuel := 0) (i := 15) (.bool true) he49 rfl (by kernel_rfl) (fun _ _ _ h => h) (fun w' _ => rn_asg rfl (he49.op rfl) w') hH34 ?_
    intro a50 he50
    clear he49 a49
    refine wpAnyH_done (by kernel_rfl) ?_ _
    refine then_ok ?_
    refine wp_cond_true (he50.op rfl) ?_
    refine wp_seq (wp_region_lit ?_)
    refine lSetF 1 #[.slice none 0 0] (cs := #[.slice none 0 0]) he50 hH34 rfl (wanted_plain rfl _) rfl rfl rfl rfl rfl (by kernel_rfl) (by kernel_rfl) (by kernel_rfl) rfl ?_
    intro w51 a52 hH51 hf he52
    replace hD := hD.setb (i := 1) rfl rfl hf
    replace hH51 : Hp (bare w) [⟨p7, 26, #[.int .i64 0]⟩, ⟨p5, 30, #[.slice none 0 0]⟩, ⟨p3, 3, #[.int .i64 v]⟩, ⟨p1, 3, #[.int .i64 u]⟩, ⟨p, 60, (rgCs (.slice A (X.map (·.q)).length c) (R.mo : Int) (R.pl : Int) (R.fi : Int) (R.nx : Int))⟩] w51 := hH51
    clear hf
    clear he50 a50 hH34
    refine lSetF 0 #[.int .i64 3] (cs := #[.int .i64 3]) he52 hH51 rfl (wanted_plain rfl _) rfl rfl rfl rfl rfl (by kernel_rfl) (by kernel_rfl) (by kernel_rfl) rfl ?_
    intro w53 a54 hH53 hf he54
    replace hD := hD.setb (i := 0) rfl rfl hf
    replace hH53 : Hp (bare w) [⟨p7, 26, #[.int .i64 3]⟩, ⟨p5, 30, #[.slice none 0 0]⟩, ⟨p3, 3, #[.int .i64 v]⟩, ⟨p1, 3, #[.int .i64 u]⟩, ⟨p, 60, (rgCs (.slice A (X.map (·.q)).length c) (R.mo : Int) (R.pl : Int) (R.fi : Int) (R.nx : Int))⟩] w53 := hH53
    clear hf
    clear he52 a52 hH51
    refine wpList_nil (then_ok ?_)
    have hE : rangeE R u v = 3 := if_pos (.inr (.inl hc1))
    have hL : rangeL R u v = [] := if_neg (by rw [hE]; decide)
    rw [hE, hL]
    replace hD := Dt.front (A := []) (B := [linesD (.slice none 0 0) []]) (D := []) hD (lines_nil _)
    refine wp_ret ?_
    try simp only [Exit.then, Exit.inBlock, Exit.noGoto]
    exact out_plain (bodyPost_ret (results_le rfl he54 rfl rfl (hH53.at (i := 1) rfl) (hH53.at (i := 0) rfl)) he54.df ⟨none, 0, rfl, hD.turned⟩)
  by_cases hc2 : (R.nx : Int) < v
  · skip
    refine wp_seq ?_
    refine wp_region_held_drew (S := Hp (bare w) [⟨p7, 26, #[.int .i64 0]⟩, ⟨p5, 30, #[.slice none 0 0]⟩, ⟨p3, 3, #[.int .i64 v]⟩, ⟨p1, 3, #[.int .i64 u]⟩, ⟨p, 60, (rgCs (.slice A (X.map (·.q)).length c) (R.mo : Int) (R.pl : Int) (R.fi : Int) (R.nx : Int))⟩]) (by kernel_rfl) (hH10.drew) (fun _ => ?_)
    have hn : New w10 (World.drew w10) := (Fr.refl _ _).drew
    replace hD := (hD).new hn
    clear hn
    have hH55 := hH10.drew
    clear hH10
    generalize World.drew w10 = w55 at *
    refine hW (fuel := 15) (i := 0) (.int .i64 u) he12 rfl (by kernel_rfl) (fun _ _ _ h => h) (fun w' hw' => rn_ld1 rfl (he12.op rfl) Tryd.underlying3 (hw'.at (i := 3) rfl) rfl) hH55 ?_
    intro a56 he56
    clear he12 a12
    refine hW (fuel := 14) (i := 1) (.bool false) he56 rfl (by kernel_rfl) (fun _ _ _ h => h) (fun w' _ => rn_lss rfl (he56.op rfl) (he56.op rfl) (decide_eq_false hc0) w') hH55 ?_
    intro a57 he57
    clear he56 a56
    refine hW (fuel := 13) (i := 2) (.bool false) he57 rfl (by kernel_rfl) (fun _ _ _ h => h) (fun w' _ => rn_mv rfl (he57.op rfl) w') hH55 ?_
    intro a58 he58
    clear he57 a57
    refine hV (fuel := 12) (i := 3) (.int .i64 u) he58 rfl rfl rfl (by kernel_rfl) (by kernel_rfl) (by kernel_rfl) (fun _ _ _ h => h) (he58.want rfl rfl rfl rfl rfl) (fun w' hw' => rn_ld1 rfl (he58.op rfl) Tryd.underlying3 (hw'.at (i := 3) rfl) rfl) hH55 ?_
    intro a59 he59
    clear he58 a58
    refine hV (fuel := 11) (i := 4) (.int .i64 v) he59 rfl rfl rfl (by kernel_rfl) (by kernel_rfl) (by kernel_rfl) (fun _ _ _ h => h) (he59.want rfl rfl rfl rfl rfl) (fun w' hw' => rn_ld1 rfl (he59.op rfl) Tryd.underlying3 (hw'.at (i := 2) rfl) rfl) hH55 ?_
    intro a60 he60
    clear he59 a59
    refine hV (fuel := 10) (i := 5) (.bool false) he60 rfl rfl rfl (by kernel_rfl) (by kernel_rfl) (by kernel_rfl) (fun _ _ _ h => h) (he60.want rfl rfl rfl rfl rfl) (fun w' _ => rn_gtr rfl (he60.op rfl) (he60.op rfl) (decide_eq_false hc1) w') hH55 ?_
    intro a61 he61
    clear he60 a60
    refine hW (fuel := 9) (i := 6) (.bool false) he61 rfl (by kernel_rfl) (fun _ _ _ h => h) (fun w' _ => rn_pk0 rfl (he61.op rfl) (he61.op rfl) w') hH55 ?_
    intro a62 he62
    clear he61 a61
    refine hW (fuel := 8) (i := 7) (.bool false) he62 rfl (by kernel_rfl) (fun _ _ _ h => h) (fun w' _ => rn_mv rfl (he62.op rfl) w') hH55 ?_
    intro a63 he63
    clear he62 a62
    refine hV (fuel := 7) (i := 8) (.int .i64 v) he63 rfl rfl rfl (by kernel_rfl) (by kernel_rfl) (by kernel_rfl) (fun _ _ _ h => h) (he63.want rfl rfl rfl rfl rfl) (fun w' hw' => rn_ld1 rfl (he63.op rfl) Tryd.underlying3 (hw'.at (i := 2) rfl) rfl) hH55 ?_
    intro a64 he64
    clear he63 a63
    refine hV (fuel := 6) (i := 9) (.pointer (some ⟨p, 0, none⟩)) he64 rfl rfl rfl (by kernel_rfl) (by kernel_rfl) (by kernel_rfl) (fun _ _ _ h => h) (he64.want rfl rfl rfl rfl rfl) (fun w' _ => rn_mv rfl (he64.op rfl) w') hH55 ?_
    intro a65 he65
    clear he64 a64
    refine hV (fuel := 5) (i := 10) (.pointer (some ⟨p, 0, none⟩)) he65 rfl rfl rfl (by kernel_rfl) (by kernel_rfl) (by kernel_rfl) (fun _ _ _ h => h) (he65.want rfl rfl rfl rfl rfl) (fun w' _ => rn_nilck rfl (he65.op rfl) w') hH55 ?_
    intro a66 he66
    clear he65 a65
    refine hV (fuel := 4) (i := 11) (.pointer (some ⟨p, 4, none⟩)) he66 rfl rfl rfl (by kernel_rfl) (by kernel_rfl) (by kernel_rfl) (fun _ _ _ h => h) (he66.want rfl rfl rfl rfl rfl) (fun w' _ => rn_faH4 rfl (he66.op rfl) rfl w') hH55 ?_
    intro a67 he67
    clear he66 a66
    refine hV (fuel := 3) (i := 12) (.int .i64 R.nx) he67 rfl rfl rfl (by kernel_rfl) (by kernel_rfl) (by kernel_rfl) (fun _ _ _ h => h) (he67.want rfl rfl rfl rfl rfl) (fun w' hw' => rn_ld1 rfl (he67.op rfl) Tryd.underlying3 (hw'.at (i := 4) rfl) rfl) hH55 ?_
    intro a68 he68
    clear he67 a67
    refine hV (fuel := 2) (i := 13) (.bool true) he68 rfl rfl rfl (by kernel_rfl) (by kernel_rfl) (by kernel_rfl) (fun _ _ _ h => h) (he68.want rfl rfl rfl rfl rfl) (fun w' _ => rn_gtr rfl (he68.op rfl) (he68.op rfl) (decide_eq_true hc2) w') hH55 ?_
    intro a69 he69
    clear he68 a68
    refine hW (fuel := 1) (i := 14) (.bool true) he69 rfl (by kernel_rfl) (fun _ _ _ h => h) (fun w' _ => rn_pk0 rfl (he69.op rfl) (he69.op rfl) w') hH55 ?_
    intro a70 he70
    clear he69 a69
    refine hW (fuel := 0) (i := 15) (.bool true) he70 rfl (by kernel_rfl) (fun _ _ _ h => h) (fun w' _ => rn_asg rfl (he70.op rfl) w') hH55 ?_
    intro a71 he71
    clear he70 a70
    refine wpAnyH_done (by kernel_rfl) ?_ _
    refine then_ok ?_
    refine wp_cond_true (he71.op rfl) ?_
    refine wp_seq (wp_region_lit ?_)
    refine lSetF 1 #[.slice none 0 0] (cs := #[.slice none 0 0]) he71 hH55 rfl (wanted_plain rfl _) rfl rfl rfl rfl rfl (by kernel_rfl) (by kernel_rfl) (by kernel_rfl) rfl ?_
    intro w72 a73 hH72 hf he73
    replace hD := hD.setb (i := 1) rfl rfl hf
    replace hH72 : Hp (bare w) [⟨p7, 26, #[.int .i64 0]⟩, ⟨p5, 30, #[.slice none 0 0]⟩, ⟨p3, 3, #[.int .i64 v]⟩, ⟨p1, 3, #[.int .i64 u]⟩, ⟨p, 60, (rgCs (.slice A (X.map (·.q)).length c) (R.mo : Int) (R.pl : Int) (R.fi : Int) (R.nx : Int))⟩] w72 := hH72
    clear hf
    clear he71 a71 hH55
    refine lSetF 0 #[.int .i64 3] (cs := #[.int .i64 3]) he73 hH72 rfl (wanted_plain rfl _) rfl rfl rfl rfl rfl (by kernel_rfl) (by kernel_rfl) (by kernel_rfl) rfl ?_
    intro w74 a75 hH74 hf he75
    replace hD := hD.setb (i := 0) rfl rfl hf
    replace hH74 : Hp (bare w) [⟨p7, 26, #[.int .i64 3]⟩, ⟨p5, 30, #[.slice none 0 0]⟩, ⟨p3, 3, #[.int .i64 v]⟩, ⟨p1, 3, #[.int .i64 u]⟩, ⟨p, 60, (rgCs (.slice A (X.map (·.q)).length c) (R.mo : Int) (R.pl : Int) (R.fi : Int) (R.nx : Int))⟩] w74 := hH74
    clear hf
    clear he73 a73 hH72
    refine wpList_nil (then_ok ?_)
    have hE : rangeE R u v = 3 := if_pos (.inr (.inr hc2))
    have hL : rangeL R u v = [] := if_neg (by rw [hE]; decide)
    rw [hE, hL]
    replace hD := Dt.front (A := []) (B := [linesD (.slice none 0 0) []]) (D := []) hD (lines_nil _)
    refine wp_ret ?_
    try simp only [Exit.then, Exit.inBlock, Exit.noGoto]
    exact out_plain (bodyPost_ret (results_le rfl he75 rfl rfl (hH74.at (i := 1) rfl) (hH74.at (i := 0) rfl)) he75.df ⟨none, 0, rfl, hD.turned⟩)
  refine wp_seq ?_
  refine wp_region_held_drew (S := Hp (bare w) [⟨p7, 26, #[.int .i64 0]⟩, ⟨p5, 30, #[.slice none 0 0]⟩, ⟨p3, 3, #[.int .i64 v]⟩, ⟨p1, 3, #[.int .i64 u]⟩, ⟨p, 60, (rgCs (.slice A (X.map (·.q)).length c) (R.mo : Int) (R.pl : Int) (R.fi : Int) (R.nx : Int))⟩]) (by kernel_rfl) (hH10.drew) (fun _ => ?_)
  have hn : New w10 (World.drew w10) := (Fr.refl _ _).drew
  replace hD := (hD).new hn
  clear hn
  have hH76 := hH10.drew
  clear hH10
  generalize World.drew w10 = w76 at *
  refine hW (fuel := 15) (i := 0) (.int .i64 u) he12 rfl (by kernel_rfl) (fun _ _ _ h => h) (fun w' hw' => rn_ld1 rfl (he12.op rfl) Tryd.underlying3 (hw'.at (i := 3) rfl) rfl) hH76 ?_
  intro a77 he77
  clear he12 a12
  refine hW (fuel := 14) (i := 1) (.bool false) he77 rfl (by kernel_rfl) (fun _ _ _ h => h) (fun w' _ => rn_lss rfl (he77.op rfl) (he77.op rfl) (decide_eq_false hc0) w') hH76 ?_
  intro a78 he78
  clear he77 a77
  refine hW (fuel := 13) (i := 2) (.bool false) he78 rfl (by kernel_rfl) (fun _ _ _ h => h) (fun w' _ => rn_mv rfl (he78.op rfl) w') hH76 ?_
  intro a79 he79
  clear he78 a78
  refine hV (fuel := 12) (i := 3) (.int .i64 u) he79 rfl rfl rfl (by kernel_rfl) (by kernel_rfl) (by kernel_rfl) (fun _ _ _ h => h) (he79.want rfl rfl rfl rfl rfl) (fun w' hw' => rn_ld1 rfl (he79.op rfl) Tryd.underlying3 (hw'.at (i := 3) rfl) rfl) hH76 ?_
  intro a80 he80
  clear he79 a79
  refine hV (fuel := 11) (i := 4) (.int .i64 v) he80 rfl rfl rfl (by kernel_rfl) (by kernel_rfl) (by kernel_rfl) (fun _ _ _ h => h) (he80.want rfl rfl rfl rfl rfl) (fun w' hw' => rn_ld1 rfl (he80.op rfl) Tryd.underlying3 (hw'.at (i := 2) rfl) rfl) hH76 ?_
  intro a81 he81
  clear he80 a80
  refine hV (fuel := 10) (i := 5) (.bool false) he81 rfl rfl rfl (by kernel_rfl) (by kernel_rfl) (by kernel_rfl) (fun _ _ _ h => h) (he81.want rfl rfl rfl rfl rfl) (fun w' _ => rn_gtr rfl (he81.op rfl) (he81.op rfl) (decide_eq_false hc1) w') hH76 ?_
  intro a82 he82
  clear he81 a81
  refine hW (fuel := 9) (i := 6) (.bool false) he82 rfl (by kernel_rfl) (fun _ _ _ h => h) (fun w' _ => rn_pk0 rfl (he82.op rfl) (he82.op rfl) w') hH76 ?_
  intro a83 he83
  clear he82 a82
  refine hW (fuel := 8) (i := 7) (.bool false) he83 rfl (by kernel_rfl) (fun _ _ _ h => h) (fun w' _ => rn_mv rfl (he83.op rfl) w') hH76 ?_
  intro a84 he84
  clear he83 a83
  refine hV (fuel := 7) (i := 8) (.int .i64 v) he84 rfl rfl rfl (by kernel_rfl) (by kernel_rfl) (by kernel_rfl) (fun _ _ _ h => h) (he84.want rfl rfl rfl rfl rfl) (fun w' hw' => rn_ld1 rfl (he84.op rfl) Tryd.underlying3 (hw'.at (i := 2) rfl) rfl) hH76 ?_
  intro a85 he85
  clear he84 a84
  refine hV (fuel := 6) (i := 9) (.pointer (some ⟨p, 0, none⟩)) he85 rfl rfl rfl (by kernel_rfl) (by kernel_rfl) (by kernel_rfl) (fun _ _ _ h => h) (he85.want rfl rfl rfl rfl rfl) (fun w' _ => rn_mv rfl (he85.op rfl) w') hH76 ?_
  intro a86 he86
  clear he85 a85
  refine hV (fuel := 5) (i := 10) (.pointer (some ⟨p, 0, none⟩)) he86 rfl rfl rfl (by kernel_rfl) (by kernel_rfl) (by kernel_rfl) (fun _ _ _ h => h) (he86.want rfl rfl rfl rfl rfl) (fun w' _ => rn_nilck rfl (he86.op rfl) w') hH76 ?_
  intro a87 he87
  clear he86 a86
  refine hV (fuel := 4) (i := 11) (.pointer (some ⟨p, 4, none⟩)) he87 rfl rfl rfl (by kernel_rfl) (by kernel_rfl) (by kernel_rfl) (fun _ _ _ h => h) (he87.want rfl rfl rfl rfl rfl) (fun w' _ => rn_faH4 rfl (he87.op rfl) rfl w') hH76 ?_
  intro a88 he88
  clear he87 a87
  refine hV (fuel := 3) (i := 12) (.int .i64 R.nx) he88 rfl rfl rfl (by kernel_rfl) (by kernel_rfl) (by kernel_rfl) (fun _ _ _ h => h) (he88.want rfl rfl rfl rfl rfl) (fun w' hw' => rn_ld1 rfl (he88.op rfl) Tryd.underlying3 (hw'.at (i := 4) rfl) rfl) hH76 ?_
  intro a89 he89
  clear he88 a88
  refine hV (fuel := 2) (i := 13) (.bool false) he89 rfl rfl rfl (by kernel_rfl) (by kernel_rfl) (by kernel_rfl) (fun _ _ _ h => h) (he89.want rfl rfl rfl rfl rfl) (fun w' _ => rn_gtr rfl (he89.op rfl) (he89.op rfl) (decide_eq_false hc2) w') hH76 ?_
  intro a90 he90
  clear he89 a89
  refine hW (fuel := 1) (i := 14) (.bool false) he90 rfl (by kernel_rfl) (fun _ _ _ h => h) (fun w' _ => rn_pk0 rfl (he90.op rfl) (he90.op rfl) w') hH76 ?_
  intro a91 he91
  clear he90 a90
  refine hW (fuel := 0) (i := 15) (.bool false) he91 rfl (by kernel_rfl) (fun _ _ _ h => h) (fun w' _ => rn_asg rfl (he91.op rfl) w') hH76 ?_
  intro a92 he92
  clear he91 a91
  refine wpAnyH_done (by kernel_rfl) ?_ _
  refine then_ok ?_
  refine wp_cond_false (he92.op rfl) ?_
  by_cases hc3 : u < (R.fi : Int)
  · skip
    refine wp_seq ?_
    refine wp_region_held_drew (S := Hp (bare w) [⟨p7, 26, #[.int .i64 0]⟩, ⟨p5, 30, #[.slice none 0 0]⟩, ⟨p3, 3, #[.int .i64 v]⟩, ⟨p1, 3, #[.int .i64 u]⟩, ⟨p, 60, (rgCs (.slice A (X.map (·.q)).length c) (R.mo : Int) (R.pl : Int) (R.fi : Int) (R.nx : Int))⟩]) (by kernel_rfl) (hH76.drew) (fun _ => ?_)
    have hn : New w76 (World.drew w76) := (Fr.refl _ _).drew
    replace hD := (hD).new hn
    clear hn
    have hH93 := hH76.drew
    clear hH76
    generalize World.drew w76 = w93 at *
    refine hW (fuel := 6) (i := 0) (.int .i64 u) he92 rfl (by kernel_rfl) (fun _ _ _ h => h) (fun w' hw' => rn_ld1 rfl (he92.op rfl) Tryd.underlying3 (hw'.at (i := 3) rfl) rfl) hH93 ?_
    intro a94 he94
    clear he92 a92
    refine hW (fuel := 5) (i := 1) (.pointer (some ⟨p, 0, none⟩)) he94 rfl (by kernel_rfl) (fun _ _ _ h => h) (fun w' _ => rn_mv rfl (he94.op rfl) w') hH93 ?_
    intro a95 he95
    clear he94 a94
    refine hW (fuel := 4) (i := 2) (.pointer (some ⟨p, 0, none⟩)) he95 rfl (by kernel_rfl) (fun _ _ _ h => h) (fun w' _ => rn_nilck rfl (he95.op rfl) w') hH93 ?_
    intro a96 he96
    clear he95 a95
    refine hW (fuel := 3) (i := 3) (.pointer (some ⟨p, 3, none⟩)) he96 rfl (by kernel_rfl) (fun _ _ _ h => h) (fun w' _ => rn_faH3 rfl (he96.op rfl) rfl w') hH93 ?_
    intro a97 he97
    clear he96 a96
    refine hW (fuel := 2) (i := 4) (.int .i64 R.fi) he97 rfl (by kernel_rfl) (fun _ _ _ h => h) (fun w' hw' => rn_ld1 rfl (he97.op rfl) Tryd.underlying3 (hw'.at (i := 4) rfl) rfl) hH93 ?_
    intro a98 he98
    clear he97 a97
    refine hW (fuel := 1) (i := 5) (.bool true) he98 rfl (by kernel_rfl) (fun _ _ _ h => h) (fun w' _ => rn_lss rfl (he98.op rfl) (he98.op rfl) (decide_eq_true hc3) w') hH93 ?_
    intro a99 he99
    clear he98 a98
    refine hW (fuel := 0) (i := 6) (.bool true) he99 rfl (by kernel_rfl) (fun _ _ _ h => h) (fun w' _ => rn_asg rfl (he99.op rfl) w') hH93 ?_
    intro a100 he100
    clear he99 a99
    refine wpAnyH_done (by kernel_rfl) ?_ _
    refine then_ok ?_
    refine wp_cond_true (he100.op rfl) ?_
    refine wp_seq (wp_region_lit ?_)
    refine lSetF 1 #[.slice none 0 0] (cs := #[.slice none 0 0]) he100 hH93 rfl (wanted_plain rfl _) rfl rfl rfl rfl rfl (by kernel_rfl) (by kernel_rfl) (by kernel_rfl) rfl ?_
    intro w101 a102 hH101 hf he102
    replace hD := hD.setb (i := 1) rfl rfl hf
    replace hH101 : Hp (bare w) [⟨p7, 26, #[.int .i64 0]⟩, ⟨p5, 30, #[.slice none 0 0]⟩, ⟨p3, 3, #[.int .i64 v]⟩, ⟨p1, 3, #[.int .i64 u]⟩, ⟨p, 60, (rgCs (.slice A (X.map (·.q)).length c) (R.mo : Int) (R.pl : Int) (R.fi : Int) (R.nx : Int))⟩] w101 := hH101
    clear hf
    clear he100 a100 hH93
    refine lSetF 0 #[.int .i64 14] (cs := #[.int .i64 14]) he102 hH101 rfl (wanted_plain rfl _) rfl rfl rfl rfl rfl (by kernel_rfl) (by kernel_rfl) (by kernel_rfl) rfl ?_
    intro w103 a104 hH103 hf he104
    replace hD := hD.setb (i := 0) rfl rfl hf
    replace hH103 : Hp (bare w) [⟨p7, 26, #[.int .i64 14]⟩, ⟨p5, 30, #[.slice none 0 0]⟩, ⟨p3, 3, #[.int .i64 v]⟩, ⟨p1, 3, #[.int .i64 u]⟩, ⟨p, 60, (rgCs (.slice A (X.map (·.q)).length c) (R.mo : Int) (R.pl : Int) (R.fi : Int) (R.nx : Int))⟩] w103 := hH103
    clear hf
    clear he102 a102 hH101
    refine wpList_nil (then_ok ?_)
    have hE : rangeE R u v = 14 := by unfold rangeE; rw [if_neg (by omega), if_pos hc3]
    have hL : rangeL R u v = [] := if_neg (by rw [hE]; decide)
    rw [hE, hL]
    replace hD := Dt.front (A := []) (B := [linesD (.slice none 0 0) []]) (D := []) hD (lines_nil _)
    refine wp_ret ?_
    try simp only [Exit.then, Exit.inBlock, Exit.noGoto]
    exact out_plain (bodyPost_ret (results_le rfl he104 rfl rfl (hH103.at (i := 1) rfl) (hH103.at (i := 0) rfl)) he104.df ⟨none, 0, rfl, hD.turned⟩)
  refine wp_seq ?_
  refine wp_region_held_drew (S := Hp (bare w) [⟨p7, 26, #[.int .i64 0]⟩, ⟨p5, 30, #[.slice none 0 0]⟩, ⟨p3, 3, #[.int .i64 v]⟩, ⟨p1, 3, #[.int .i64 u]⟩, ⟨p, 60, (rgCs (.slice A (X.map (·.q)).length c) (R.mo : Int) (R.pl : Int) (R.fi : Int) (R.nx : Int))⟩]) (by kernel_rfl) (hH76.drew) (fun _ => ?_)
  have hn : New w76 (World.drew w76) := (Fr.refl _ _).drew
  replace hD := (hD).new hn
  clear hn
  have hH105 := hH76.drew
  clear hH76
  generalize World.drew w76 = w105 at *
  refine hW (fuel := 6) (i := 0) (.int .i64 u) he92 rfl (by kernel_rfl) (fun _ _ _ h => h) (fun w' hw' => rn_ld1 rfl (he92.op rfl) Tryd.underlying3 (hw'.at (i := 3) rfl) rfl) hH105 ?_
  intro a106 he106
  clear he92 a92
  refine hW (fuel := 5) (i := 1) (.pointer (some ⟨p, 0, none⟩)) he106 rfl (by kernel_rfl) (fun _ _ _ h => h) (fun w' _ => rn_mv rfl (he106.op rfl) w') hH105 ?_
  intro a107 he107
  clear he106 a106
  refine hW (fuel := 4) (i := 2) (.pointer (some ⟨p, 0, none⟩)) he107 rfl (by kernel_rfl) (fun _ _ _ h => h) (fun w' _ => rn_nilck rfl (he107.op rfl) w') hH105 ?_
  intro a108 he108
  clear he107 a107
  refine hW (fuel := 3) (i := 3) (.pointer (some ⟨p, 3, none⟩)) he108 rfl (by kernel_rfl) (fun _ _ _ h => h) (fun w' _ => rn_faH3 rfl (he108.op rfl) rfl w') hH105 ?_
  intro a109 he109
  clear he108 a108
  refine hW (fuel := 2) (i := 4) (.int .i64 R.fi) he109 rfl (by kernel_rfl) (fun _ _ _ h => h) (fun w' hw' => rn_ld1 rfl (he109.op rfl) Tryd.underlying3 (hw'.at (i := 4) rfl) rfl) hH105 ?_
  intro a110 he110
  clear he109 a109
  refine hW (fuel := 1) (i := 5) (.bool false) he110 rfl (by kernel_rfl) (fun _ _ _ h => h) (fun w' _ => rn_lss rfl (he110.op rfl) (he110.op rfl) (decide_eq_false hc3) w') hH105 ?_
  intro a111 he111
  clear he110 a110
  refine hW (fuel := 0) (i := 6) (.bool false) he111 rfl (by kernel_rfl) (fun _ _ _ h => h) (fun w' _ => rn_asg rfl (he111.op rfl) w') hH105 ?_
  intro a112 he112
  clear he111 a111
  refine wpAnyH_done (by kernel_rfl) ?_ _
  refine then_ok ?_
  refine wp_cond_false (he112.op rfl) ?_
  refine wp_skip ?_
  refine block_ok ?_
  refine then_ok ?_
  have he113 : Env 82 [(7, .pointer (some ⟨p7, 0, none⟩)), (6, .pointer (some ⟨p5, 0, none⟩)), (5, .pointer (some ⟨p3, 0, none⟩)), (4, .pointer (some ⟨p1, 0, none⟩)), (0, .pointer (some ⟨p, 0, none⟩))] a112 := he112.mem ⟨rfl, rfl, rfl, rfl, rfl, trivial⟩
  clear he112
  as_aux_lemma =>
    obtain ⟨k, rfl⟩ : ∃ k : Nat, u = ((R.fi + k : Nat) : Int) := ⟨(u - R.fi).toNat, by omega⟩
    obtain ⟨d, rfl⟩ : ∃ d : Nat, v = ((R.fi + k + d : Nat) : Int) := ⟨(v - (R.fi + k : Nat)).toNat, by omega⟩
    have hE : rangeE R ((R.fi + k : Nat) : Int) ((R.fi + k + d : Nat) : Int) = 0 := by unfold rangeE; rw [if_neg (by omega), if_neg hc3]
    have hL : rangeL R ((R.fi + k : Nat) : Int) ((R.fi + k + d : Nat) : Int) = (R.L.drop k).take d := by unfold rangeL; rw [if_pos hE, show (((R.fi + k : Nat) : Int) - R.fi).toNat = k by omega, show (((R.fi + k + d : Nat) : Int) - ((R.fi + k : Nat) : Int)).toNat = d by omega]
    rw [hE, hL]
    have hkl : k + d ≤ R.L.length := by omega
    have hml := hok.len
    have hmo := hok.mo
    clear hc0 hc1 hc2 hc3 hE hL
    refine wp_seq (wp_region_lit ?_)
    refine lW (.int .i64 ((R.fi + k + d : Nat) : Int)) he113 rfl (rn_ld1 rfl (he113.op rfl) Tryd.underlying3 (hH105.at (i := 2) rfl) rfl) ?_
    intro a114 he114
    clear he113 a112
    refine lW (.int .i64 ((R.fi + k : Nat) : Int)) he114 rfl (rn_ld1 rfl (he114.op rfl) Tryd.underlying3 (hH105.at (i := 3) rfl) rfl) ?_
    intro a115 he115
    clear he114 a114
    refine lW (.int .i64 d) he115 rfl (rn_subI rfl (he115.op rfl) (he115.op rfl) (by rw [IntWalk.i64_in _ ⟨by omega, by omega⟩]; omega) w105) ?_
    intro a116 he116
    clear he115 a115
    refine lEx he116 rfl rfl (wanted_plain rfl _) (rg_make0 (m := d) rfl rfl (he116.op rfl) (by omega)) ?_
    rintro _ w117 ⟨qm, rfl, ht⟩
    have hD2 := hD.made ht
    have hH117 := hH105.call ht.new
    replace hD := hD2
    clear hD2 ht
    intro a118 he118
    clear he116 a116 hH105
    refine lNewP (fun p => .pointer (some ⟨p, 0, none⟩)) he118 hH117 rfl rfl (wanted_plain rfl _) (rn_all1l rfl w117) ?_
    intro p119 w119 a120 hp hn hH119 he120
    replace hD := hD.cons hn hp (hH119.at (i := 0) rfl).lt
    clear he118 a118 hH117 hn hp
    refine lSetF 0 #[.slice (some ⟨qm, 0, none⟩) 0 d] (cs := #[.slice (some ⟨qm, 0, none⟩) 0 d]) he120 hH119 rfl (wanted_plain rfl _) rfl rfl rfl rfl rfl (by kernel_rfl) (by kernel_rfl) (by kernel_rfl) rfl ?_
    intro w121 a122 hH121 hf he122
    replace hD := hD.setb (i := 0) rfl rfl hf
    replace hH121 : Hp (bare w) [⟨p119, 30, #[.slice (some ⟨qm, 0, none⟩) 0 d]⟩, ⟨p7, 26, #[.int .i64 0]⟩, ⟨p5, 30, #[.slice none 0 0]⟩, ⟨p3, 3, #[.int .i64 ((R.fi + k + d : Nat) : Int)]⟩, ⟨p1, 3, #[.int .i64 ((R.fi + k : Nat) : Int)]⟩, ⟨p, 60, (rgCs (.slice A (X.map (·.q)).length c) (R.mo : Int) (R.pl : Int) (R.fi : Int) (R.nx : Int))⟩] w121 := hH121
    clear hf
    clear he120 a120 hH119
    refine wpList_nil (then_ok ?_)
    obtain ⟨hf1, hf2, -⟩ := fnd_drop hok.pl1 R.P k hok.pg (by show k ≤ R.L.length; omega)
    have hf4 := fnd_ix hok.pl1 R.P k hok.pg (by show k ≤ R.L.length; omega)
    obtain ⟨pg, ix, hfd⟩ : ∃ a b, fndP R.pl (g0P R.P) k = (a, b) := ⟨_, _, rfl⟩
    rw [hfd] at hf1 hf2 hf4
    simp only at hf1 hf2 hf4
    have hgX : g0P (X.map PV.pg) = g0P R.P := by rw [hX]
    have hpX : pg ≤ X.length := by rw [← hX] at hf1; simpa using hf1
    have hraw2 := (rawD _ _ _ _ _ _ _).fr hraw hD.fr (fun _ _ h => h)
    refine wp_seq (wp_region_lit ?_)
    refine lW (.pointer (some ⟨p, 0, none⟩)) he122 rfl (rn_mv rfl (he122.op rfl) w121) ?_
    intro a123 he123
    clear he122 a122
    refine lW (.int .i64 ((R.fi + k : Nat) : Int)) he123 rfl (rn_ld1 rfl (he123.op rfl) Tryd.underlying3 (hH121.at (i := 4) rfl) rfl) ?_
    intro a124 he124
    clear he123 a123
    refine lC he124 rfl rfl Tryd.func46 (by kernel_rfl) rfl rfl (wanted_plain rfl _) rfl ((by have hc_ := rFind p R.pl k R.mo R.fi R.nx X F w121 hraw2 hok.pl1 hok.pl2 (by omega) (by omega) (by omega) hD.tab; rw [hgX, hfd] at hc_; exact hc_)) ?_
    intro w125 a126 hn he126
    have hH125 := hH121.call hn
    replace hD := (hD).new hn
    replace hraw2 := (rawD _ _ _ _ _ _ _).fr hraw2 hn (fun _ _ h => h)
    clear he124 a124 hH121 hn
    clear hraw2
    refine lW (.tuple #[.int .i64 pg, .int .i64 ix]) he126 rfl (rn_mv rfl (he126.op rfl) w125) ?_
    intro a127 he127
    clear he126 a126
    refine lW (.int .i64 pg) he127 rfl (rn_ext rfl (he127.op rfl) rfl w125) ?_
    intro a128 he128
    clear he127 a127
    refine lW (.int .i64 ix) he128 rfl (rn_ext rfl (he128.op rfl) rfl w125) ?_
    intro a129 he129
    clear he128 a128
    refine lNewP (fun p => .pointer (some ⟨p, 0, none⟩)) he129 hH125 rfl rfl (wanted_plain rfl _) (rn_all1i rfl w125) ?_
    intro p130 w130 a131 hp hn hH130 he131
    replace hD := hD.cons hn hp (hH130.at (i := 0) rfl).lt
    clear he129 a129 hH125 hn hp
    refine lW (.int .i64 pg) he131 rfl (rn_asg rfl (he131.op rfl) w130) ?_
    intro a132 he132
    clear he131 a131
    refine lSetF 0 #[.int .i64 ix] (cs := #[.int .i64 ix]) he132 hH130 rfl (wanted_plain rfl _) rfl rfl rfl rfl rfl (by kernel_rfl) (by kernel_rfl) (by kernel_rfl) rfl ?_
    intro w133 a134 hH133 hf he134
    replace hD := hD.setb (i := 0) rfl rfl hf
    replace hH133 : Hp (bare w) [⟨p130, 3, #[.int .i64 ix]⟩, ⟨p119, 30, #[.slice (some ⟨qm, 0, none⟩) 0 d]⟩, ⟨p7, 26, #[.int .i64 0]⟩, ⟨p5, 30, #[.slice none 0 0]⟩, ⟨p3, 3, #[.int .i64 ((R.fi + k + d : Nat) : Int)]⟩, ⟨p1, 3, #[.int .i64 ((R.fi + k : Nat) : Int)]⟩, ⟨p, 60, (rgCs (.slice A (X.map (·.q)).length c) (R.mo : Int) (R.pl : Int) (R.fi : Int) (R.nx : Int))⟩] w133 := hH133
    clear hf
    clear he132 a132 hH130
    refine wpList_nil (then_ok ?_)
    refine wp_seq ?_
    refine wp_seq (wp_region_lit ?_)
    refine lW (.pointer (some ⟨p, 0, none⟩)) he134 rfl (rn_mv rfl (he134.op rfl) w133) ?_
    intro a135 he135
    clear he134 a134
    refine lW (.pointer (some ⟨p, 0, none⟩)) he135 rfl (rn_nilck rfl (he135.op rfl) w133) ?_
    intro a136 he136
    clear he135 a135
    refine lW (.pointer (some ⟨p, 0, none⟩)) he136 rfl (rn_faH0 rfl (he136.op rfl) rfl w133) ?_
    intro a137 he137
    clear he136 a136
    refine lW (.slice A (X.map (·.q)).length c) he137 rfl (rn_ldGps rfl (he137.op rfl) (hH133.at (i := 6) rfl) rfl) ?_
    intro a138 he138
    clear he137 a137
    refine lW (.int .i64 pg) he138 rfl (rn_mv rfl (he138.op rfl) w133) ?_
    intro a139 he139
    clear he138 a138
    obtain ⟨A3, e3, hrow3⟩ := OwnO.cutl (R := rPt) hrow (k := pg) (by omega)
    have e4 : (X.map (·.q)).length - pg = ((X.drop pg).map (·.q)).length := by simp
    have e5 : ((X.map (·.q)).map some).drop pg = ((X.drop pg).map (·.q)).map some := by simp
    rw [e4] at e3 hrow3
    rw [e5] at hrow3
    refine lW (.slice A3 ((X.drop pg).map (·.q)).length (c - pg)) he139 rfl (rg_cutl (R := rPt) (k := pg) rfl (he139.op rfl) (he139.op rfl) (by omega) e3 w133) ?_
    intro a140 he140
    clear he139 a139
    refine lW (Value.func (.func 47) #[.slice A3 ((X.drop pg).map (·.q)).length (c - pg)] #[]) he140 rfl (rn_mkF rfl (he140.op rfl) w133) ?_
    intro a141 he141
    clear he140 a140
    refine wpList_nil (then_ok ?_)
    obtain ⟨Y, hY⟩ : ∃ Y, X.drop pg = Y := ⟨_, rfl⟩
    rw [hY] at hrow3
    have hYl : Y.length ≤ 3000000 := by rw [← hY, List.length_drop]; omega
    have hfl : (flatP (Y.map PV.pg)).drop ix = R.L.drop k := by rw [← hY, List.map_drop, hX]; exact hf2
    have hY0 : ∀ y, Y[0]? = some y → ix ≤ y.L.length := fun y hy => hf4 (y.gn, y.L) (by rw [← hY, List.getElem?_drop] at hy; rw [← hX, List.getElem?_map]; simp only [Nat.add_zero] at hy; rw [hy]; rfl)
    have hYX : ∀ (i : Nat) (x : PV), Y[i]? = some x → X[pg + i]? = some x := fun i x hx => by rw [← hY, List.getElem?_drop] at hx; exact hx
    rw [hY] at he141
    have he142 : Env 82 [(56, Value.func (.func 47) #[.slice A3 (Y.map (·.q)).length (c - pg)] #[]), (10, .pointer (some ⟨p130, 0, none⟩)), (8, .pointer (some ⟨p119, 0, none⟩)), (7, .pointer (some ⟨p7, 0, none⟩)), (6, .pointer (some ⟨p5, 0, none⟩)), (5, .pointer (some ⟨p3, 0, none⟩)), (4, .pointer (some ⟨p1, 0, none⟩))] a141 := he141.mem ⟨rfl, rfl, rfl, rfl, rfl, rfl, rfl, trivial⟩
    clear he141
    refine wp_block ?_
    refine wp_each (N := 82) (s := 11) (Fv := [(56, Value.func (.func 47) #[.slice A3 (Y.map (·.q)).length (c - pg)] #[]), (10, .pointer (some ⟨p130, 0, none⟩)), (8, .pointer (some ⟨p119, 0, none⟩)), (7, .pointer (some ⟨p7, 0, none⟩)), (6, .pointer (some ⟨p5, 0, none⟩)), (5, .pointer (some ⟨p3, 0, none⟩)), (4, .pointer (some ⟨p1, 0, none⟩))]) A3 (c - pg) (Y.map (·.q)) (by simp; omega) he142 rfl rfl (fun l q W a0 K he hK => ?_) (fun fn df l w1 rc hM => ?_)
    · skip
      refine rlit_in (by kernel_rfl) (fun ⟨_, _, h⟩ => h) ?_
      refine lW (.pointer (some ⟨q, 0, none⟩)) he rfl (rn_asg rfl (he.op rfl) W) ?_
      intro a143 he143
      clear he a0
      refine wpList_nil (then_ok ?_)
      exact hK _ he143
    have hD1 := hD.made hM
    clear hD
    have hH1 : Hp (bare w) [⟨p130, 3, #[.int .i64 ix]⟩, ⟨p119, 30, #[.slice (some ⟨qm, 0, none⟩) 0 d]⟩, ⟨p7, 26, #[.int .i64 0]⟩, ⟨p5, 30, #[.slice none 0 0]⟩, ⟨p3, 3, #[.int .i64 ((R.fi + k + d : Nat) : Int)]⟩, ⟨p1, 3, #[.int .i64 ((R.fi + k : Nat) : Int)]⟩, ⟨p, 60, (rgCs (.slice A (X.map (·.q)).length c) (R.mo : Int) (R.pl : Int) (R.fi : Int) (R.nx : Int))⟩] w1 := hH133.call hM.new
    clear hH133 he142 hM
    refine ⟨fun i x W => ∃ (A2 : Option Addr) (c2 : Nat) (xs : List LV), (preS Y ix i []).length ≤ d ∧ Hp (bare w) [⟨p130, 3, #[.int .i64 (j0 ix i : Nat)]⟩, ⟨p119, 30, #[.slice A2 (preS Y ix i []).length c2]⟩, ⟨p7, 26, #[.int .i64 0]⟩, ⟨p5, 30, #[.slice none 0 0]⟩, ⟨p3, 3, #[.int .i64 ((R.fi + k + d : Nat) : Int)]⟩, ⟨p1, 3, #[.int .i64 ((R.fi + k : Nat) : Int)]⟩, ⟨p, 60, (rgCs (.slice A (X.map (fun x : PV => x.q)).length c) (R.mo : Int) (R.pl : Int) (R.fi : Int) (R.nx : Int))⟩] W ∧ Dt (bare w) w (fun _ => False) 1 [p130, p119, p7, p5, p3, p1, p] [objD l x, dfD df, rowD (.slice A2 (preS Y ix i []).length c2) xs, elsD xs (preS Y ix i [])] W, fun x W => ∃ (A2 : Option Addr) (c2 : Nat) (xs : List LV), Hp (bare w) [⟨p7, 26, #[.int .i64 0]⟩, ⟨p5, 30, #[.slice A2 ((R.L.drop k).take d).length c2]⟩, ⟨p3, 3, #[.int .i64 ((R.fi + k + d : Nat) : Int)]⟩, ⟨p1, 3, #[.int .i64 ((R.fi + k : Nat) : Int)]⟩, ⟨p, 60, (rgCs (.slice A (X.map (fun x : PV => x.q)).length c) (R.mo : Int) (R.pl : Int) (R.fi : Int) (R.nx : Int))⟩] W ∧ Dt (bare w) w (fun _ => False) 1 [p7, p5, p3, p1, p] [objD l x, dfD df, rowD (.slice A2 ((R.L.drop k).take d).length c2) xs, elsD xs ((R.L.drop k).take d)] W, ⟨some ⟨qm, 0, none⟩, d, [], by rw [preS_zero]; exact Nat.zero_le _, ?_, ?_⟩, fun i x W hJ => ?_, fun x W hJ => ?_, fun i q W a1 hq hJ he1 => ?_, fun W a' hJ he' => ?_, fun W a' hJ he' => ?_⟩
    · rw [preS_zero]; exact hH1
    · rw [preS_zero]; exact hD1
    · obtain ⟨A2, c2, xs, hd, hH2, hD2⟩ := hJ
      refine ⟨hD2.obj, fun y => ⟨A2, c2, xs, hd, (hD2.putObj y).2 _ rfl hH2, (hD2.putObj y).1⟩, ?_⟩
      obtain ⟨b, hr, -⟩ := OwnO.rdg (R := rPt) hrow3
      exact ⟨b, RdG.new hr hD2.fr⟩
    · obtain ⟨A2, c2, xs, hH2, hD2⟩ := hJ
      exact ⟨hD2.obj, fun y => ⟨A2, c2, xs, (hD2.putObj y).2 _ rfl hH2, (hD2.putObj y).1⟩⟩
    · skip
      obtain ⟨A2, c2, xs, hd, hH2, hD⟩ := hJ
      clear hH1 hD1
      obtain ⟨x, hx, hxq⟩ : ∃ x, Y[i]? = some x ∧ x.q = q := by rw [List.getElem?_map, Option.map_eq_some_iff] at hq; exact hq
      subst hxq
      have hil : i < Y.length := (List.getElem?_eq_some_iff.1 hx).1
      obtain ⟨U_, _, hU0, -⟩ := pags_out (hYX i x hx) (SepL.one hpag)
      have hU0 : (shD x.q x.L R.pl x.gn).P w U_ := hU0
      rw [← preS_start (x := x)] at hd hH2 hD
      refine wpIn_block ?_
      refine wpIn_seq ?_
      refine wpIn_block ?_
      refine loop_in (fun q a w' => ∃ (j : Nat) (A2 : Option Addr) (c2 : Nat) (xs : List LV), q = x.L.length - j ∧ (i = 0 → ix ≤ j) ∧ (preS Y ix i (x.L.take j)).length ≤ d ∧ Env 82 [(11, .pointer (some ⟨x.q, 0, none⟩)), (10, .pointer (some ⟨p130, 0, none⟩)), (8, .pointer (some ⟨p119, 0, none⟩)), (7, .pointer (some ⟨p7, 0, none⟩)), (6, .pointer (some ⟨p5, 0, none⟩)), (5, .pointer (some ⟨p3, 0, none⟩)), (4, .pointer (some ⟨p1, 0, none⟩))] a ∧ Hp (bare w) [⟨p130, 3, #[.int .i64 j]⟩, ⟨p119, 30, #[.slice A2 (preS Y ix i (x.L.take j)).length c2]⟩, ⟨p7, 26, #[.int .i64 0]⟩, ⟨p5, 30, #[.slice none 0 0]⟩, ⟨p3, 3, #[.int .i64 ((R.fi + k + d : Nat) : Int)]⟩, ⟨p1, 3, #[.int .i64 ((R.fi + k : Nat) : Int)]⟩, ⟨p, 60, (rgCs (.slice A (X.map (fun x : PV => x.q)).length c) (R.mo : Int) (R.pl : Int) (R.fi : Int) (R.nx : Int))⟩] w' ∧ Dt (bare w) w (fun _ => False) 1 [p130, p119, p7, p5, p3, p1, p] [objD l (rc .busy none), dfD df, rowD (.slice A2 (preS Y ix i (x.L.take j)).length c2) xs, elsD xs (preS Y ix i (x.L.take j))] w') _ ⟨j0 ix i, _, _, _, rfl, fun e => by subst e; exact Nat.le_refl _, hd, he1.mem ⟨rfl, rfl, rfl, rfl, rfl, rfl, rfl, trivial⟩, hH2, hD⟩ ?_
      clear he1 hH2
      rintro q a144 w144 ⟨j, A2, c2, xs, rfl, hj, hd, he144, hH144, hD⟩
      have hU_ := (shD _ _ _ _).fr hU0 hD.fr (fun _ _ h => h)
      by_cases hjl : j < x.L.length
      · skip
        refine wpIn_seq ?_
        refine wpIn_seq ?_
        refine rheld_in (S := Hp (bare w) [⟨p130, 3, #[.int .i64 j]⟩, ⟨p119, 30, #[.slice A2 (preS Y ix i (x.L.take j)).length c2]⟩, ⟨p7, 26, #[.int .i64 0]⟩, ⟨p5, 30, #[.slice none 0 0]⟩, ⟨p3, 3, #[.int .i64 ((R.fi + k + d : Nat) : Int)]⟩, ⟨p1, 3, #[.int .i64 ((R.fi + k : Nat) : Int)]⟩, ⟨p, 60, (rgCs (.slice A (X.map (·.q)).length c) (R.mo : Int) (R.pl : Int) (R.fi : Int) (R.nx : Int))⟩]) (by kernel_rfl) (fun ⟨_, _, h⟩ => h) (by kernel_rfl) (hH144.drew) (fun _ => ?_)
        have hn : New w144 (World.drew w144) := (Fr.refl _ _).drew
        replace hD := (hD).new hn
        replace hU_ := (shD _ _ _ _).fr hU_ hn (fun _ _ h => h)
        clear hn
        have hH145 := hH144.drew
        clear hH144
        generalize World.drew w144 = w145 at *
        refine hW (fuel := 3) (i := 0) (.int .i64 j) he144 rfl (by kernel_rfl) (fun _ _ _ h => h) (fun w' hw' => rn_ld1 rfl (he144.op rfl) Tryd.underlying3 (hw'.at (i := 0) rfl) rfl) hH145 ?_
        intro a146 he146
        clear he144 a144
        refine hW (fuel := 2) (i := 1) (.pointer (some ⟨x.q, 0, none⟩)) he146 rfl (by kernel_rfl) (fun _ _ _ h => h) (fun w' _ => rn_mv rfl (he146.op rfl) w') hH145 ?_
        intro a147 he147
        clear he146 a146
        refine hC (fuel := 1) (i := 2) he147 (by kernel_rfl) rfl rfl rfl Tryd.func48 (by kernel_rfl) rfl rfl (wanted_plain rfl _) rfl (lenS_b U_ x.q R.pl x.gn x.L w145 hU_ hD.tab) ?_
        rintro _ w148 ⟨rfl, hn⟩
        have hH148 := hH145.call hn
        replace hD := (hD).new hn
        replace hU_ := (shD _ _ _ _).fr hU_ hn (fun _ _ h => h)
        refine ⟨_, rfl, hH148, ?_⟩
        intro a149 he149
        clear he147 a147 hH145 hn
        refine hW (fuel := 0) (i := 3) (.bool true) he149 rfl (by kernel_rfl) (fun _ _ _ h => h) (fun w' _ => rn_lss rfl (he149.op rfl) (he149.op rfl) (decide_eq_true (by omega)) w') hH148 ?_
        intro a150 he150
        clear he149 a149
        refine wpAnyH_done (by kernel_rfl) ?_ _
        refine then_ok ?_
        refine wpIn_cond_true (he150.op rfl) ?_
        refine wpIn_skip ?_
        refine then_ok ?_
        obtain ⟨m, hm⟩ : ∃ m, x.L[j]? = some m := ⟨_, List.getElem?_eq_getElem hjl⟩
        have hgs : getS x.L (j : Nat) = (m, 0) := by unfold getS; rw [if_pos (by omega), Int.toNat_natCast, List.getD_eq_getElem?_getD, hm]; rfl
        have hxl9 := (sh_ok hU0).len
        have hml2 : m.1.length ≤ 1000 := (sh_ok hU0).cells m (List.mem_of_getElem? hm)
        refine wpIn_seq ?_
        refine wpIn_block ?_
        refine wpIn_seq ?_
        refine wpIn_seq ?_
        by_cases hfull : (preS Y ix i (x.L.take j)).length = d
        · skip
          refine rlit_in (by kernel_rfl) (fun ⟨_, _, h⟩ => h) ?_
          refine lW (.slice A2 (preS Y ix i (x.L.take j)).length c2) he150 rfl (rn_ldLs rfl (he150.op rfl) (hH148.at (i := 1) rfl) rfl) ?_
          intro a151 he151
          clear he150 a150
          refine lW (.int .i64 ((preS Y ix i (x.L.take j)).length : Nat)) he151 rfl (rn_lenL rfl (he151.op rfl) w148) ?_
          intro a152 he152
          clear he151 a151
          refine lW (.int .i64 ((R.fi + k + d : Nat) : Int)) he152 rfl (rn_ld1 rfl (he152.op rfl) Tryd.underlying3 (hH148.at (i := 4) rfl) rfl) ?_
          intro a153 he153
          clear he152 a152
          refine lW (.int .i64 ((R.fi + k : Nat) : Int)) he153 rfl (rn_ld1 rfl (he153.op rfl) Tryd.underlying3 (hH148.at (i := 5) rfl) rfl) ?_
          intro a154 he154
          clear he153 a153
          refine lW (.int .i64 d) he154 rfl (rn_subI rfl (he154.op rfl) (he154.op rfl) (by rw [IntWalk.i64_in _ ⟨by omega, by omega⟩]; omega) w148) ?_
          intro a155 he155
          clear he154 a154
          refine lW (.bool true) he155 rfl (rn_eqI rfl (he155.op rfl) (he155.op rfl) (beq_iff_eq.2 (by omega)) w148) ?_
          intro a156 he156
          clear he155 a155
          refine wpList_nil (then_ok ?_)
          refine wpIn_cond_true (he156.op rfl) ?_
          clear hU_
          refine wpIn_seq ?_
          refine rlit_in (by kernel_rfl) (fun ⟨_, _, h⟩ => h) ?_
          refine lW (.slice A2 (preS Y ix i (x.L.take j)).length c2) he156 rfl (rn_ldLs rfl (he156.op rfl) (hH148.at (i := 1) rfl) rfl) ?_
          intro a157 he157
          clear he156 a156
          refine lSetF 3 #[.slice A2 (preS Y ix i (x.L.take j)).length c2] (cs := #[.slice A2 (preS Y ix i (x.L.take j)).length c2]) he157 hH148 rfl (wanted_plain rfl _) rfl rfl rfl rfl rfl (by kernel_rfl) (by kernel_rfl) (by kernel_rfl) rfl ?_
          intro w158 a159 hH158 hf he159
          replace hD := hD.setb (i := 3) rfl rfl hf
          replace hH158 : Hp (bare w) [⟨p130, 3, #[.int .i64 j]⟩, ⟨p119, 30, #[.slice A2 (preS Y ix i (x.L.take j)).length c2]⟩, ⟨p7, 26, #[.int .i64 0]⟩, ⟨p5, 30, #[.slice A2 (preS Y ix i (x.L.take j)).length c2]⟩, ⟨p3, 3, #[.int .i64 ((R.fi + k + d : Nat) : Int)]⟩, ⟨p1, 3, #[.int .i64 ((R.fi + k : Nat) : Int)]⟩, ⟨p, 60, (rgCs (.slice A (X.map (·.q)).length c) (R.mo : Int) (R.pl : Int) (R.fi : Int) (R.nx : Int))⟩] w158 := hH158
          clear hf
          clear he157 a157 hH148
          refine lSetF 2 #[.int .i64 0] (cs := #[.int .i64 0]) he159 hH158 rfl (wanted_plain rfl _) rfl rfl rfl rfl rfl (by kernel_rfl) (by kernel_rfl) (by kernel_rfl) rfl ?_
          intro w160 a161 hH160 hf he161
          replace hD := hD.setb (i := 2) rfl rfl hf
          replace hH160 : Hp (bare w) [⟨p130, 3, #[.int .i64 j]⟩, ⟨p119, 30, #[.slice A2 (preS Y ix i (x.L.take j)).length c2]⟩, ⟨p7, 26, #[.int .i64 0]⟩, ⟨p5, 30, #[.slice A2 (preS Y ix i (x.L.take j)).length c2]⟩, ⟨p3, 3, #[.int .i64 ((R.fi + k + d : Nat) : Int)]⟩, ⟨p1, 3, #[.int .i64 ((R.fi + k : Nat) : Int)]⟩, ⟨p, 60, (rgCs (.slice A (X.map (·.q)).length c) (R.mo : Int) (R.pl : Int) (R.fi : Int) (R.nx : Int))⟩] w160 := hH160
          clear hf
          clear he159 a159 hH158
          refine wpList_nil (then_ok ?_)
          have e9 := preS_is (by have h9 := preS_pre (ix := ix) (j := j) hx; rw [hfl] at h9; exact h9) hfull
          rw [← e9] at hD
          rw [← e9] at hH160
          refine wpIn_ret ?_
          try simp only [Exit.then, Exit.inBlock, bdPost]
          exact ⟨A2, c2, xs, (hH160.tail rfl).tail rfl, hD.tail.tail⟩
        refine rlit_in (by kernel_rfl) (fun ⟨_, _, h⟩ => h) ?_
        refine lW (.slice A2 (preS Y ix i (x.L.take j)).length c2) he150 rfl (rn_ldLs rfl (he150.op rfl) (hH148.at (i := 1) rfl) rfl) ?_
        intro a162 he162
        clear he150 a150
        refine lW (.int .i64 ((preS Y ix i (x.L.take j)).length : Nat)) he162 rfl (rn_lenL rfl (he162.op rfl) w148) ?_
        intro a163 he163
        clear he162 a162
        refine lW (.int .i64 ((R.fi + k + d : Nat) : Int)) he163 rfl (rn_ld1 rfl (he163.op rfl) Tryd.underlying3 (hH148.at (i := 4) rfl) rfl) ?_
        intro a164 he164
        clear he163 a163
        refine lW (.int .i64 ((R.fi + k : Nat) : Int)) he164 rfl (rn_ld1 rfl (he164.op rfl) Tryd.underlying3 (hH148.at (i := 5) rfl) rfl) ?_
        intro a165 he165
        clear he164 a164
        refine lW (.int .i64 d) he165 rfl (rn_subI rfl (he165.op rfl) (he165.op rfl) (by rw [IntWalk.i64_in _ ⟨by omega, by omega⟩]; omega) w148) ?_
        intro a166 he166
        clear he165 a165
        refine lW (.bool false) he166 rfl (rn_eqI rfl (he166.op rfl) (he166.op rfl) (beq_eq_false_iff_ne.2 (by omega)) w148) ?_
        intro a167 he167
        clear he166 a166
        refine wpList_nil (then_ok ?_)
        refine wpIn_cond_false (he167.op rfl) ?_
        refine wpIn_skip ?_
        refine then_ok ?_
        refine wpIn_seq ?_
        refine rlit_in (by kernel_rfl) (fun ⟨_, _, h⟩ => h) ?_
        refine lW (.pointer (some ⟨x.q, 0, none⟩)) he167 rfl (rn_mv rfl (he167.op rfl) w148) ?_
        intro a168 he168
        clear he167 a167
        refine lW (.int .i64 j) he168 rfl (rn_ld1 rfl (he168.op rfl) Tryd.underlying3 (hH148.at (i := 0) rfl) rfl) ?_
        intro a169 he169
        clear he168 a168
        refine lCx he169 rfl rfl Tryd.func49 (by kernel_rfl) rfl rfl (wanted_plain rfl _) rfl ((by have hc_ := get_b U_ x.q R.pl x.gn x.L (j : Nat) w148 hU_ hD.tab; rw [hgs] at hc_; exact hc_)) ?_
        rintro _ w170 ⟨Ac, cc, rfl, ht⟩
        have hD2 := hD.made ht
        have hH170 := hH148.call ht.new
        replace hD := hD2
        clear hD2 ht
        refine ⟨_, rfl, ?_⟩
        intro a171 he171
        clear he169 a169 hH148
        clear hU_
        refine lW (.tuple #[.agg #[.slice Ac m.1.length cc, .bool m.2], .int .i64 0]) he171 rfl (rn_mv rfl (he171.op rfl) w170) ?_
        intro a172 he172
        clear he171 a171
        refine lW (.agg #[.slice Ac m.1.length cc, .bool m.2]) he172 rfl (rn_ext rfl (he172.op rfl) rfl w170) ?_
        intro a173 he173
        clear he172 a172
        refine lW (.int .i64 0) he173 rfl (rn_ext rfl (he173.op rfl) rfl w170) ?_
        intro a174 he174
        clear he173 a173
        refine lNewP (fun p => .pointer (some ⟨p, 0, none⟩)) he174 hH170 rfl rfl (wanted_plain rfl _) (rn_allocL rfl w170) ?_
        intro p175 w175 a176 hp hn hH175 he176
        replace hD := hD.cons hn hp (hH175.at (i := 0) rfl).lt
        clear he174 a174 hH170 hn hp
        refine lSetF 0 #[.slice Ac m.1.length cc, .bool m.2] (cs := #[.slice Ac m.1.length cc, .bool m.2]) he176 hH175 rfl (wanted_plain rfl _) rfl rfl rfl rfl rfl (by kernel_rfl) (by kernel_rfl) (by kernel_rfl) rfl ?_
        intro w177 a178 hH177 hf he178
        replace hD := hD.setb (i := 0) rfl rfl hf
        replace hH177 : Hp (bare w) [⟨p175, 36, #[.slice Ac m.1.length cc, .bool m.2]⟩, ⟨p130, 3, #[.int .i64 j]⟩, ⟨p119, 30, #[.slice A2 (preS Y ix i (x.L.take j)).length c2]⟩, ⟨p7, 26, #[.int .i64 0]⟩, ⟨p5, 30, #[.slice none 0 0]⟩, ⟨p3, 3, #[.int .i64 ((R.fi + k + d : Nat) : Int)]⟩, ⟨p1, 3, #[.int .i64 ((R.fi + k : Nat) : Int)]⟩, ⟨p, 60, (rgCs (.slice A (X.map (·.q)).length c) (R.mo : Int) (R.pl : Int) (R.fi : Int) (R.nx : Int))⟩] w177 := hH177
        clear hf
        clear he176 a176 hH175
        refine lW (.int .i64 0) he178 rfl (rn_asg rfl (he178.op rfl) w177) ?_
        intro a179 he179
        clear he178 a178
        refine wpList_nil (then_ok ?_)
        refine rlit_in (by kernel_rfl) (fun ⟨_, _, h⟩ => h) ?_
        refine lW (.slice A2 (preS Y ix i (x.L.take j)).length c2) he179 rfl (rn_ldLs rfl (he179.op rfl) (hH177.at (i := 2) rfl) rfl) ?_
        intro a180 he180
        clear he179 a179
        refine lW (.agg #[.slice Ac m.1.length cc, .bool m.2]) he180 rfl (rn_ldp _ rfl (he180.op rfl) undL rfl infoL2 (hH177.at (i := 0) rfl) rfl) ?_
        intro a181 he181
        clear he180 a180
        refine lNewP (fun p => .slice (some ⟨p, 0, none⟩) 1 1) he181 hH177 rfl rfl (wanted_plain rfl _) (rn_bsL1 rfl (he181.op rfl) w177) ?_
        intro p182 w182 a183 hp hn hH182 he183
        replace hD := hD.cons hn hp (hH182.at (i := 0) rfl).lt
        clear he181 a181 hH177 hn hp
        replace hD := hD.pick 4 rfl
        replace hD := hD.pick 4 rfl
        obtain ⟨F_, hsep, hF, hstep⟩ := Dt.step (A := [rowD (.slice A2 (preS Y ix i (x.L.take j)).length c2) xs, elsD xs (preS Y ix i (x.L.take j)), cellsD (.slice Ac m.1.length cc) m.1]) (D := [objD l (rc .busy none), dfD df]) hD
        refine lEx he183 rfl rfl (wanted_plain rfl _) (app_l (u := ⟨Ac, m.1.length, cc, m.2⟩) (l := m) hsep hF rfl (rdg_blk (R := rL) (l := [⟨Ac, m.1.length, cc, m.2⟩]) (hH182.at (i := 0) rfl) rfl rfl) (by omega) rfl (he183.op rfl) (he183.op rfl)) ?_
        rintro _ w184 ⟨A4, c4, rfl, ht⟩
        obtain ⟨hD2, hHs⟩ := hstep _ _ ht
        have hH184 := hHs _ rfl hH182
        clear hHs hstep hsep hF
        replace hD := hD2
        clear hD2 ht
        intro a185 he185
        clear he183 a183 hH182
        refine lSetF 3 #[.slice A4 ((preS Y ix i (x.L.take j)) ++ [m]).length c4] (cs := #[.slice A4 ((preS Y ix i (x.L.take j)) ++ [m]).length c4]) he185 hH184 rfl (wanted_plain rfl _) rfl rfl rfl rfl rfl (by kernel_rfl) (by kernel_rfl) (by kernel_rfl) rfl ?_
        intro w186 a187 hH186 hf he187
        replace hD := hD.setb (i := 3) rfl rfl hf
        replace hH186 : Hp (bare w) [⟨p182, 36, #[.slice Ac m.1.length cc, .bool m.2]⟩, ⟨p175, 36, #[.slice Ac m.1.length cc, .bool m.2]⟩, ⟨p130, 3, #[.int .i64 j]⟩, ⟨p119, 30, #[.slice A4 ((preS Y ix i (x.L.take j)) ++ [m]).length c4]⟩, ⟨p7, 26, #[.int .i64 0]⟩, ⟨p5, 30, #[.slice none 0 0]⟩, ⟨p3, 3, #[.int .i64 ((R.fi + k + d : Nat) : Int)]⟩, ⟨p1, 3, #[.int .i64 ((R.fi + k : Nat) : Int)]⟩, ⟨p, 60, (rgCs (.slice A (X.map (·.q)).length c) (R.mo : Int) (R.pl : Int) (R.fi : Int) (R.nx : Int))⟩] w186 := hH186
        clear hf
        clear he185 a185 hH184
        refine wpList_nil ?_
        refine block_ok ?_
        refine then_ok ?_
        have hH188 := hH186.tail rfl
        clear hH186
        replace hD := hD.tail
        have hH189 := hH188.tail rfl
        clear hH188
        replace hD := hD.tail
        refine rlit_in (by kernel_rfl) (fun ⟨_, _, h⟩ => h) ?_
        refine lW (.int .i64 j) he187 rfl (rn_ld1 rfl (he187.op rfl) Tryd.underlying3 (hH189.at (i := 0) rfl) rfl) ?_
        intro a190 he190
        clear he187 a187
        refine lW (.int .i64 ((j + 1 : Nat) : Int)) he190 rfl (rn_add1 rfl (he190.op rfl) (he190.op rfl) (by rw [IntWalk.i64_in _ ⟨by omega, by omega⟩]; omega) w186) ?_
        intro a191 he191
        clear he190 a190
        refine lSetF 0 #[.int .i64 ((j + 1 : Nat) : Int)] (cs := #[.int .i64 ((j + 1 : Nat) : Int)]) he191 hH189 rfl (wanted_plain rfl _) rfl rfl rfl rfl rfl (by kernel_rfl) (by kernel_rfl) (by kernel_rfl) rfl ?_
        intro w192 a193 hH192 hf he193
        replace hD := hD.setb (i := 0) rfl rfl hf
        replace hH192 : Hp (bare w) [⟨p130, 3, #[.int .i64 ((j + 1 : Nat) : Int)]⟩, ⟨p119, 30, #[.slice A4 ((preS Y ix i (x.L.take j)) ++ [m]).length c4]⟩, ⟨p7, 26, #[.int .i64 0]⟩, ⟨p5, 30, #[.slice none 0 0]⟩, ⟨p3, 3, #[.int .i64 ((R.fi + k + d : Nat) : Int)]⟩, ⟨p1, 3, #[.int .i64 ((R.fi + k : Nat) : Int)]⟩, ⟨p, 60, (rgCs (.slice A (X.map (·.q)).length c) (R.mo : Int) (R.pl : Int) (R.fi : Int) (R.nx : Int))⟩] w192 := hH192
        clear hf
        clear he191 a191 hH189
        refine wpList_nil (then_ok ?_)
        replace hD := hD.pick 1 rfl
        replace hD := hD.pick 1 rfl
        replace hD := hD.pick 3 rfl
        replace hD := hD.pick 3 rfl
        have e9 := preS_snoc (ix := ix) (i := i) (Y := Y) hm hj hY0 (by omega)
        rw [← e9] at hD
        rw [← e9] at hH192
        refine ⟨x.L.length - (j + 1), by omega, j + 1, A4, c4, _, rfl, fun e => Nat.le_succ_of_le (hj e), by rw [e9, List.length_append, List.length_singleton]; omega, he193.mem ⟨rfl, rfl, rfl, rfl, rfl, rfl, rfl, trivial⟩, hH192, hD⟩
      refine wpIn_seq ?_
      refine wpIn_seq ?_
      refine rheld_in (S := Hp (bare w) [⟨p130, 3, #[.int .i64 j]⟩, ⟨p119, 30, #[.slice A2 (preS Y ix i (x.L.take j)).length c2]⟩, ⟨p7, 26, #[.int .i64 0]⟩, ⟨p5, 30, #[.slice none 0 0]⟩, ⟨p3, 3, #[.int .i64 ((R.fi + k + d : Nat) : Int)]⟩, ⟨p1, 3, #[.int .i64 ((R.fi + k : Nat) : Int)]⟩, ⟨p, 60, (rgCs (.slice A (X.map (·.q)).length c) (R.mo : Int) (R.pl : Int) (R.fi : Int) (R.nx : Int))⟩]) (by kernel_rfl) (fun ⟨_, _, h⟩ => h) (by kernel_rfl) (hH144.drew) (fun _ => ?_)
      have hn : New w144 (World.drew w144) := (Fr.refl _ _).drew
      replace hD := (hD).new hn
      replace hU_ := (shD _ _ _ _).fr hU_ hn (fun _ _ h => h)
      clear hn
      have hH194 := hH144.drew
      clear hH144
      generalize World.drew w144 = w194 at *
      refine hW (fuel := 3) (i := 0) (.int .i64 j) he144 rfl (by kernel_rfl) (fun _ _ _ h => h) (fun w' hw' => rn_ld1 rfl (he144.op rfl) Tryd.underlying3 (hw'.at (i := 0) rfl) rfl) hH194 ?_
      intro a195 he195
      clear he144 a144
      refine hW (fuel := 2) (i := 1) (.pointer (some ⟨x.q, 0, none⟩)) he195 rfl (by kernel_rfl) (fun _ _ _ h => h) (fun w' _ => rn_mv rfl (he195.op rfl) w') hH194 ?_
      intro a196 he196
      clear he195 a195
      refine hC (fuel := 1) (i := 2) he196 (by kernel_rfl) rfl rfl rfl Tryd.func48 (by kernel_rfl) rfl rfl (wanted_plain rfl _) rfl (lenS_b U_ x.q R.pl x.gn x.L w194 hU_ hD.tab) ?_
      rintro _ w197 ⟨rfl, hn⟩
      have hH197 := hH194.call hn
      replace hD := (hD).new hn
      replace hU_ := (shD _ _ _ _).fr hU_ hn (fun _ _ h => h)
      refine ⟨_, rfl, hH197, ?_⟩
      intro a198 he198
      clear he196 a196 hH194 hn
      refine hW (fuel := 0) (i := 3) (.bool false) he198 rfl (by kernel_rfl) (fun _ _ _ h => h) (fun w' _ => rn_lss rfl (he198.op rfl) (he198.op rfl) (decide_eq_false (by omega)) w') hH197 ?_
      intro a199 he199
      clear he198 a198
      refine wpAnyH_done (by kernel_rfl) ?_ _
      refine then_ok ?_
      refine wpIn_cond_false (he199.op rfl) ?_
      refine wpIn_exit ?_
      simp only [Exit.then, Exit.inBlock, if_true]
      have e9 : x.L.take j = x.L := List.take_of_length_le (by omega)
      rw [e9, preS_next hx] at hd hD
      rw [e9, preS_next hx] at hH197
      clear hU_
      refine rlit_in (by kernel_rfl) (fun ⟨_, _, h⟩ => h) ?_
      refine lSetF 0 #[.int .i64 0] (cs := #[.int .i64 0]) he199 hH197 rfl (wanted_plain rfl _) rfl rfl rfl rfl rfl (by kernel_rfl) (by kernel_rfl) (by kernel_rfl) rfl ?_
      intro w200 a201 hH200 hf he201
      replace hD := hD.setb (i := 0) rfl rfl hf
      replace hH200 : Hp (bare w) [⟨p130, 3, #[.int .i64 0]⟩, ⟨p119, 30, #[.slice A2 (preS Y ix (i + 1) []).length c2]⟩, ⟨p7, 26, #[.int .i64 0]⟩, ⟨p5, 30, #[.slice none 0 0]⟩, ⟨p3, 3, #[.int .i64 ((R.fi + k + d : Nat) : Int)]⟩, ⟨p1, 3, #[.int .i64 ((R.fi + k : Nat) : Int)]⟩, ⟨p, 60, (rgCs (.slice A (X.map (·.q)).length c) (R.mo : Int) (R.pl : Int) (R.fi : Int) (R.nx : Int))⟩] w200 := hH200
      clear hf
      clear he199 a199 hH197
      refine wpList_nil ?_
      try simp only [Exit.then, Exit.inBlock, bdPost]
      exact ⟨A2, c2, xs, hd, hH200, hD⟩
    · skip
      obtain ⟨A2, c2, xs, hd, hH2, hD⟩ := hJ
      clear hH1 hD1
      rw [show (Y.map (·.q)).length = Y.length by simp] at hd hH2 hD
      rw [preS_all, hfl] at hd hH2 hD
      have e9 : (R.L.drop k).take d = R.L.drop k := List.take_of_length_le hd
      rw [e9]
      try simp only [Exit.then, Exit.inBlock]
      refine wp_seq (wp_region_lit ?_)
      refine lV (.slice A2 (R.L.drop k).length c2) he' rfl rfl (wanted_plain rfl _) (rn_ldLs rfl (he'.op rfl) (hH2.at (i := 1) rfl) rfl) ?_
      intro a202 he202
      clear he' a'
      refine lSetF 3 #[.slice A2 (R.L.drop k).length c2] (cs := #[.slice A2 (R.L.drop k).length c2]) he202 hH2 rfl (wanted_plain rfl _) rfl rfl rfl rfl rfl (by kernel_rfl) (by kernel_rfl) (by kernel_rfl) rfl ?_
      intro w203 a204 hH203 hf he204
      replace hD := hD.setb (i := 3) rfl rfl hf
      replace hH203 : Hp (bare w) [⟨p130, 3, #[.int .i64 (j0 ix Y.length : Nat)]⟩, ⟨p119, 30, #[.slice A2 (R.L.drop k).length c2]⟩, ⟨p7, 26, #[.int .i64 0]⟩, ⟨p5, 30, #[.slice A2 (R.L.drop k).length c2]⟩, ⟨p3, 3, #[.int .i64 ((R.fi + k + d : Nat) : Int)]⟩, ⟨p1, 3, #[.int .i64 ((R.fi + k : Nat) : Int)]⟩, ⟨p, 60, (rgCs (.slice A (X.map (·.q)).length c) (R.mo : Int) (R.pl : Int) (R.fi : Int) (R.nx : Int))⟩] w203 := hH203
      clear hf
      clear he202 a202 hH2
      refine lSetF 2 #[.int .i64 0] (cs := #[.int .i64 0]) he204 hH203 rfl (wanted_plain rfl _) rfl rfl rfl rfl rfl (by kernel_rfl) (by kernel_rfl) (by kernel_rfl) rfl ?_
      intro w205 a206 hH205 hf he206
      replace hD := hD.setb (i := 2) rfl rfl hf
      replace hH205 : Hp (bare w) [⟨p130, 3, #[.int .i64 (j0 ix Y.length : Nat)]⟩, ⟨p119, 30, #[.slice A2 (R.L.drop k).length c2]⟩, ⟨p7, 26, #[.int .i64 0]⟩, ⟨p5, 30, #[.slice A2 (R.L.drop k).length c2]⟩, ⟨p3, 3, #[.int .i64 ((R.fi + k + d : Nat) : Int)]⟩, ⟨p1, 3, #[.int .i64 ((R.fi + k : Nat) : Int)]⟩, ⟨p, 60, (rgCs (.slice A (X.map (·.q)).length c) (R.mo : Int) (R.pl : Int) (R.fi : Int) (R.nx : Int))⟩] w205 := hH205
      clear hf
      clear he204 a204 hH203
      refine wpList_nil (then_ok ?_)
      refine wp_ret ?_
      try simp only [Exit.then, Exit.inBlock, Exit.noGoto]
      replace hD := hD.drop
      have hk := hD.obj
      have hH9 := (hD.putDrop (.deferred none)).2 _ rfl hH205
      replace hD := (hD.putDrop (.deferred none)).1
      replace hD := Dt.front (A := [rowD (.slice A2 (R.L.drop k).length c2) xs, elsD xs (R.L.drop k)]) (B := [linesD (.slice A2 (R.L.drop k).length c2) (R.L.drop k)]) (D := []) hD (fun G h => lines_shut h)
      exact out_mark he206.df hk (results_le rfl he206 rfl rfl (hH9.at (i := 3) rfl) (hH9.at (i := 2) rfl)) ⟨_, _, rfl, hD.turned⟩
    obtain ⟨A2, c2, xs, hH2, hD⟩ := hJ
    clear hH1 hD1
    try simp only [Exit.then, Exit.inBlock]
    replace hD := hD.drop
    have hk := hD.obj
    have hH9 := (hD.putDrop (.deferred none)).2 _ rfl hH2
    replace hD := (hD.putDrop (.deferred none)).1
    replace hD := Dt.front (A := [rowD (.slice A2 ((R.L.drop k).take d).length c2) xs, elsD xs ((R.L.drop k).take d)]) (B := [linesD (.slice A2 ((R.L.drop k).take d).length c2) ((R.L.drop k).take d)]) (D := []) hD (fun G h => lines_shut h)
    exact out_mark he'.df hk (results_le rfl he' rfl rfl (hH9.at (i := 1) rfl) (hH9.at (i := 0) rfl)) ⟨_, _, rfl, hD.turned⟩
end Go.Proofs.YtlpjhaghphmbeaaDoor
