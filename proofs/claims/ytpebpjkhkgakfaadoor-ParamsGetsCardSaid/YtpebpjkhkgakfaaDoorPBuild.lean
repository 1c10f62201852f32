/-
  A builder's methods; the parameters that bytes say.
-/
import Derived.Test.YtpebpjkhkgakfaaDoorPSmall
namespace Go.Proofs.YtpebpjkhkgakfaaDoor
open Go.RowKit

set_option linter.unusedSimpArgs false in
set_option maxRecDepth 100000 in
set_option maxHeartbeats 1600000 in
theorem extend_c (p : Nat) (g : List Int) (n d : Int) (hn : ok1 n) (hd : 0 ≤ d ∧ d ≤ 9) (w : World) (hB : Blk w p 39 (cbF (g ++ [n]))) : Calls Tryd.prog 31 #[.pointer (some ⟨p, 0, none⟩), .int .i64 d] w fun e w' => e = .returned (.tuple #[]) ∧ Fr (fun k => k = p) w w' ∧ Blk w' p 39 (cbF (g ++ [dig n d])) := by
  have hl : (g ++ [n]).length = g.length + 1 := by simp
  refine calls_args (vl := [Value.pointer (some ⟨p, 0, none⟩), Value.int .i64 d]) 29 Tryd.func31 rfl Tryd.ntmps31 (by kernel_rfl) (fun a he => ?_)
  have he0 : Env 29 [(0, Value.pointer (some ⟨p, 0, none⟩)), (1, Value.int .i64 d)] a := he
  clear he
  have hH := Hp.bare1 hB
  have hF := Fr.refl (fun k => k = p) w
  refine wp_seq ?_
  refine wp_seq ?_
  refine wp_region_lit ?_
  refine lV (Value.pointer (some ⟨p, 0, none⟩)) he0 rfl rfl (wanted_plain rfl _) (rn_mv rfl (he0.op rfl) w) ?_
  intro a1 he1
  clear he0 a
  refine lV (Value.pointer (some ⟨p, 0, none⟩)) he1 rfl rfl (wanted_plain rfl _) (rn_nilck rfl (he1.op rfl) w) ?_
  intro a2 he2
  clear he1 a1
  refine lV (Value.pointer (some ⟨p, 16, none⟩)) he2 rfl rfl (wanted_plain rfl _) (rn_faN1 rfl (he2.op rfl) rfl w) ?_
  intro a3 he3
  clear he2 a2
  refine lV (Value.int .i64 ((min (g ++ [n]).length 17 : Nat) : Int)) he3 rfl rfl (wanted_plain rfl _) (rn_ldD rfl (he3.op rfl) (hH.at (i := 0) rfl) (buI_16 _)) ?_
  intro a4 he4
  clear he3 a3
  by_cases hb0 : 16 < ((min (g ++ [n]).length 17 : Nat) : Int)
  · skip
    refine lV (Value.bool true) he4 rfl rfl (wanted_plain rfl _) (rn_gtI rfl (he4.op rfl) (he4.op rfl) (decide_eq_true hb0) w) ?_
    intro a5 he5
    clear he4 a4
    refine wpList_nil ?_
    refine then_ok ?_
    refine wp_cond_true (he5.op rfl) ?_
    refine wp_ret ?_
    try simp only [Exit.then, Exit.inBlock, Exit.noGoto]
    exact ret_none rfl he5 ⟨rfl, hF, by rw [← cb_same (n := n) (by omega)]; exact hH.at (i := 0) rfl⟩
  · skip
    refine lV (Value.bool false) he4 rfl rfl (wanted_plain rfl _) (rn_gtI rfl (he4.op rfl) (he4.op rfl) (decide_eq_false hb0) w) ?_
    intro a5 he5
    clear he4 a4
    refine wpList_nil ?_
    refine then_ok ?_
    refine wp_cond_false (he5.op rfl) ?_
    refine wp_skip ?_
    refine then_ok ?_
    refine wp_seq ?_
    refine wp_region_held_drew (S := Hp (bare w) [⟨p, 39, (cbF (g ++ [n]))⟩]) (by kernel_rfl) (hH.drew) (fun _ => ?_)
    have hn : New w (World.drew w) := (Fr.refl _ _).drew
    replace hF := hF.nw hn
    clear hn
    have hH6 := hH.drew
    clear hH
    generalize World.drew w = w6 at *
    refine hV (fuel := 9) (i := 0) (Value.pointer (some ⟨p, 0, none⟩)) he5 rfl rfl rfl (by kernel_rfl) (by kernel_rfl) (by kernel_rfl) (fun _ _ _ h => h) (wanted_plain rfl _) (fun w' _ => rn_mv rfl (he5.op rfl) w') hH6 ?_
    intro a7 he7
    clear he5 a5
    refine hV (fuel := 8) (i := 1) (Value.pointer (some ⟨p, 0, none⟩)) he7 rfl rfl rfl (by kernel_rfl) (by kernel_rfl) (by kernel_rfl) (fun _ _ _ h => h) (wanted_plain rfl _) (fun w' _ => rn_mv rfl (he7.op rfl) w') hH6 ?_
    intro a8 he8
    clear he7 a7
    refine hV (fuel := 7) (i := 2) (Value.pointer (some ⟨p, 0, none⟩)) he8 rfl rfl rfl (by kernel_rfl) (by kernel_rfl) (by kernel_rfl) (fun _ _ _ h => h) (wanted_plain rfl _) (fun w' _ => rn_nilck rfl (he8.op rfl) w') hH6 ?_
    intro a9 he9
    clear he8 a8
    refine hV (fuel := 6) (i := 3) (Value.pointer (some ⟨p, 16, none⟩)) he9 rfl rfl rfl (by kernel_rfl) (by kernel_rfl) (by kernel_rfl) (fun _ _ _ h => h) (wanted_plain rfl _) (fun w' _ => rn_faN1 rfl (he9.op rfl) rfl w') hH6 ?_
    intro a10 he10
    clear he9 a9
    refine hV (fuel := 5) (i := 4) (Value.int .i64 ((min (g ++ [n]).length 17 : Nat) : Int)) he10 rfl rfl rfl (by kernel_rfl) (by kernel_rfl) (by kernel_rfl) (fun _ _ _ h => h) (wanted_plain rfl _) (fun w' hw' => rn_ldD rfl (he10.op rfl) (hw'.at (i := 0) rfl) (buI_16 _)) hH6 ?_
    intro a11 he11
    clear he10 a10
    refine hV (fuel := 4) (i := 5) (Value.int .i64 (((min (g ++ [n]).length 17 : Nat) : Int) - 1)) he11 rfl rfl rfl (by kernel_rfl) (by kernel_rfl) (by kernel_rfl) (fun _ _ _ h => h) (wanted_plain rfl _) (fun w' _ => rn_subI rfl (he11.op rfl) (he11.op rfl) (i64w (by omega) (by omega)) w') hH6 ?_
    intro a12 he12
    clear he11 a11
    refine hV (fuel := 3) (i := 6) (Value.pointer (some ⟨p, 0, none⟩)) he12 rfl rfl rfl (by kernel_rfl) (by kernel_rfl) (by kernel_rfl) (fun _ _ _ h => h) (wanted_plain rfl _) (fun w' _ => rn_nilck rfl (he12.op rfl) w') hH6 ?_
    intro a13 he13
    clear he12 a12
    refine hV (fuel := 2) (i := 7) (Value.pointer (some ⟨p, 0, none⟩)) he13 rfl rfl rfl (by kernel_rfl) (by kernel_rfl) (by kernel_rfl) (fun _ _ _ h => h) (wanted_plain rfl _) (fun w' _ => rn_faN0 rfl (he13.op rfl) rfl w') hH6 ?_
    intro a14 he14
    clear he13 a13
    refine hV (fuel := 1) (i := 8) (Value.pointer (some ⟨p, g.length, none⟩)) he14 rfl rfl rfl (by kernel_rfl) (by kernel_rfl) (by kernel_rfl) (fun _ _ _ h => h) (wanted_plain rfl _) (fun w' _ => rn_iaN (k := g.length) rfl (he14.op rfl) (he14.op rfl) (by omega) (by omega) w') hH6 ?_
    intro a15 he15
    clear he14 a14
    refine hV (fuel := 0) (i := 9) (Value.pointer (some ⟨p, g.length, none⟩)) he15 rfl rfl rfl (by kernel_rfl) (by kernel_rfl) (by kernel_rfl) (fun _ _ _ h => h) (wanted_plain rfl _) (fun w' _ => rn_asg rfl (he15.op rfl) w') hH6 ?_
    intro a16 he16
    clear he15 a15
    refine wpAnyH_done (by kernel_rfl) ?_ _
    refine then_ok ?_
    refine wp_region_lit ?_
    refine lV (Value.pointer (some ⟨p, g.length, none⟩)) he16 rfl rfl (wanted_plain rfl _) (rn_mv rfl (he16.op rfl) w6) ?_
    intro a17 he17
    clear he16 a16
    refine lV (Value.pointer (some ⟨p, g.length, none⟩)) he17 rfl rfl (wanted_plain rfl _) (rn_mv rfl (he17.op rfl) w6) ?_
    intro a18 he18
    clear he17 a17
    refine lV (Value.pointer (some ⟨p, g.length, none⟩)) he18 rfl rfl (wanted_plain rfl _) (rn_nilck rfl (he18.op rfl) w6) ?_
    intro a19 he19
    clear he18 a18
    refine lV (Value.int .i64 n) he19 rfl rfl (wanted_plain rfl _) (rn_ldD rfl (he19.op rfl) (hH6.at (i := 0) rfl) (buI_last (by omega))) ?_
    intro a20 he20
    clear he19 a19
    refine lV (Value.int .i64 (max n 0)) he20 rfl rfl (wanted_plain rfl _) (rn_maxI rfl (he20.op rfl) (he20.op rfl) rfl w6) ?_
    intro a21 he21
    clear he20 a20
    refine lV (Value.int .i64 ((max n 0) * 10)) he21 rfl rfl (wanted_plain rfl _) (rn_mulI rfl (he21.op rfl) (he21.op rfl) (i64w (by omega) (by omega)) w6) ?_
    intro a22 he22
    clear he21 a21
    refine lV (Value.int .i64 d) he22 rfl rfl (wanted_plain rfl _) (rn_mv rfl (he22.op rfl) w6) ?_
    intro a23 he23
    clear he22 a22
    refine lV (Value.int .i64 (((max n 0) * 10) + d)) he23 rfl rfl (wanted_plain rfl _) (rn_addI rfl (he23.op rfl) (he23.op rfl) (i64w (by omega) (by omega)) w6) ?_
    intro a24 he24
    clear he23 a23
    refine lV (Value.int .i64 (min (((max n 0) * 10) + d) 9999)) he24 rfl rfl (wanted_plain rfl _) (rn_minI rfl (he24.op rfl) (he24.op rfl) rfl w6) ?_
    intro a25 he25
    clear he24 a24
    refine lV (Value.pointer (some ⟨p, g.length, none⟩)) he25 rfl rfl (wanted_plain rfl _) (rn_nilck rfl (he25.op rfl) w6) ?_
    intro a26 he26
    clear he25 a25
    refine lSetD 0 (cs := (cbF (g ++ [dig n d]))) he26 hH6 rfl (wanted_plain rfl _) rfl rfl rfl rfl rfl infoI1 rfl (lt_cb (by omega)) (cb_dig (by omega)) ?_
    intro w27 a28 hH27 hf he28
    replace hF := hF.st hf
    replace hH27 : Hp (bare w) [⟨p, 39, (cbF (g ++ [dig n d]))⟩] w27 := hH27
    clear hf
    clear he26 a26 hH6
    refine wpList_nil ?_
    exact end_none rfl he28 ⟨rfl, hF, hH27.at (i := 0) rfl⟩
set_option linter.unusedSimpArgs false in
set_option maxRecDepth 100000 in
set_option maxHeartbeats 1600000 in
theorem AddF_c (p : Nat) (f : List Int) (c : UInt8) (hc : fine c) (hf : okF f) (w : World) (hB : Blk w p 39 (cbF f)) : Calls Tryd.prog 20 #[.pointer (some ⟨p, 0, none⟩), .int .i32 (c.toNat : Int)] w fun e w' => e = .returned (.bool true) ∧ Fr (fun k => k = p) w w' ∧ Blk w' p 39 (cbF (addF f c)) := by
  obtain ⟨g, n, hg⟩ := snoc_of (nz_ne f)
  have hn : ok1 n := okF_nz hf n (by rw [hg]; simp)
  have hl : (g ++ [n]).length = g.length + 1 := by simp
  clear hf
  refine calls_args (vl := [Value.pointer (some ⟨p, 0, none⟩), Value.int .i32 (c.toNat : Int)]) 64 Tryd.func20 rfl Tryd.ntmps20 (by kernel_rfl) (fun a he => ?_)
  have he0 : Env 64 [(0, Value.pointer (some ⟨p, 0, none⟩)), (1, Value.int .i32 (c.toNat : Int))] a := he
  clear he
  have hH := Hp.bare1 hB
  have hF := Fr.refl (fun k => k = p) w
  refine wp_seq ?_
  refine wp_region_lit ?_
  refine lV (Value.bool false) he0 rfl rfl (wanted_plain rfl _) (rn_asg rfl (he0.op rfl) w) ?_
  intro a1 he1
  clear he0 a
  refine wpList_nil ?_
  refine then_ok ?_
  refine wp_seq ?_
  refine wp_region_lit ?_
  refine lV (Value.int .i32 (c.toNat : Int)) he1 rfl rfl (wanted_plain rfl _) (rn_mv rfl (he1.op rfl) w) ?_
  intro a2 he2
  clear he1 a1
  by_cases hb0 : 48 ≤ (c.toNat : Int)
  · skip
    refine lV (Value.bool true) he2 rfl rfl (wanted_plain rfl _) (rn_geR rfl (he2.op rfl) (he2.op rfl) (decide_eq_true hb0) w) ?_
    intro a3 he3
    clear he2 a2
    refine lV (Value.bool true) he3 rfl rfl (wanted_plain rfl _) (rn_mv rfl (he3.op rfl) w) ?_
    intro a4 he4
    clear he3 a3
    refine lV (Value.int .i32 (c.toNat : Int)) he4 rfl rfl (he4.want rfl rfl rfl rfl rfl) (rn_mv rfl (he4.op rfl) w) ?_
    intro a5 he5
    clear he4 a4
    by_cases hb1 : (c.toNat : Int) ≤ 57
    · skip
      refine lV (Value.bool true) he5 rfl rfl (he5.want rfl rfl rfl rfl rfl) (rn_leR rfl (he5.op rfl) (he5.op rfl) (decide_eq_true hb1) w) ?_
      intro a6 he6
      clear he5 a5
      refine lV (Value.bool true) he6 rfl rfl (wanted_plain rfl _) (rn_pk rfl (he6.op rfl) (he6.op rfl) w) ?_
      intro a7 he7
      clear he6 a6
      refine lV (Value.bool true) he7 rfl rfl (wanted_plain rfl _) (rn_asg rfl (he7.op rfl) w) ?_
      intro a8 he8
      clear he7 a7
      refine wpList_nil ?_
      refine then_ok ?_
      refine wp_seq ?_
      refine wp_seq ?_
      refine wp_region_lit ?_
      refine lV (Value.pointer (some ⟨p, 0, none⟩)) he8 rfl rfl (wanted_plain rfl _) (rn_mv rfl (he8.op rfl) w) ?_
      intro a9 he9
      clear he8 a8
      refine lV (Value.bool false) he9 rfl rfl (wanted_plain rfl _) (rn_eqP1 rfl (he9.op rfl) (he9.op rfl) w) ?_
      intro a10 he10
      clear he9 a9
      refine lV (Value.bool false) he10 rfl rfl (wanted_plain rfl _) (rn_mv rfl (he10.op rfl) w) ?_
      intro a11 he11
      clear he10 a10
      refine lV (Value.bool true) he11 rfl rfl (he11.want rfl rfl rfl rfl rfl) (rn_mv rfl (he11.op rfl) w) ?_
      intro a12 he12
      clear he11 a11
      refine lV (Value.bool false) he12 rfl rfl (he12.want rfl rfl rfl rfl rfl) (rn_not (b := true) rfl (he12.op rfl) w) ?_
      intro a13 he13
      clear he12 a12
      refine lV (Value.bool false) he13 rfl rfl (he13.want rfl rfl rfl rfl rfl) (rn_mv rfl (he13.op rfl) w) ?_
      intro a14 he14
      clear he13 a13
      refine lSkip he14 rfl rfl (he14.wantNot rfl rfl rfl rfl rfl rfl) ?_
      intro a15 he15
      clear he14 a14
      refine lSkip he15 rfl rfl (he15.wantNot rfl rfl rfl rfl rfl rfl) ?_
      intro a16 he16
      clear he15 a15
      refine lV (Value.bool false) he16 rfl rfl (he16.want rfl rfl rfl rfl rfl) (rn_pk0 rfl (he16.op rfl) (he16.op rfl) w) ?_
      intro a17 he17
      clear he16 a16
      refine lV (Value.bool false) he17 rfl rfl (wanted_plain rfl _) (rn_pk0 rfl (he17.op rfl) (he17.op rfl) w) ?_
      intro a18 he18
      clear he17 a17
      refine wpList_nil ?_
      refine then_ok ?_
      refine wp_cond_false (he18.op rfl) ?_
      refine wp_skip ?_
      refine then_ok ?_
      refine wp_seq ?_
      refine wp_seq ?_
      refine wp_region_lit ?_
      refine lV (Value.pointer (some ⟨p, 0, none⟩)) he18 rfl rfl (wanted_plain rfl _) (rn_mv rfl (he18.op rfl) w) ?_
      intro a19 he19
      clear he18 a18
      refine lV (Value.pointer (some ⟨p, 0, none⟩)) he19 rfl rfl (wanted_plain rfl _) (rn_nilck rfl (he19.op rfl) w) ?_
      intro a20 he20
      clear he19 a19
      refine lV (Value.pointer (some ⟨p, 16, none⟩)) he20 rfl rfl (wanted_plain rfl _) (rn_faN1 rfl (he20.op rfl) rfl w) ?_
      intro a21 he21
      clear he20 a20
      refine lV (Value.int .i64 ((min f.length 17 : Nat) : Int)) he21 rfl rfl (wanted_plain rfl _) (rn_ldD rfl (he21.op rfl) (hH.at (i := 0) rfl) (buI_16 _)) ?_
      intro a22 he22
      clear he21 a21
      by_cases hb2 : ((min f.length 17 : Nat) : Int) = 0
      · skip
        refine lV (Value.bool true) he22 rfl rfl (wanted_plain rfl _) (rn_eqI rfl (he22.op rfl) (he22.op rfl) (beqT hb2) w) ?_
        intro a23 he23
        clear he22 a22
        refine wpList_nil ?_
        refine then_ok ?_
        refine wp_cond_true (he23.op rfl) ?_
        refine wp_region_lit ?_
        refine lV (Value.pointer (some ⟨p, 0, none⟩)) he23 rfl rfl (wanted_plain rfl _) (rn_mv rfl (he23.op rfl) w) ?_
        intro a24 he24
        clear he23 a23
        refine lV (Value.pointer (some ⟨p, 0, none⟩)) he24 rfl rfl (wanted_plain rfl _) (rn_mv rfl (he24.op rfl) w) ?_
        intro a25 he25
        clear he24 a24
        refine lV (Value.pointer (some ⟨p, 0, none⟩)) he25 rfl rfl (wanted_plain rfl _) (rn_nilck rfl (he25.op rfl) w) ?_
        intro a26 he26
        clear he25 a25
        refine lV (Value.pointer (some ⟨p, 0, none⟩)) he26 rfl rfl (wanted_plain rfl _) (rn_faN0 rfl (he26.op rfl) rfl w) ?_
        intro a27 he27
        clear he26 a26
        refine lV (Value.pointer (some ⟨p, 0, none⟩)) he27 rfl rfl (wanted_plain rfl _) (rn_iaN (k := 0) rfl (he27.op rfl) (he27.op rfl) rfl (by decide) w) ?_
        intro a28 he28
        clear he27 a27
        refine lSetD 0 (cs := (setI (cbF f) 0 (.int .i64 (-1)))) he28 hH rfl (wanted_plain rfl _) rfl rfl rfl rfl rfl infoI1 rfl (lt_cb (by omega)) rfl ?_
        intro w29 a30 hH29 hf he30
        replace hF := hF.st hf
        replace hH29 : Hp (bare w) [⟨p, 39, (setI (cbF f) 0 (.int .i64 (-1)))⟩] w29 := hH29
        clear hf
        clear he28 a28 hH
        refine lV (Value.pointer (some ⟨p, 0, none⟩)) he30 rfl rfl (wanted_plain rfl _) (rn_nilck rfl (he30.op rfl) w29) ?_
        intro a31 he31
        clear he30 a30
        refine lV (Value.pointer (some ⟨p, 16, none⟩)) he31 rfl rfl (wanted_plain rfl _) (rn_faN1 rfl (he31.op rfl) rfl w29) ?_
        intro a32 he32
        clear he31 a31
        refine lSetD 0 (cs := (cbF (g ++ [n]))) he32 hH29 rfl (wanted_plain rfl _) rfl rfl rfl rfl rfl infoI1 rfl (lt_set (by omega)) (cb_first (by omega) hg) ?_
        intro w33 a34 hH33 hf he34
        replace hF := hF.st hf
        replace hH33 : Hp (bare w) [⟨p, 39, (cbF (g ++ [n]))⟩] w33 := hH33
        clear hf
        clear he32 a32 hH29
        refine wpList_nil ?_
        refine then_ok ?_
        refine wp_seq ?_
        refine wp_block ?_
        refine wp_seq ?_
        refine wp_block ?_
        refine wp_seq ?_
        refine wp_block ?_
        refine wp_seq ?_
        refine wp_block ?_
        refine wp_seq ?_
        refine wp_seq ?_
        refine wp_seq ?_
        refine wp_region_lit ?_
        refine lV (Value.bool true) he34 rfl rfl (wanted_plain rfl _) (rn_mv rfl (he34.op rfl) w33) ?_
        intro a35 he35
        clear he34 a34
        refine lV (Value.bool true) he35 rfl rfl (wanted_plain rfl _) (rn_asg rfl (he35.op rfl) w33) ?_
        intro a36 he36
        clear he35 a35
        refine wpList_nil ?_
        refine then_ok ?_
        refine wp_cond_true (he36.op rfl) ?_
        refine wp_exit ?_
        refine then_exit ?_
        refine then_exit ?_
        refine block_exit ?_
        refine then_ok ?_
        refine wp_seq ?_
        refine wp_region_lit ?_
        refine lV (Value.pointer (some ⟨p, 0, none⟩)) he36 rfl rfl (wanted_plain rfl _) (rn_mv rfl (he36.op rfl) w33) ?_
        intro a37 he37
        clear he36 a36
        refine lV (Value.int .i32 (c.toNat : Int)) he37 rfl rfl (wanted_plain rfl _) (rn_mv rfl (he37.op rfl) w33) ?_
        intro a38 he38
        clear he37 a37
        refine lV (Value.int .i32 ((c.toNat : Int) - 48)) he38 rfl rfl (wanted_plain rfl _) (rn_subR rfl (he38.op rfl) (he38.op rfl) (i32w (by omega) (by omega)) w33) ?_
        intro a39 he39
        clear he38 a38
        refine lV (Value.int .i64 ((c.toNat : Int) - 48)) he39 rfl rfl (wanted_plain rfl _) (rn_cvRI rfl (he39.op rfl) (i64w (by omega) (by omega)) w33) ?_
        intro a40 he40
        clear he39 a39
        refine lCx he40 rfl rfl Tryd.func31 (by kernel_rfl) rfl rfl (wanted_plain rfl _) rfl (extend_c p g n ((c.toNat : Int) - 48) hn (by omega) w33 (hH33.at (i := 0) rfl)) ?_
        rintro _ w41 ⟨rfl, hf, hB_⟩
        replace hF := hF.st hf
        have hH41 : Hp (bare w) [⟨p, 39, (cbF (g ++ [dig n ((c.toNat : Int) - 48)]))⟩] w41 := hH33.turn 0 rfl hf hB_ rfl
        refine ⟨_, rfl, ?_⟩
        intro a42 he42
        clear he40 a40 hH33 hf hB_
        refine wpList_nil ?_
        refine then_ok ?_
        refine wp_exit ?_
        refine block_pass (by decide) ?_
        refine then_exit ?_
        refine block_pass (by decide) ?_
        refine then_exit ?_
        refine block_exit ?_
        refine then_ok ?_
        refine wp_seq ?_
        refine wp_region_lit ?_
        refine lV (Value.bool true) he42 rfl rfl (wanted_plain rfl _) (rn_asg rfl (he42.op rfl) w41) ?_
        intro a43 he43
        clear he42 a42
        refine wpList_nil ?_
        refine then_ok ?_
        refine wp_ret ?_
        try simp only [Exit.then, Exit.inBlock, Exit.noGoto]
        exact ret_env rfl he43 rfl ⟨rfl, hF, by rw [addF_dig (by omega) hg]; exact hH41.at (i := 0) rfl⟩
      · skip
        refine lV (Value.bool false) he22 rfl rfl (wanted_plain rfl _) (rn_eqI rfl (he22.op rfl) (he22.op rfl) (beqF hb2) w) ?_
        intro a23 he23
        clear he22 a22
        refine wpList_nil ?_
        refine then_ok ?_
        refine wp_cond_false (he23.op rfl) ?_
        refine wp_skip ?_
        refine then_ok ?_
        refine wp_seq ?_
        refine wp_block ?_
        refine wp_seq ?_
        refine wp_block ?_
        refine wp_seq ?_
        refine wp_block ?_
        refine wp_seq ?_
        refine wp_block ?_
        refine wp_seq ?_
        refine wp_seq ?_
        refine wp_seq ?_
        have hfg : f = g ++ [n] := (nz_of (by rintro rfl; simp at *)).symm.trans hg
        rw [hfg] at hH
        refine wp_region_lit ?_
        refine lV (Value.bool true) he23 rfl rfl (wanted_plain rfl _) (rn_mv rfl (he23.op rfl) w) ?_
        intro a24 he24
        clear he23 a23
        refine lV (Value.bool true) he24 rfl rfl (wanted_plain rfl _) (rn_asg rfl (he24.op rfl) w) ?_
        intro a25 he25
        clear he24 a24
        refine wpList_nil ?_
        refine then_ok ?_
        refine wp_cond_true (he25.op rfl) ?_
        refine wp_exit ?_
        refine then_exit ?_
        refine then_exit ?_
        refine block_exit ?_
        refine then_ok ?_
        refine wp_seq ?_
        refine wp_region_lit ?_
        refine lV (Value.pointer (some ⟨p, 0, none⟩)) he25 rfl rfl (wanted_plain rfl _) (rn_mv rfl (he25.op rfl) w) ?_
        intro a26 he26
        clear he25 a25
        refine lV (Value.int .i32 (c.toNat : Int)) he26 rfl rfl (wanted_plain rfl _) (rn_mv rfl (he26.op rfl) w) ?_
        intro a27 he27
        clear he26 a26
        refine lV (Value.int .i32 ((c.toNat : Int) - 48)) he27 rfl rfl (wanted_plain rfl _) (rn_subR rfl (he27.op rfl) (he27.op rfl) (i32w (by omega) (by omega)) w) ?_
        intro a28 he28
        clear he27 a27
        refine lV (Value.int .i64 ((c.toNat : Int) - 48)) he28 rfl rfl (wanted_plain rfl _) (rn_cvRI rfl (he28.op rfl) (i64w (by omega) (by omega)) w) ?_
        intro a29 he29
        clear he28 a28
        refine lCx he29 rfl rfl Tryd.func31 (by kernel_rfl) rfl rfl (wanted_plain rfl _) rfl (extend_c p g n ((c.toNat : Int) - 48) hn (by omega) w (hH.at (i := 0) rfl)) ?_
        rintro _ w30 ⟨rfl, hf, hB_⟩
        replace hF := hF.st hf
        have hH30 : Hp (bare w) [⟨p, 39, (cbF (g ++ [dig n ((c.toNat : Int) - 48)]))⟩] w30 := hH.turn 0 rfl hf hB_ rfl
        refine ⟨_, rfl, ?_⟩
        intro a31 he31
        clear he29 a29 hH hf hB_
        refine wpList_nil ?_
        refine then_ok ?_
        refine wp_exit ?_
        refine block_pass (by decide) ?_
        refine then_exit ?_
        refine block_pass (by decide) ?_
        refine then_exit ?_
        refine block_exit ?_
        refine then_ok ?_
        refine wp_seq ?_
        refine wp_region_lit ?_
        refine lV (Value.bool true) he31 rfl rfl (wanted_plain rfl _) (rn_asg rfl (he31.op rfl) w30) ?_
        intro a32 he32
        clear he31 a31
        refine wpList_nil ?_
        refine then_ok ?_
        refine wp_ret ?_
        try simp only [Exit.then, Exit.inBlock, Exit.noGoto]
        exact ret_env rfl he32 rfl ⟨rfl, hF, by rw [addF_dig (by omega) hg]; exact hH30.at (i := 0) rfl⟩
    · skip
      refine lV (Value.bool false) he5 rfl rfl (he5.want rfl rfl rfl rfl rfl) (rn_leR rfl (he5.op rfl) (he5.op rfl) (decide_eq_false hb1) w) ?_
      intro a6 he6
      clear he5 a5
      refine lV (Value.bool false) he6 rfl rfl (wanted_plain rfl _) (rn_pk rfl (he6.op rfl) (he6.op rfl) w) ?_
      intro a7 he7
      clear he6 a6
      refine lV (Value.bool false) he7 rfl rfl (wanted_plain rfl _) (rn_asg rfl (he7.op rfl) w) ?_
      intro a8 he8
      clear he7 a7
      refine wpList_nil ?_
      refine then_ok ?_
      refine wp_seq ?_
      refine wp_seq ?_
      refine wp_region_lit ?_
      refine lV (Value.pointer (some ⟨p, 0, none⟩)) he8 rfl rfl (wanted_plain rfl _) (rn_mv rfl (he8.op rfl) w) ?_
      intro a9 he9
      clear he8 a8
      refine lV (Value.bool false) he9 rfl rfl (wanted_plain rfl _) (rn_eqP1 rfl (he9.op rfl) (he9.op rfl) w) ?_
      intro a10 he10
      clear he9 a9
      refine lV (Value.bool false) he10 rfl rfl (wanted_plain rfl _) (rn_mv rfl (he10.op rfl) w) ?_
      intro a11 he11
      clear he10 a10
      refine lV (Value.bool false) he11 rfl rfl (he11.want rfl rfl rfl rfl rfl) (rn_mv rfl (he11.op rfl) w) ?_
      intro a12 he12
      clear he11 a11
      refine lV (Value.bool true) he12 rfl rfl (he12.want rfl rfl rfl rfl rfl) (rn_not (b := false) rfl (he12.op rfl) w) ?_
      intro a13 he13
      clear he12 a12
      refine lV (Value.bool true) he13 rfl rfl (he13.want rfl rfl rfl rfl rfl) (rn_mv rfl (he13.op rfl) w) ?_
      intro a14 he14
      clear he13 a13
      refine lV (Value.int .i32 (c.toNat : Int)) he14 rfl rfl (he14.want rfl rfl rfl rfl rfl) (rn_mv rfl (he14.op rfl) w) ?_
      intro a15 he15
      clear he14 a14
      by_cases hb2 : (c.toNat : Int) = 59
      · skip
        refine lV (Value.bool false) he15 rfl rfl (he15.want rfl rfl rfl rfl rfl) (rn_neR rfl (he15.op rfl) (he15.op rfl) (bneT hb2) w) ?_
        intro a16 he16
        clear he15 a15
        refine lV (Value.bool false) he16 rfl rfl (he16.want rfl rfl rfl rfl rfl) (rn_pk rfl (he16.op rfl) (he16.op rfl) w) ?_
        intro a17 he17
        clear he16 a16
        refine lV (Value.bool false) he17 rfl rfl (wanted_plain rfl _) (rn_pk0 rfl (he17.op rfl) (he17.op rfl) w) ?_
        intro a18 he18
        clear he17 a17
        refine wpList_nil ?_
        refine then_ok ?_
        refine wp_cond_false (he18.op rfl) ?_
        refine wp_skip ?_
        refine then_ok ?_
        refine wp_seq ?_
        refine wp_seq ?_
        refine wp_region_lit ?_
        refine lV (Value.pointer (some ⟨p, 0, none⟩)) he18 rfl rfl (wanted_plain rfl _) (rn_mv rfl (he18.op rfl) w) ?_
        intro a19 he19
        clear he18 a18
        refine lV (Value.pointer (some ⟨p, 0, none⟩)) he19 rfl rfl (wanted_plain rfl _) (rn_nilck rfl (he19.op rfl) w) ?_
        intro a20 he20
        clear he19 a19
        refine lV (Value.pointer (some ⟨p, 16, none⟩)) he20 rfl rfl (wanted_plain rfl _) (rn_faN1 rfl (he20.op rfl) rfl w) ?_
        intro a21 he21
        clear he20 a20
        refine lV (Value.int .i64 ((min f.length 17 : Nat) : Int)) he21 rfl rfl (wanted_plain rfl _) (rn_ldD rfl (he21.op rfl) (hH.at (i := 0) rfl) (buI_16 _)) ?_
        intro a22 he22
        clear he21 a21
        by_cases hb3 : ((min f.length 17 : Nat) : Int) = 0
        · skip
          refine lV (Value.bool true) he22 rfl rfl (wanted_plain rfl _) (rn_eqI rfl (he22.op rfl) (he22.op rfl) (beqT hb3) w) ?_
          intro a23 he23
          clear he22 a22
          refine wpList_nil ?_
          refine then_ok ?_
          refine wp_cond_true (he23.op rfl) ?_
          refine wp_region_lit ?_
          refine lV (Value.pointer (some ⟨p, 0, none⟩)) he23 rfl rfl (wanted_plain rfl _) (rn_mv rfl (he23.op rfl) w) ?_
          intro a24 he24
          clear he23 a23
          refine lV (Value.pointer (some ⟨p, 0, none⟩)) he24 rfl rfl (wanted_plain rfl _) (rn_mv rfl (he24.op rfl) w) ?_
          intro a25 he25
          clear he24 a24
          refine lV (Value.pointer (some ⟨p, 0, none⟩)) he25 rfl rfl (wanted_plain rfl _) (rn_nilck rfl (he25.op rfl) w) ?_
          intro a26 he26
          clear he25 a25
          refine lV (Value.pointer (some ⟨p, 0, none⟩)) he26 rfl rfl (wanted_plain rfl _) (rn_faN0 rfl (he26.op rfl) rfl w) ?_
          intro a27 he27
          clear he26 a26
          refine lV (Value.pointer (some ⟨p, 0, none⟩)) he27 rfl rfl (wanted_plain rfl _) (rn_iaN (k := 0) rfl (he27.op rfl) (he27.op rfl) rfl (by decide) w) ?_
          intro a28 he28
          clear he27 a27
          refine lSetD 0 (cs := (setI (cbF f) 0 (.int .i64 (-1)))) he28 hH rfl (wanted_plain rfl _) rfl rfl rfl rfl rfl infoI1 rfl (lt_cb (by omega)) rfl ?_
          intro w29 a30 hH29 hf he30
          replace hF := hF.st hf
          replace hH29 : Hp (bare w) [⟨p, 39, (setI (cbF f) 0 (.int .i64 (-1)))⟩] w29 := hH29
          clear hf
          clear he28 a28 hH
          refine lV (Value.pointer (some ⟨p, 0, none⟩)) he30 rfl rfl (wanted_plain rfl _) (rn_nilck rfl (he30.op rfl) w29) ?_
          intro a31 he31
          clear he30 a30
          refine lV (Value.pointer (some ⟨p, 16, none⟩)) he31 rfl rfl (wanted_plain rfl _) (rn_faN1 rfl (he31.op rfl) rfl w29) ?_
          intro a32 he32
          clear he31 a31
          refine lSetD 0 (cs := (cbF (g ++ [n]))) he32 hH29 rfl (wanted_plain rfl _) rfl rfl rfl rfl rfl infoI1 rfl (lt_set (by omega)) (cb_first (by omega) hg) ?_
          intro w33 a34 hH33 hf he34
          replace hF := hF.st hf
          replace hH33 : Hp (bare w) [⟨p, 39, (cbF (g ++ [n]))⟩] w33 := hH33
          clear hf
          clear he32 a32 hH29
          refine wpList_nil ?_
          refine then_ok ?_
          refine wp_seq ?_
          refine wp_block ?_
          refine wp_seq ?_
          refine wp_block ?_
          refine wp_seq ?_
          refine wp_block ?_
          refine wp_seq ?_
          refine wp_block ?_
          refine wp_seq ?_
          refine wp_seq ?_
          refine wp_seq ?_
          refine wp_region_lit ?_
          refine lV (Value.bool false) he34 rfl rfl (wanted_plain rfl _) (rn_mv rfl (he34.op rfl) w33) ?_
          intro a35 he35
          clear he34 a34
          refine lV (Value.bool false) he35 rfl rfl (wanted_plain rfl _) (rn_asg rfl (he35.op rfl) w33) ?_
          intro a36 he36
          clear he35 a35
          refine wpList_nil ?_
          refine then_ok ?_
          refine wp_cond_false (he36.op rfl) ?_
          refine wp_skip ?_
          refine then_ok ?_
          refine wp_seq ?_
          refine wp_region_lit ?_
          refine lV (Value.pointer (some ⟨p, 0, none⟩)) he36 rfl rfl (wanted_plain rfl _) (rn_mv rfl (he36.op rfl) w33) ?_
          intro a37 he37
          clear he36 a36
          refine lV (Value.pointer (some ⟨p, 0, none⟩)) he37 rfl rfl (wanted_plain rfl _) (rn_nilck rfl (he37.op rfl) w33) ?_
          intro a38 he38
          clear he37 a37
          refine lV (Value.pointer (some ⟨p, 16, none⟩)) he38 rfl rfl (wanted_plain rfl _) (rn_faN1 rfl (he38.op rfl) rfl w33) ?_
          intro a39 he39
          clear he38 a38
          refine lV (Value.int .i64 ((min (g ++ [n]).length 17 : Nat) : Int)) he39 rfl rfl (wanted_plain rfl _) (rn_ldD rfl (he39.op rfl) (hH33.at (i := 0) rfl) (buI_16 _)) ?_
          intro a40 he40
          clear he39 a39
          by_cases hb4 : ((min (g ++ [n]).length 17 : Nat) : Int) < 16
          · skip
            refine lV (Value.bool true) he40 rfl rfl (wanted_plain rfl _) (rn_lsI rfl (he40.op rfl) (he40.op rfl) (decide_eq_true hb4) w33) ?_
            intro a41 he41
            clear he40 a40
            refine lV (Value.bool true) he41 rfl rfl (wanted_plain rfl _) (rn_asg rfl (he41.op rfl) w33) ?_
            intro a42 he42
            clear he41 a41
            refine wpList_nil ?_
            refine then_ok ?_
            refine wp_cond_true (he42.op rfl) ?_
            refine wp_exit ?_
            refine then_exit ?_
            refine block_pass (by decide) ?_
            refine then_exit ?_
            refine block_exit ?_
            refine then_ok ?_
            have hn : New w33 (World.drew w33) := (Fr.refl _ _).drew
            replace hF := hF.nw hn
            clear hn
            have hH43 := hH33.drew
            clear hH33
            refine wp_region_held_drew (S := fun W => Hp (bare w) [] W ∧ W.cell? ⟨p, 16, none⟩ = some (Value.int .i64 ((min (g ++ [n]).length 17 : Nat) : Int))) (by kernel_rfl) ⟨(hH43.drop1 0 rfl), (((hH43.at (i := 0) rfl).cell 16).trans (cb_16 _))⟩ (fun _ => ?_)
            generalize World.drew w33 = w43 at *
            refine hV (fuel := 8) (i := 0) (Value.pointer (some ⟨p, 0, none⟩)) he42 rfl rfl rfl (by kernel_rfl) (by kernel_rfl) (by kernel_rfl) (fun _ _ _ h => h) (wanted_plain rfl _) (fun w' _ => rn_mv rfl (he42.op rfl) w') ⟨(hH43.drop1 0 rfl), (((hH43.at (i := 0) rfl).cell 16).trans (cb_16 _))⟩ ?_
            intro a44 he44
            clear he42 a42
            refine hV (fuel := 7) (i := 1) (Value.pointer (some ⟨p, 0, none⟩)) he44 rfl rfl rfl (by kernel_rfl) (by kernel_rfl) (by kernel_rfl) (fun _ _ _ h => h) (wanted_plain rfl _) (fun w' _ => rn_mv rfl (he44.op rfl) w') ⟨(hH43.drop1 0 rfl), (((hH43.at (i := 0) rfl).cell 16).trans (cb_16 _))⟩ ?_
            intro a45 he45
            clear he44 a44
            refine hV (fuel := 6) (i := 2) (Value.pointer (some ⟨p, 0, none⟩)) he45 rfl rfl rfl (by kernel_rfl) (by kernel_rfl) (by kernel_rfl) (fun _ _ _ h => h) (wanted_plain rfl _) (fun w' _ => rn_nilck rfl (he45.op rfl) w') ⟨(hH43.drop1 0 rfl), (((hH43.at (i := 0) rfl).cell 16).trans (cb_16 _))⟩ ?_
            intro a46 he46
            clear he45 a45
            refine hV (fuel := 5) (i := 3) (Value.pointer (some ⟨p, 16, none⟩)) he46 rfl rfl rfl (by kernel_rfl) (by kernel_rfl) (by kernel_rfl) (fun _ _ _ h => h) (wanted_plain rfl _) (fun w' _ => rn_faN1 rfl (he46.op rfl) rfl w') ⟨(hH43.drop1 0 rfl), (((hH43.at (i := 0) rfl).cell 16).trans (cb_16 _))⟩ ?_
            intro a47 he47
            clear he46 a46
            refine hV (fuel := 4) (i := 4) (Value.int .i64 ((min (g ++ [n]).length 17 : Nat) : Int)) he47 rfl rfl rfl (by kernel_rfl) (by kernel_rfl) (by kernel_rfl) (fun _ _ _ h => h) (wanted_plain rfl _) (fun w' hw' => rn_ldC rfl (he47.op rfl) hw'.2) ⟨(hH43.drop1 0 rfl), (((hH43.at (i := 0) rfl).cell 16).trans (cb_16 _))⟩ ?_
            intro a48 he48
            clear he47 a47
            refine hV (fuel := 3) (i := 5) (Value.pointer (some ⟨p, 0, none⟩)) he48 rfl rfl rfl (by kernel_rfl) (by kernel_rfl) (by kernel_rfl) (fun _ _ _ h => h) (wanted_plain rfl _) (fun w' _ => rn_nilck rfl (he48.op rfl) w') ⟨(hH43.drop1 0 rfl), (((hH43.at (i := 0) rfl).cell 16).trans (cb_16 _))⟩ ?_
            intro a49 he49
            clear he48 a48
            refine hV (fuel := 2) (i := 6) (Value.pointer (some ⟨p, 0, none⟩)) he49 rfl rfl rfl (by kernel_rfl) (by kernel_rfl) (by kernel_rfl) (fun _ _ _ h => h) (wanted_plain rfl _) (fun w' _ => rn_faN0 rfl (he49.op rfl) rfl w') ⟨(hH43.drop1 0 rfl), (((hH43.at (i := 0) rfl).cell 16).trans (cb_16 _))⟩ ?_
            intro a50 he50
            clear he49 a49
            refine hV (fuel := 1) (i := 7) (Value.pointer (some ⟨p, (g.length + 1), none⟩)) he50 rfl rfl rfl (by kernel_rfl) (by kernel_rfl) (by kernel_rfl) (fun _ _ _ h => h) (wanted_plain rfl _) (fun w' _ => rn_iaN (k := g.length + 1) rfl (he50.op rfl) (he50.op rfl) (by omega) (by omega) w') ⟨(hH43.drop1 0 rfl), (((hH43.at (i := 0) rfl).cell 16).trans (cb_16 _))⟩ ?_
            intro a51 he51
            clear he50 a50
            refine hSetD (fuel := 0) (n := 8) 0 (cs := (setI (cbF (g ++ [n])) (g.length + 1) (.int .i64 (-1)))) he51 hH43 (by kernel_rfl) rfl rfl (wanted_plain rfl _) rfl rfl rfl rfl rfl infoI1 rfl (lt_cb (by omega)) rfl ?_
            intro w52 a53 hH52 hf he53
            replace hF := hF.st hf
            replace hH52 : Hp (bare w) [⟨p, 39, (setI (cbF (g ++ [n])) (g.length + 1) (.int .i64 (-1)))⟩] w52 := hH52
            refine ⟨⟨(hH52.drop1 0 rfl), (((hH52.at (i := 0) rfl).cell 16).trans (set_16 (by omega)))⟩, ?_⟩
            clear hf
            clear he51 a51 hH43
            refine wpAnyH_done (by kernel_rfl) ?_ _
            refine block_ok ?_
            refine then_ok ?_
            refine wp_seq ?_
            refine wp_region_lit ?_
            refine lV (Value.pointer (some ⟨p, 0, none⟩)) he53 rfl rfl (wanted_plain rfl _) (rn_mv rfl (he53.op rfl) w52) ?_
            intro a54 he54
            clear he53 a53
            refine lV (Value.pointer (some ⟨p, 0, none⟩)) he54 rfl rfl (wanted_plain rfl _) (rn_mv rfl (he54.op rfl) w52) ?_
            intro a55 he55
            clear he54 a54
            refine lV (Value.pointer (some ⟨p, 0, none⟩)) he55 rfl rfl (wanted_plain rfl _) (rn_nilck rfl (he55.op rfl) w52) ?_
            intro a56 he56
            clear he55 a55
            refine lV (Value.pointer (some ⟨p, 16, none⟩)) he56 rfl rfl (wanted_plain rfl _) (rn_faN1 rfl (he56.op rfl) rfl w52) ?_
            intro a57 he57
            clear he56 a56
            refine lV (Value.int .i64 ((min (g ++ [n]).length 17 : Nat) : Int)) he57 rfl rfl (wanted_plain rfl _) (rn_ld1 rfl (he57.op rfl) Tryd.underlying3 (hH52.at (i := 0) rfl) (set_16 (by omega))) ?_
            intro a58 he58
            clear he57 a57
            refine lV (Value.int .i64 (((min (g ++ [n]).length 17 : Nat) : Int) + 1)) he58 rfl rfl (wanted_plain rfl _) (rn_addI rfl (he58.op rfl) (he58.op rfl) (i64w (by omega) (by omega)) w52) ?_
            intro a59 he59
            clear he58 a58
            refine lV (Value.int .i64 (min (((min (g ++ [n]).length 17 : Nat) : Int) + 1) 17)) he59 rfl rfl (wanted_plain rfl _) (rn_minI rfl (he59.op rfl) (he59.op rfl) rfl w52) ?_
            intro a60 he60
            clear he59 a59
            refine lV (Value.pointer (some ⟨p, 0, none⟩)) he60 rfl rfl (wanted_plain rfl _) (rn_nilck rfl (he60.op rfl) w52) ?_
            intro a61 he61
            clear he60 a60
            refine lV (Value.pointer (some ⟨p, 16, none⟩)) he61 rfl rfl (wanted_plain rfl _) (rn_faN1 rfl (he61.op rfl) rfl w52) ?_
            intro a62 he62
            clear he61 a61
            refine lSetD 0 (cs := (cbF (g ++ [n] ++ [-1]))) he62 hH52 rfl (wanted_plain rfl _) rfl rfl rfl rfl rfl infoI1 rfl (lt_set (by omega)) (cb_semiA (by omega) (by omega) (by omega)) ?_
            intro w63 a64 hH63 hf he64
            replace hF := hF.st hf
            replace hH63 : Hp (bare w) [⟨p, 39, (cbF (g ++ [n] ++ [-1]))⟩] w63 := hH63
            clear hf
            clear he62 a62 hH52
            refine wpList_nil ?_
            refine then_ok ?_
            refine wp_exit ?_
            refine block_exit ?_
            refine then_ok ?_
            refine wp_seq ?_
            refine wp_region_lit ?_
            refine lV (Value.bool true) he64 rfl rfl (wanted_plain rfl _) (rn_asg rfl (he64.op rfl) w63) ?_
            intro a65 he65
            clear he64 a64
            refine wpList_nil ?_
            refine then_ok ?_
            refine wp_ret ?_
            try simp only [Exit.then, Exit.inBlock, Exit.noGoto]
            exact ret_env rfl he65 rfl ⟨rfl, hF, by rw [addF_semi (by omega) hg]; exact hH63.at (i := 0) rfl⟩
          · skip
            refine lV (Value.bool false) he40 rfl rfl (wanted_plain rfl _) (rn_lsI rfl (he40.op rfl) (he40.op rfl) (decide_eq_false hb4) w33) ?_
            intro a41 he41
            clear he40 a40
            refine lV (Value.bool false) he41 rfl rfl (wanted_plain rfl _) (rn_asg rfl (he41.op rfl) w33) ?_
            intro a42 he42
            clear he41 a41
            refine wpList_nil ?_
            refine then_ok ?_
            refine wp_cond_false (he42.op rfl) ?_
            refine wp_skip ?_
            refine then_ok ?_
            refine wp_exit ?_
            refine block_pass (by decide) ?_
            refine then_exit ?_
            refine block_pass (by decide) ?_
            refine then_exit ?_
            refine block_exit ?_
            refine then_ok ?_
            refine wp_seq ?_
            refine wp_region_lit ?_
            refine lV (Value.pointer (some ⟨p, 0, none⟩)) he42 rfl rfl (wanted_plain rfl _) (rn_mv rfl (he42.op rfl) w33) ?_
            intro a43 he43
            clear he42 a42
            refine lV (Value.pointer (some ⟨p, 0, none⟩)) he43 rfl rfl (wanted_plain rfl _) (rn_mv rfl (he43.op rfl) w33) ?_
            intro a44 he44
            clear he43 a43
            refine lV (Value.pointer (some ⟨p, 0, none⟩)) he44 rfl rfl (wanted_plain rfl _) (rn_nilck rfl (he44.op rfl) w33) ?_
            intro a45 he45
            clear he44 a44
            refine lV (Value.pointer (some ⟨p, 16, none⟩)) he45 rfl rfl (wanted_plain rfl _) (rn_faN1 rfl (he45.op rfl) rfl w33) ?_
            intro a46 he46
            clear he45 a45
            refine lV (Value.int .i64 ((min (g ++ [n]).length 17 : Nat) : Int)) he46 rfl rfl (wanted_plain rfl _) (rn_ldD rfl (he46.op rfl) (hH33.at (i := 0) rfl) (buI_16 _)) ?_
            intro a47 he47
            clear he46 a46
            refine lV (Value.int .i64 (((min (g ++ [n]).length 17 : Nat) : Int) + 1)) he47 rfl rfl (wanted_plain rfl _) (rn_addI rfl (he47.op rfl) (he47.op rfl) (i64w (by omega) (by omega)) w33) ?_
            intro a48 he48
            clear he47 a47
            refine lV (Value.int .i64 (min (((min (g ++ [n]).length 17 : Nat) : Int) + 1) 17)) he48 rfl rfl (wanted_plain rfl _) (rn_minI rfl (he48.op rfl) (he48.op rfl) rfl w33) ?_
            intro a49 he49
            clear he48 a48
            refine lV (Value.pointer (some ⟨p, 0, none⟩)) he49 rfl rfl (wanted_plain rfl _) (rn_nilck rfl (he49.op rfl) w33) ?_
            intro a50 he50
            clear he49 a49
            refine lV (Value.pointer (some ⟨p, 16, none⟩)) he50 rfl rfl (wanted_plain rfl _) (rn_faN1 rfl (he50.op rfl) rfl w33) ?_
            intro a51 he51
            clear he50 a50
            refine lSetD 0 (cs := (cbF (g ++ [n] ++ [-1]))) he51 hH33 rfl (wanted_plain rfl _) rfl rfl rfl rfl rfl infoI1 rfl (lt_cb (by omega)) (cb_semiB (by omega) (by omega)) ?_
            intro w52 a53 hH52 hf he53
            replace hF := hF.st hf
            replace hH52 : Hp (bare w) [⟨p, 39, (cbF (g ++ [n] ++ [-1]))⟩] w52 := hH52
            clear hf
            clear he51 a51 hH33
            refine wpList_nil ?_
            refine then_ok ?_
            refine wp_exit ?_
            refine block_exit ?_
            refine then_ok ?_
            refine wp_seq ?_
            refine wp_region_lit ?_
            refine lV (Value.bool true) he53 rfl rfl (wanted_plain rfl _) (rn_asg rfl (he53.op rfl) w52) ?_
            intro a54 he54
            clear he53 a53
            refine wpList_nil ?_
            refine then_ok ?_
            refine wp_ret ?_
            try simp only [Exit.then, Exit.inBlock, Exit.noGoto]
            exact ret_env rfl he54 rfl ⟨rfl, hF, by rw [addF_semi (by omega) hg]; exact hH52.at (i := 0) rfl⟩
        · skip
          refine lV (Value.bool false) he22 rfl rfl (wanted_plain rfl _) (rn_eqI rfl (he22.op rfl) (he22.op rfl) (beqF hb3) w) ?_
          intro a23 he23
          clear he22 a22
          refine wpList_nil ?_
          refine then_ok ?_
          refine wp_cond_false (he23.op rfl) ?_
          refine wp_skip ?_
          refine then_ok ?_
          refine wp_seq ?_
          refine wp_block ?_
          refine wp_seq ?_
          refine wp_block ?_
          refine wp_seq ?_
          refine wp_block ?_
          refine wp_seq ?_
          refine wp_block ?_
          refine wp_seq ?_
          refine wp_seq ?_
          refine wp_seq ?_
          have hfg : f = g ++ [n] := (nz_of (by rintro rfl; simp at *)).symm.trans hg
          rw [hfg] at hH
          refine wp_region_lit ?_
          refine lV (Value.bool false) he23 rfl rfl (wanted_plain rfl _) (rn_mv rfl (he23.op rfl) w) ?_
          intro a24 he24
          clear he23 a23
          refine lV (Value.bool false) he24 rfl rfl (wanted_plain rfl _) (rn_asg rfl (he24.op rfl) w) ?_
          intro a25 he25
          clear he24 a24
          refine wpList_nil ?_
          refine then_ok ?_
          refine wp_cond_false (he25.op rfl) ?_
          refine wp_skip ?_
          refine then_ok ?_
          refine wp_seq ?_
          refine wp_region_lit ?_
          refine lV (Value.pointer (some ⟨p, 0, none⟩)) he25 rfl rfl (wanted_plain rfl _) (rn_mv rfl (he25.op rfl) w) ?_
          intro a26 he26
          clear he25 a25
          refine lV (Value.pointer (some ⟨p, 0, none⟩)) he26 rfl rfl (wanted_plain rfl _) (rn_nilck rfl (he26.op rfl) w) ?_
          intro a27 he27
          clear he26 a26
          refine lV (Value.pointer (some ⟨p, 16, none⟩)) he27 rfl rfl (wanted_plain rfl _) (rn_faN1 rfl (he27.op rfl) rfl w) ?_
          intro a28 he28
          clear he27 a27
          refine lV (Value.int .i64 ((min (g ++ [n]).length 17 : Nat) : Int)) he28 rfl rfl (wanted_plain rfl _) (rn_ldD rfl (he28.op rfl) (hH.at (i := 0) rfl) (buI_16 _)) ?_
          intro a29 he29
          clear he28 a28
          by_cases hb4 : ((min (g ++ [n]).length 17 : Nat) : Int) < 16
          · skip
            refine lV (Value.bool true) he29 rfl rfl (wanted_plain rfl _) (rn_lsI rfl (he29.op rfl) (he29.op rfl) (decide_eq_true hb4) w) ?_
            intro a30 he30
            clear he29 a29
            refine lV (Value.bool true) he30 rfl rfl (wanted_plain rfl _) (rn_asg rfl (he30.op rfl) w) ?_
            intro a31 he31
            clear he30 a30
            refine wpList_nil ?_
            refine then_ok ?_
            refine wp_cond_true (he31.op rfl) ?_
            refine wp_exit ?_
            refine then_exit ?_
            refine block_pass (by decide) ?_
            refine then_exit ?_
            refine block_exit ?_
            refine then_ok ?_
            have hn : New w (World.drew w) := (Fr.refl _ _).drew
            replace hF := hF.nw hn
            clear hn
            have hH32 := hH.drew
            clear hH
            refine wp_region_held_drew (S := fun W => Hp (bare w) [] W ∧ W.cell? ⟨p, 16, none⟩ = some (Value.int .i64 ((min (g ++ [n]).length 17 : Nat) : Int))) (by kernel_rfl) ⟨(hH32.drop1 0 rfl), (((hH32.at (i := 0) rfl).cell 16).trans (cb_16 _))⟩ (fun _ => ?_)
            generalize World.drew w = w32 at *
            refine hV (fuel := 8) (i := 0) (Value.pointer (some ⟨p, 0, none⟩)) he31 rfl rfl rfl (by kernel_rfl) (by kernel_rfl) (by kernel_rfl) (fun _ _ _ h => h) (wanted_plain rfl _) (fun w' _ => rn_mv rfl (he31.op rfl) w') ⟨(hH32.drop1 0 rfl), (((hH32.at (i := 0) rfl).cell 16).trans (cb_16 _))⟩ ?_
            intro a33 he33
            clear he31 a31
            refine hV (fuel := 7) (i := 1) (Value.pointer (some ⟨p, 0, none⟩)) he33 rfl rfl rfl (by kernel_rfl) (by kernel_rfl) (by kernel_rfl) (fun _ _ _ h => h) (wanted_plain rfl _) (fun w' _ => rn_mv rfl (he33.op rfl) w') ⟨(hH32.drop1 0 rfl), (((hH32.at (i := 0) rfl).cell 16).trans (cb_16 _))⟩ ?_
            intro a34 he34
            clear he33 a33
            refine hV (fuel := 6) (i := 2) (Value.pointer (some ⟨p, 0, none⟩)) he34 rfl rfl rfl (by kernel_rfl) (by kernel_rfl) (by kernel_rfl) (fun _ _ _ h => h) (wanted_plain rfl _) (fun w' _ => rn_nilck rfl (he34.op rfl) w') ⟨(hH32.drop1 0 rfl), (((hH32.at (i := 0) rfl).cell 16).trans (cb_16 _))⟩ ?_
            intro a35 he35
            clear he34 a34
            refine hV (fuel := 5) (i := 3) (Value.pointer (some ⟨p, 16, none⟩)) he35 rfl rfl rfl (by kernel_rfl) (by kernel_rfl) (by kernel_rfl) (fun _ _ _ h => h) (wanted_plain rfl _) (fun w' _ => rn_faN1 rfl (he35.op rfl) rfl w') ⟨(hH32.drop1 0 rfl), (((hH32.at (i := 0) rfl).cell 16).trans (cb_16 _))⟩ ?_
            intro a36 he36
            clear he35 a35
            refine hV (fuel := 4) (i := 4) (Value.int .i64 ((min (g ++ [n]).length 17 : Nat) : Int)) he36 rfl rfl rfl (by kernel_rfl) (by kernel_rfl) (by kernel_rfl) (fun _ _ _ h => h) (wanted_plain rfl _) (fun w' hw' => rn_ldC rfl (he36.op rfl) hw'.2) ⟨(hH32.drop1 0 rfl), (((hH32.at (i := 0) rfl).cell 16).trans (cb_16 _))⟩ ?_
            intro a37 he37
            clear he36 a36
            refine hV (fuel := 3) (i := 5) (Value.pointer (some ⟨p, 0, none⟩)) he37 rfl rfl rfl (by kernel_rfl) (by kernel_rfl) (by kernel_rfl) (fun _ _ _ h => h) (wanted_plain rfl _) (fun w' _ => rn_nilck rfl (he37.op rfl) w') ⟨(hH32.drop1 0 rfl), (((hH32.at (i := 0) rfl).cell 16).trans (cb_16 _))⟩ ?_
            intro a38 he38
            clear he37 a37
            refine hV (fuel := 2) (i := 6) (Value.pointer (some ⟨p, 0, none⟩)) he38 rfl rfl rfl (by kernel_rfl) (by kernel_rfl) (by kernel_rfl) (fun _ _ _ h => h) (wanted_plain rfl _) (fun w' _ => rn_faN0 rfl (he38.op rfl) rfl w') ⟨(hH32.drop1 0 rfl), (((hH32.at (i := 0) rfl).cell 16).trans (cb_16 _))⟩ ?_
            intro a39 he39
            clear he38 a38
            refine hV (fuel := 1) (i := 7) (Value.pointer (some ⟨p, (g.length + 1), none⟩)) he39 rfl rfl rfl (by kernel_rfl) (by kernel_rfl) (by kernel_rfl) (fun _ _ _ h => h) (wanted_plain rfl _) (fun w' _ => rn_iaN (k := g.length + 1) rfl (he39.op rfl) (he39.op rfl) (by omega) (by omega) w') ⟨(hH32.drop1 0 rfl), (((hH32.at (i := 0) rfl).cell 16).trans (cb_16 _))⟩ ?_
            intro a40 he40
            clear he39 a39
            refine hSetD (fuel := 0) (n := 8) 0 (cs := (setI (cbF (g ++ [n])) (g.length + 1) (.int .i64 (-1)))) he40 hH32 (by kernel_rfl) rfl rfl (wanted_plain rfl _) rfl rfl rfl rfl rfl infoI1 rfl (lt_cb (by omega)) rfl ?_
            intro w41 a42 hH41 hf he42
            replace hF := hF.st hf
            replace hH41 : Hp (bare w) [⟨p, 39, (setI (cbF (g ++ [n])) (g.length + 1) (.int .i64 (-1)))⟩] w41 := hH41
            refine ⟨⟨(hH41.drop1 0 rfl), (((hH41.at (i := 0) rfl).cell 16).trans (set_16 (by omega)))⟩, ?_⟩
            clear hf
            clear he40 a40 hH32
            refine wpAnyH_done (by kernel_rfl) ?_ _
            refine block_ok ?_
            refine then_ok ?_
            refine wp_seq ?_
            refine wp_region_lit ?_
            refine lV (Value.pointer (some ⟨p, 0, none⟩)) he42 rfl rfl (wanted_plain rfl _) (rn_mv rfl (he42.op rfl) w41) ?_
            intro a43 he43
            clear he42 a42
            refine lV (Value.pointer (some ⟨p, 0, none⟩)) he43 rfl rfl (wanted_plain rfl _) (rn_mv rfl (he43.op rfl) w41) ?_
            intro a44 he44
            clear he43 a43
            refine lV (Value.pointer (some ⟨p, 0, none⟩)) he44 rfl rfl (wanted_plain rfl _) (rn_nilck rfl (he44.op rfl) w41) ?_
            intro a45 he45
            clear he44 a44
            refine lV (Value.pointer (some ⟨p, 16, none⟩)) he45 rfl rfl (wanted_plain rfl _) (rn_faN1 rfl (he45.op rfl) rfl w41) ?_
            intro a46 he46
            clear he45 a45
            refine lV (Value.int .i64 ((min (g ++ [n]).length 17 : Nat) : Int)) he46 rfl rfl (wanted_plain rfl _) (rn_ld1 rfl (he46.op rfl) Tryd.underlying3 (hH41.at (i := 0) rfl) (set_16 (by omega))) ?_
            intro a47 he47
            clear he46 a46
            refine lV (Value.int .i64 (((min (g ++ [n]).length 17 : Nat) : Int) + 1)) he47 rfl rfl (wanted_plain rfl _) (rn_addI rfl (he47.op rfl) (he47.op rfl) (i64w (by omega) (by omega)) w41) ?_
            intro a48 he48
            clear he47 a47
            refine lV (Value.int .i64 (min (((min (g ++ [n]).length 17 : Nat) : Int) + 1) 17)) he48 rfl rfl (wanted_plain rfl _) (rn_minI rfl (he48.op rfl) (he48.op rfl) rfl w41) ?_
            intro a49 he49
            clear he48 a48
            refine lV (Value.pointer (some ⟨p, 0, none⟩)) he49 rfl rfl (wanted_plain rfl _) (rn_nilck rfl (he49.op rfl) w41) ?_
            intro a50 he50
            clear he49 a49
            refine lV (Value.pointer (some ⟨p, 16, none⟩)) he50 rfl rfl (wanted_plain rfl _) (rn_faN1 rfl (he50.op rfl) rfl w41) ?_
            intro a51 he51
            clear he50 a50
            refine lSetD 0 (cs := (cbF (g ++ [n] ++ [-1]))) he51 hH41 rfl (wanted_plain rfl _) rfl rfl rfl rfl rfl infoI1 rfl (lt_set (by omega)) (cb_semiA (by omega) (by omega) (by omega)) ?_
            intro w52 a53 hH52 hf he53
            replace hF := hF.st hf
            replace hH52 : Hp (bare w) [⟨p, 39, (cbF (g ++ [n] ++ [-1]))⟩] w52 := hH52
            clear hf
            clear he51 a51 hH41
            refine wpList_nil ?_
            refine then_ok ?_
            refine wp_exit ?_
            refine block_exit ?_
            refine then_ok ?_
            refine wp_seq ?_
            refine wp_region_lit ?_
            refine lV (Value.bool true) he53 rfl rfl (wanted_plain rfl _) (rn_asg rfl (he53.op rfl) w52) ?_
            intro a54 he54
            clear he53 a53
            refine wpList_nil ?_
            refine then_ok ?_
            refine wp_ret ?_
            try simp only [Exit.then, Exit.inBlock, Exit.noGoto]
            exact ret_env rfl he54 rfl ⟨rfl, hF, by rw [addF_semi (by omega) hg]; exact hH52.at (i := 0) rfl⟩
          · skip
            refine lV (Value.bool false) he29 rfl rfl (wanted_plain rfl _) (rn_lsI rfl (he29.op rfl) (he29.op rfl) (decide_eq_false hb4) w) ?_
            intro a30 he30
            clear he29 a29
            refine lV (Value.bool false) he30 rfl rfl (wanted_plain rfl _) (rn_asg rfl (he30.op rfl) w) ?_
            intro a31 he31
            clear he30 a30
            refine wpList_nil ?_
            refine then_ok ?_
            refine wp_cond_false (he31.op rfl) ?_
            refine wp_skip ?_
            refine then_ok ?_
            refine wp_exit ?_
            refine block_pass (by decide) ?_
            refine then_exit ?_
            refine block_pass (by decide) ?_
            refine then_exit ?_
            refine block_exit ?_
            refine then_ok ?_
            refine wp_seq ?_
            refine wp_region_lit ?_
            refine lV (Value.pointer (some ⟨p, 0, none⟩)) he31 rfl rfl (wanted_plain rfl _) (rn_mv rfl (he31.op rfl) w) ?_
            intro a32 he32
            clear he31 a31
            refine lV (Value.pointer (some ⟨p, 0, none⟩)) he32 rfl rfl (wanted_plain rfl _) (rn_mv rfl (he32.op rfl) w) ?_
            intro a33 he33
            clear he32 a32
            refine lV (Value.pointer (some ⟨p, 0, none⟩)) he33 rfl rfl (wanted_plain rfl _) (rn_nilck rfl (he33.op rfl) w) ?_
            intro a34 he34
            clear he33 a33
            refine lV (Value.pointer (some ⟨p, 16, none⟩)) he34 rfl rfl (wanted_plain rfl _) (rn_faN1 rfl (he34.op rfl) rfl w) ?_
            intro a35 he35
            clear he34 a34
            refine lV (Value.int .i64 ((min (g ++ [n]).length 17 : Nat) : Int)) he35 rfl rfl (wanted_plain rfl _) (rn_ldD rfl (he35.op rfl) (hH.at (i := 0) rfl) (buI_16 _)) ?_
            intro a36 he36
            clear he35 a35
            refine lV (Value.int .i64 (((min (g ++ [n]).length 17 : Nat) : Int) + 1)) he36 rfl rfl (wanted_plain rfl _) (rn_addI rfl (he36.op rfl) (he36.op rfl) (i64w (by omega) (by omega)) w) ?_
            intro a37 he37
            clear he36 a36
            refine lV (Value.int .i64 (min (((min (g ++ [n]).length 17 : Nat) : Int) + 1) 17)) he37 rfl rfl (wanted_plain rfl _) (rn_minI rfl (he37.op rfl) (he37.op rfl) rfl w) ?_
            intro a38 he38
            clear he37 a37
            refine lV (Value.pointer (some ⟨p, 0, none⟩)) he38 rfl rfl (wanted_plain rfl _) (rn_nilck rfl (he38.op rfl) w) ?_
            intro a39 he39
            clear he38 a38
            refine lV (Value.pointer (some ⟨p, 16, none⟩)) he39 rfl rfl (wanted_plain rfl _) (rn_faN1 rfl (he39.op rfl) rfl w) ?_
            intro a40 he40
            clear he39 a39
            refine lSetD 0 (cs := (cbF (g ++ [n] ++ [-1]))) he40 hH rfl (wanted_plain rfl _) rfl rfl rfl rfl rfl infoI1 rfl (lt_cb (by omega)) (cb_semiB (by omega) (by omega)) ?_
            intro w41 a42 hH41 hf he42
            replace hF := hF.st hf
            replace hH41 : Hp (bare w) [⟨p, 39, (cbF (g ++ [n] ++ [-1]))⟩] w41 := hH41
            clear hf
            clear he40 a40 hH
            refine wpList_nil ?_
            refine then_ok ?_
            refine wp_exit ?_
            refine block_exit ?_
            refine then_ok ?_
            refine wp_seq ?_
            refine wp_region_lit ?_
            refine lV (Value.bool true) he42 rfl rfl (wanted_plain rfl _) (rn_asg rfl (he42.op rfl) w41) ?_
            intro a43 he43
            clear he42 a42
            refine wpList_nil ?_
            refine then_ok ?_
            refine wp_ret ?_
            try simp only [Exit.then, Exit.inBlock, Exit.noGoto]
            exact ret_env rfl he43 rfl ⟨rfl, hF, by rw [addF_semi (by omega) hg]; exact hH41.at (i := 0) rfl⟩
      · skip
        refine lV (Value.bool true) he15 rfl rfl (he15.want rfl rfl rfl rfl rfl) (rn_neR rfl (he15.op rfl) (he15.op rfl) (bneF hb2) w) ?_
        intro a16 he16
        clear he15 a15
        refine lV (Value.bool true) he16 rfl rfl (he16.want rfl rfl rfl rfl rfl) (rn_pk rfl (he16.op rfl) (he16.op rfl) w) ?_
        intro a17 he17
        clear he16 a16
        refine lV (Value.bool true) he17 rfl rfl (wanted_plain rfl _) (rn_pk0 rfl (he17.op rfl) (he17.op rfl) w) ?_
        intro a18 he18
        clear he17 a17
        refine wpList_nil ?_
        refine then_ok ?_
        refine wp_cond_true (he18.op rfl) ?_
        refine wp_seq ?_
        refine wp_region_lit ?_
        refine lV (Value.bool false) he18 rfl rfl (wanted_plain rfl _) (rn_asg rfl (he18.op rfl) w) ?_
        intro a19 he19
        clear he18 a18
        refine wpList_nil ?_
        refine then_ok ?_
        refine wp_ret ?_
        try simp only [Exit.then, Exit.inBlock, Exit.noGoto]
        exact ret_env rfl he19 rfl (by exfalso; omega)
  · skip
    refine lV (Value.bool false) he2 rfl rfl (wanted_plain rfl _) (rn_geR rfl (he2.op rfl) (he2.op rfl) (decide_eq_false hb0) w) ?_
    intro a3 he3
    clear he2 a2
    refine lV (Value.bool false) he3 rfl rfl (wanted_plain rfl _) (rn_mv rfl (he3.op rfl) w) ?_
    intro a4 he4
    clear he3 a3
    refine lSkip he4 rfl rfl (he4.wantNot rfl rfl rfl rfl rfl rfl) ?_
    intro a5 he5
    clear he4 a4
    refine lSkip he5 rfl rfl (he5.wantNot rfl rfl rfl rfl rfl rfl) ?_
    intro a6 he6
    clear he5 a5
    refine lV (Value.bool false) he6 rfl rfl (wanted_plain rfl _) (rn_pk0 rfl (he6.op rfl) (he6.op rfl) w) ?_
    intro a7 he7
    clear he6 a6
    refine lV (Value.bool false) he7 rfl rfl (wanted_plain rfl _) (rn_asg rfl (he7.op rfl) w) ?_
    intro a8 he8
    clear he7 a7
    refine wpList_nil ?_
    refine then_ok ?_
    refine wp_seq ?_
    refine wp_seq ?_
    refine wp_region_lit ?_
    refine lV (Value.pointer (some ⟨p, 0, none⟩)) he8 rfl rfl (wanted_plain rfl _) (rn_mv rfl (he8.op rfl) w) ?_
    intro a9 he9
    clear he8 a8
    refine lV (Value.bool false) he9 rfl rfl (wanted_plain rfl _) (rn_eqP1 rfl (he9.op rfl) (he9.op rfl) w) ?_
    intro a10 he10
    clear he9 a9
    refine lV (Value.bool false) he10 rfl rfl (wanted_plain rfl _) (rn_mv rfl (he10.op rfl) w) ?_
    intro a11 he11
    clear he10 a10
    refine lV (Value.bool false) he11 rfl rfl (he11.want rfl rfl rfl rfl rfl) (rn_mv rfl (he11.op rfl) w) ?_
    intro a12 he12
    clear he11 a11
    refine lV (Value.bool true) he12 rfl rfl (he12.want rfl rfl rfl rfl rfl) (rn_not (b := false) rfl (he12.op rfl) w) ?_
    intro a13 he13
    clear he12 a12
    refine lV (Value.bool true) he13 rfl rfl (he13.want rfl rfl rfl rfl rfl) (rn_mv rfl (he13.op rfl) w) ?_
    intro a14 he14
    clear he13 a13
    refine lV (Value.int .i32 (c.toNat : Int)) he14 rfl rfl (he14.want rfl rfl rfl rfl rfl) (rn_mv rfl (he14.op rfl) w) ?_
    intro a15 he15
    clear he14 a14
    by_cases hb1 : (c.toNat : Int) = 59
    · skip
      refine lV (Value.bool false) he15 rfl rfl (he15.want rfl rfl rfl rfl rfl) (rn_neR rfl (he15.op rfl) (he15.op rfl) (bneT hb1) w) ?_
      intro a16 he16
      clear he15 a15
      refine lV (Value.bool false) he16 rfl rfl (he16.want rfl rfl rfl rfl rfl) (rn_pk rfl (he16.op rfl) (he16.op rfl) w) ?_
      intro a17 he17
      clear he16 a16
      refine lV (Value.bool false) he17 rfl rfl (wanted_plain rfl _) (rn_pk0 rfl (he17.op rfl) (he17.op rfl) w) ?_
      intro a18 he18
      clear he17 a17
      refine wpList_nil ?_
      refine then_ok ?_
      refine wp_cond_false (he18.op rfl) ?_
      refine wp_skip ?_
      refine then_ok ?_
      refine wp_seq ?_
      refine wp_seq ?_
      refine wp_region_lit ?_
      refine lV (Value.pointer (some ⟨p, 0, none⟩)) he18 rfl rfl (wanted_plain rfl _) (rn_mv rfl (he18.op rfl) w) ?_
      intro a19 he19
      clear he18 a18
      refine lV (Value.pointer (some ⟨p, 0, none⟩)) he19 rfl rfl (wanted_plain rfl _) (rn_nilck rfl (he19.op rfl) w) ?_
      intro a20 he20
      clear he19 a19
      refine lV (Value.pointer (some ⟨p, 16, none⟩)) he20 rfl rfl (wanted_plain rfl _) (rn_faN1 rfl (he20.op rfl) rfl w) ?_
      intro a21 he21
      clear he20 a20
      refine lV (Value.int .i64 ((min f.length 17 : Nat) : Int)) he21 rfl rfl (wanted_plain rfl _) (rn_ldD rfl (he21.op rfl) (hH.at (i := 0) rfl) (buI_16 _)) ?_
      intro a22 he22
      clear he21 a21
      by_cases hb2 : ((min f.length 17 : Nat) : Int) = 0
      · skip
        refine lV (Value.bool true) he22 rfl rfl (wanted_plain rfl _) (rn_eqI rfl (he22.op rfl) (he22.op rfl) (beqT hb2) w) ?_
        intro a23 he23
        clear he22 a22
        refine wpList_nil ?_
        refine then_ok ?_
        refine wp_cond_true (he23.op rfl) ?_
        refine wp_region_lit ?_
        refine lV (Value.pointer (some ⟨p, 0, none⟩)) he23 rfl rfl (wanted_plain rfl _) (rn_mv rfl (he23.op rfl) w) ?_
        intro a24 he24
        clear he23 a23
        refine lV (Value.pointer (some ⟨p, 0, none⟩)) he24 rfl rfl (wanted_plain rfl _) (rn_mv rfl (he24.op rfl) w) ?_
        intro a25 he25
        clear he24 a24
        refine lV (Value.pointer (some ⟨p, 0, none⟩)) he25 rfl rfl (wanted_plain rfl _) (rn_nilck rfl (he25.op rfl) w) ?_
        intro a26 he26
        clear he25 a25
        refine lV (Value.pointer (some ⟨p, 0, none⟩)) he26 rfl rfl (wanted_plain rfl _) (rn_faN0 rfl (he26.op rfl) rfl w) ?_
        intro a27 he27
        clear he26 a26
        refine lV (Value.pointer (some ⟨p, 0, none⟩)) he27 rfl rfl (wanted_plain rfl _) (rn_iaN (k := 0) rfl (he27.op rfl) (he27.op rfl) rfl (by decide) w) ?_
        intro a28 he28
        clear he27 a27
        refine lSetD 0 (cs := (setI (cbF f) 0 (.int .i64 (-1)))) he28 hH rfl (wanted_plain rfl _) rfl rfl rfl rfl rfl infoI1 rfl (lt_cb (by omega)) rfl ?_
        intro w29 a30 hH29 hf he30
        replace hF := hF.st hf
        replace hH29 : Hp (bare w) [⟨p, 39, (setI (cbF f) 0 (.int .i64 (-1)))⟩] w29 := hH29
        clear hf
        clear he28 a28 hH
        refine lV (Value.pointer (some ⟨p, 0, none⟩)) he30 rfl rfl (wanted_plain rfl _) (rn_nilck rfl (he30.op rfl) w29) ?_
        intro a31 he31
        clear he30 a30
        refine lV (Value.pointer (some ⟨p, 16, none⟩)) he31 rfl rfl (wanted_plain rfl _) (rn_faN1 rfl (he31.op rfl) rfl w29) ?_
        intro a32 he32
        clear he31 a31
        refine lSetD 0 (cs := (cbF (g ++ [n]))) he32 hH29 rfl (wanted_plain rfl _) rfl rfl rfl rfl rfl infoI1 rfl (lt_set (by omega)) (cb_first (by omega) hg) ?_
        intro w33 a34 hH33 hf he34
        replace hF := hF.st hf
        replace hH33 : Hp (bare w) [⟨p, 39, (cbF (g ++ [n]))⟩] w33 := hH33
        clear hf
        clear he32 a32 hH29
        refine wpList_nil ?_
        refine then_ok ?_
        refine wp_seq ?_
        refine wp_block ?_
        refine wp_seq ?_
        refine wp_block ?_
        refine wp_seq ?_
        refine wp_block ?_
        refine wp_seq ?_
        refine wp_block ?_
        refine wp_seq ?_
        refine wp_seq ?_
        refine wp_seq ?_
        refine wp_region_lit ?_
        refine lV (Value.bool false) he34 rfl rfl (wanted_plain rfl _) (rn_mv rfl (he34.op rfl) w33) ?_
        intro a35 he35
        clear he34 a34
        refine lV (Value.bool false) he35 rfl rfl (wanted_plain rfl _) (rn_asg rfl (he35.op rfl) w33) ?_
        intro a36 he36
        clear he35 a35
        refine wpList_nil ?_
        refine then_ok ?_
        refine wp_cond_false (he36.op rfl) ?_
        refine wp_skip ?_
        refine then_ok ?_
        refine wp_seq ?_
        refine wp_region_lit ?_
        refine lV (Value.pointer (some ⟨p, 0, none⟩)) he36 rfl rfl (wanted_plain rfl _) (rn_mv rfl (he36.op rfl) w33) ?_
        intro a37 he37
        clear he36 a36
        refine lV (Value.pointer (some ⟨p, 0, none⟩)) he37 rfl rfl (wanted_plain rfl _) (rn_nilck rfl (he37.op rfl) w33) ?_
        intro a38 he38
        clear he37 a37
        refine lV (Value.pointer (some ⟨p, 16, none⟩)) he38 rfl rfl (wanted_plain rfl _) (rn_faN1 rfl (he38.op rfl) rfl w33) ?_
        intro a39 he39
        clear he38 a38
        refine lV (Value.int .i64 ((min (g ++ [n]).length 17 : Nat) : Int)) he39 rfl rfl (wanted_plain rfl _) (rn_ldD rfl (he39.op rfl) (hH33.at (i := 0) rfl) (buI_16 _)) ?_
        intro a40 he40
        clear he39 a39
        by_cases hb3 : ((min (g ++ [n]).length 17 : Nat) : Int) < 16
        · skip
          refine lV (Value.bool true) he40 rfl rfl (wanted_plain rfl _) (rn_lsI rfl (he40.op rfl) (he40.op rfl) (decide_eq_true hb3) w33) ?_
          intro a41 he41
          clear he40 a40
          refine lV (Value.bool true) he41 rfl rfl (wanted_plain rfl _) (rn_asg rfl (he41.op rfl) w33) ?_
          intro a42 he42
          clear he41 a41
          refine wpList_nil ?_
          refine then_ok ?_
          refine wp_cond_true (he42.op rfl) ?_
          refine wp_exit ?_
          refine then_exit ?_
          refine block_pass (by decide) ?_
          refine then_exit ?_
          refine block_exit ?_
          refine then_ok ?_
          have hn : New w33 (World.drew w33) := (Fr.refl _ _).drew
          replace hF := hF.nw hn
          clear hn
          have hH43 := hH33.drew
          clear hH33
          refine wp_region_held_drew (S := fun W => Hp (bare w) [] W ∧ W.cell? ⟨p, 16, none⟩ = some (Value.int .i64 ((min (g ++ [n]).length 17 : Nat) : Int))) (by kernel_rfl) ⟨(hH43.drop1 0 rfl), (((hH43.at (i := 0) rfl).cell 16).trans (cb_16 _))⟩ (fun _ => ?_)
          generalize World.drew w33 = w43 at *
          refine hV (fuel := 8) (i := 0) (Value.pointer (some ⟨p, 0, none⟩)) he42 rfl rfl rfl (by kernel_rfl) (by kernel_rfl) (by kernel_rfl) (fun _ _ _ h => h) (wanted_plain rfl _) (fun w' _ => rn_mv rfl (he42.op rfl) w') ⟨(hH43.drop1 0 rfl), (((hH43.at (i := 0) rfl).cell 16).trans (cb_16 _))⟩ ?_
          intro a44 he44
          clear he42 a42
          refine hV (fuel := 7) (i := 1) (Value.pointer (some ⟨p, 0, none⟩)) he44 rfl rfl rfl (by kernel_rfl) (by kernel_rfl) (by kernel_rfl) (fun _ _ _ h => h) (wanted_plain rfl _) (fun w' _ => rn_mv rfl (he44.op rfl) w') ⟨(hH43.drop1 0 rfl), (((hH43.at (i := 0) rfl).cell 16).trans (cb_16 _))⟩ ?_
          intro a45 he45
          clear he44 a44
          refine hV (fuel := 6) (i := 2) (Value.pointer (some ⟨p, 0, none⟩)) he45 rfl rfl rfl (by kernel_rfl) (by kernel_rfl) (by kernel_rfl) (fun _ _ _ h => h) (wanted_plain rfl _) (fun w' _ => rn_nilck rfl (he45.op rfl) w') ⟨(hH43.drop1 0 rfl), (((hH43.at (i := 0) rfl).cell 16).trans (cb_16 _))⟩ ?_
          intro a46 he46
          clear he45 a45
          refine hV (fuel := 5) (i := 3) (Value.pointer (some ⟨p, 16, none⟩)) he46 rfl rfl rfl (by kernel_rfl) (by kernel_rfl) (by kernel_rfl) (fun _ _ _ h => h) (wanted_plain rfl _) (fun w' _ => rn_faN1 rfl (he46.op rfl) rfl w') ⟨(hH43.drop1 0 rfl), (((hH43.at (i := 0) rfl).cell 16).trans (cb_16 _))⟩ ?_
          intro a47 he47
          clear he46 a46
          refine hV (fuel := 4) (i := 4) (Value.int .i64 ((min (g ++ [n]).length 17 : Nat) : Int)) he47 rfl rfl rfl (by kernel_rfl) (by kernel_rfl) (by kernel_rfl) (fun _ _ _ h => h) (wanted_plain rfl _) (fun w' hw' => rn_ldC rfl (he47.op rfl) hw'.2) ⟨(hH43.drop1 0 rfl), (((hH43.at (i := 0) rfl).cell 16).trans (cb_16 _))⟩ ?_
          intro a48 he48
          clear he47 a47
          refine hV (fuel := 3) (i := 5) (Value.pointer (some ⟨p, 0, none⟩)) he48 rfl rfl rfl (by kernel_rfl) (by kernel_rfl) (by kernel_rfl) (fun _ _ _ h => h) (wanted_plain rfl _) (fun w' _ => rn_nilck rfl (he48.op rfl) w') ⟨(hH43.drop1 0 rfl), (((hH43.at (i := 0) rfl).cell 16).trans (cb_16 _))⟩ ?_
          intro a49 he49
          clear he48 a48
          refine hV (fuel := 2) (i := 6) (Value.pointer (some ⟨p, 0, none⟩)) he49 rfl rfl rfl (by kernel_rfl) (by kernel_rfl) (by kernel_rfl) (fun _ _ _ h => h) (wanted_plain rfl _) (fun w' _ => rn_faN0 rfl (he49.op rfl) rfl w') ⟨(hH43.drop1 0 rfl), (((hH43.at (i := 0) rfl).cell 16).trans (cb_16 _))⟩ ?_
          intro a50 he50
          clear he49 a49
          refine hV (fuel := 1) (i := 7) (Value.pointer (some ⟨p, (g.length + 1), none⟩)) he50 rfl rfl rfl (by kernel_rfl) (by kernel_rfl) (by kernel_rfl) (fun _ _ _ h => h) (wanted_plain rfl _) (fun w' _ => rn_iaN (k := g.length + 1) rfl (he50.op rfl) (he50.op rfl) (by omega) (by omega) w') ⟨(hH43.drop1 0 rfl), (((hH43.at (i := 0) rfl).cell 16).trans (cb_16 _))⟩ ?_
          intro a51 he51
          clear he50 a50
          refine hSetD (fuel := 0) (n := 8) 0 (cs := (setI (cbF (g ++ [n])) (g.length + 1) (.int .i64 (-1)))) he51 hH43 (by kernel_rfl) rfl rfl (wanted_plain rfl _) rfl rfl rfl rfl rfl infoI1 rfl (lt_cb (by omega)) rfl ?_
          intro w52 a53 hH52 hf he53
          replace hF := hF.st hf
          replace hH52 : Hp (bare w) [⟨p, 39, (setI (cbF (g ++ [n])) (g.length + 1) (.int .i64 (-1)))⟩] w52 := hH52
          refine ⟨⟨(hH52.drop1 0 rfl), (((hH52.at (i := 0) rfl).cell 16).trans (set_16 (by omega)))⟩, ?_⟩
          clear hf
          clear he51 a51 hH43
          refine wpAnyH_done (by kernel_rfl) ?_ _
          refine block_ok ?_
          refine then_ok ?_
          refine wp_seq ?_
          refine wp_region_lit ?_
          refine lV (Value.pointer (some ⟨p, 0, none⟩)) he53 rfl rfl (wanted_plain rfl _) (rn_mv rfl (he53.op rfl) w52) ?_
          intro a54 he54
          clear he53 a53
          refine lV (Value.pointer (some ⟨p, 0, none⟩)) he54 rfl rfl (wanted_plain rfl _) (rn_mv rfl (he54.op rfl) w52) ?_
          intro a55 he55
          clear he54 a54
          refine lV (Value.pointer (some ⟨p, 0, none⟩)) he55 rfl rfl (wanted_plain rfl _) (rn_nilck rfl (he55.op rfl) w52) ?_
          intro a56 he56
          clear he55 a55
          refine lV (Value.pointer (some ⟨p, 16, none⟩)) he56 rfl rfl (wanted_plain rfl _) (rn_faN1 rfl (he56.op rfl) rfl w52) ?_
          intro a57 he57
          clear he56 a56
          refine lV (Value.int .i64 ((min (g ++ [n]).length 17 : Nat) : Int)) he57 rfl rfl (wanted_plain rfl _) (rn_ld1 rfl (he57.op rfl) Tryd.underlying3 (hH52.at (i := 0) rfl) (set_16 (by omega))) ?_
          intro a58 he58
          clear he57 a57
          refine lV (Value.int .i64 (((min (g ++ [n]).length 17 : Nat) : Int) + 1)) he58 rfl rfl (wanted_plain rfl _) (rn_addI rfl (he58.op rfl) (he58.op rfl) (i64w (by omega) (by omega)) w52) ?_
          intro a59 he59
          clear he58 a58
          refine lV (Value.int .i64 (min (((min (g ++ [n]).length 17 : Nat) : Int) + 1) 17)) he59 rfl rfl (wanted_plain rfl _) (rn_minI rfl (he59.op rfl) (he59.op rfl) rfl w52) ?_
          intro a60 he60
          clear he59 a59
          refine lV (Value.pointer (some ⟨p, 0, none⟩)) he60 rfl rfl (wanted_plain rfl _) (rn_nilck rfl (he60.op rfl) w52) ?_
          intro a61 he61
          clear he60 a60
          refine lV (Value.pointer (some ⟨p, 16, none⟩)) he61 rfl rfl (wanted_plain rfl _) (rn_faN1 rfl (he61.op rfl) rfl w52) ?_
          intro a62 he62
          clear he61 a61
          refine lSetD 0 (cs := (cbF (g ++ [n] ++ [-1]))) he62 hH52 rfl (wanted_plain rfl _) rfl rfl rfl rfl rfl infoI1 rfl (lt_set (by omega)) (cb_semiA (by omega) (by omega) (by omega)) ?_
          intro w63 a64 hH63 hf he64
          replace hF := hF.st hf
          replace hH63 : Hp (bare w) [⟨p, 39, (cbF (g ++ [n] ++ [-1]))⟩] w63 := hH63
          clear hf
          clear he62 a62 hH52
          refine wpList_nil ?_
          refine then_ok ?_
          refine wp_exit ?_
          refine block_exit ?_
          refine then_ok ?_
          refine wp_seq ?_
          refine wp_region_lit ?_
          refine lV (Value.bool true) he64 rfl rfl (wanted_plain rfl _) (rn_asg rfl (he64.op rfl) w63) ?_
          intro a65 he65
          clear he64 a64
          refine wpList_nil ?_
          refine then_ok ?_
          refine wp_ret ?_
          try simp only [Exit.then, Exit.inBlock, Exit.noGoto]
          exact ret_env rfl he65 rfl ⟨rfl, hF, by rw [addF_semi (by omega) hg]; exact hH63.at (i := 0) rfl⟩
        · skip
          refine lV (Value.bool false) he40 rfl rfl (wanted_plain rfl _) (rn_lsI rfl (he40.op rfl) (he40.op rfl) (decide_eq_false hb3) w33) ?_
          intro a41 he41
          clear he40 a40
          refine lV (Value.bool false) he41 rfl rfl (wanted_plain rfl _) (rn_asg rfl (he41.op rfl) w33) ?_
          intro a42 he42
          clear he41 a41
          refine wpList_nil ?_
          refine then_ok ?_
          refine wp_cond_false (he42.op rfl) ?_
          refine wp_skip ?_
          refine then_ok ?_
          refine wp_exit ?_
          refine block_pass (by decide) ?_
          refine then_exit ?_
          refine block_pass (by decide) ?_
          refine then_exit ?_
          refine block_exit ?_
          refine then_ok ?_
          refine wp_seq ?_
          refine wp_region_lit ?_
          refine lV (Value.pointer (some ⟨p, 0, none⟩)) he42 rfl rfl (wanted_plain rfl _) (rn_mv rfl (he42.op rfl) w33) ?_
          intro a43 he43
          clear he42 a42
          refine lV (Value.pointer (some ⟨p, 0, none⟩)) he43 rfl rfl (wanted_plain rfl _) (rn_mv rfl (he43.op rfl) w33) ?_
          intro a44 he44
          clear he43 a43
          refine lV (Value.pointer (some ⟨p, 0, none⟩)) he44 rfl rfl (wanted_plain rfl _) (rn_nilck rfl (he44.op rfl) w33) ?_
          intro a45 he45
          clear he44 a44
          refine lV (Value.pointer (some ⟨p, 16, none⟩)) he45 rfl rfl (wanted_plain rfl _) (rn_faN1 rfl (he45.op rfl) rfl w33) ?_
          intro a46 he46
          clear he45 a45
          refine lV (Value.int .i64 ((min (g ++ [n]).length 17 : Nat) : Int)) he46 rfl rfl (wanted_plain rfl _) (rn_ldD rfl (he46.op rfl) (hH33.at (i := 0) rfl) (buI_16 _)) ?_
          intro a47 he47
          clear he46 a46
          refine lV (Value.int .i64 (((min (g ++ [n]).length 17 : Nat) : Int) + 1)) he47 rfl rfl (wanted_plain rfl _) (rn_addI rfl (he47.op rfl) (he47.op rfl) (i64w (by omega) (by omega)) w33) ?_
          intro a48 he48
          clear he47 a47
          refine lV (Value.int .i64 (min (((min (g ++ [n]).length 17 : Nat) : Int) + 1) 17)) he48 rfl rfl (wanted_plain rfl _) (rn_minI rfl (he48.op rfl) (he48.op rfl) rfl w33) ?_
          intro a49 he49
          clear he48 a48
          refine lV (Value.pointer (some ⟨p, 0, none⟩)) he49 rfl rfl (wanted_plain rfl _) (rn_nilck rfl (he49.op rfl) w33) ?_
          intro a50 he50
          clear he49 a49
          refine lV (Value.pointer (some ⟨p, 16, none⟩)) he50 rfl rfl (wanted_plain rfl _) (rn_faN1 rfl (he50.op rfl) rfl w33) ?_
          intro a51 he51
          clear he50 a50
          refine lSetD 0 (cs := (cbF (g ++ [n] ++ [-1]))) he51 hH33 rfl (wanted_plain rfl _) rfl rfl rfl rfl rfl infoI1 rfl (lt_cb (by omega)) (cb_semiB (by omega) (by omega)) ?_
          intro w52 a53 hH52 hf he53
          replace hF := hF.st hf
          replace hH52 : Hp (bare w) [⟨p, 39, (cbF (g ++ [n] ++ [-1]))⟩] w52 := hH52
          clear hf
          clear he51 a51 hH33
          refine wpList_nil ?_
          refine then_ok ?_
          refine wp_exit ?_
          refine block_exit ?_
          refine then_ok ?_
          refine wp_seq ?_
          refine wp_region_lit ?_
          refine lV (Value.bool true) he53 rfl rfl (wanted_plain rfl _) (rn_asg rfl (he53.op rfl) w52) ?_
          intro a54 he54
          clear he53 a53
          refine wpList_nil ?_
          refine then_ok ?_
          refine wp_ret ?_
          try simp only [Exit.then, Exit.inBlock, Exit.noGoto]
          exact ret_env rfl he54 rfl ⟨rfl, hF, by rw [addF_semi (by omega) hg]; exact hH52.at (i := 0) rfl⟩
      · skip
        refine lV (Value.bool false) he22 rfl rfl (wanted_plain rfl _) (rn_eqI rfl (he22.op rfl) (he22.op rfl) (beqF hb2) w) ?_
        intro a23 he23
        clear he22 a22
        refine wpList_nil ?_
        refine then_ok ?_
        refine wp_cond_false (he23.op rfl) ?_
        refine wp_skip ?_
        refine then_ok ?_
        refine wp_seq ?_
        refine wp_block ?_
        refine wp_seq ?_
        refine wp_block ?_
        refine wp_seq ?_
        refine wp_block ?_
        refine wp_seq ?_
        refine wp_block ?_
        refine wp_seq ?_
        refine wp_seq ?_
        refine wp_seq ?_
        have hfg : f = g ++ [n] := (nz_of (by rintro rfl; simp at *)).symm.trans hg
        rw [hfg] at hH
        refine wp_region_lit ?_
        refine lV (Value.bool false) he23 rfl rfl (wanted_plain rfl _) (rn_mv rfl (he23.op rfl) w) ?_
        intro a24 he24
        clear he23 a23
        refine lV (Value.bool false) he24 rfl rfl (wanted_plain rfl _) (rn_asg rfl (he24.op rfl) w) ?_
        intro a25 he25
        clear he24 a24
        refine wpList_nil ?_
        refine then_ok ?_
        refine wp_cond_false (he25.op rfl) ?_
        refine wp_skip ?_
        refine then_ok ?_
        refine wp_seq ?_
        refine wp_region_lit ?_
        refine lV (Value.pointer (some ⟨p, 0, none⟩)) he25 rfl rfl (wanted_plain rfl _) (rn_mv rfl (he25.op rfl) w) ?_
        intro a26 he26
        clear he25 a25
        refine lV (Value.pointer (some ⟨p, 0, none⟩)) he26 rfl rfl (wanted_plain rfl _) (rn_nilck rfl (he26.op rfl) w) ?_
        intro a27 he27
        clear he26 a26
        refine lV (Value.pointer (some ⟨p, 16, none⟩)) he27 rfl rfl (wanted_plain rfl _) (rn_faN1 rfl (he27.op rfl) rfl w) ?_
        intro a28 he28
        clear he27 a27
        refine lV (Value.int .i64 ((min (g ++ [n]).length 17 : Nat) : Int)) he28 rfl rfl (wanted_plain rfl _) (rn_ldD rfl (he28.op rfl) (hH.at (i := 0) rfl) (buI_16 _)) ?_
        intro a29 he29
        clear he28 a28
        by_cases hb3 : ((min (g ++ [n]).length 17 : Nat) : Int) < 16
        · skip
          refine lV (Value.bool true) he29 rfl rfl (wanted_plain rfl _) (rn_lsI rfl (he29.op rfl) (he29.op rfl) (decide_eq_true hb3) w) ?_
          intro a30 he30
          clear he29 a29
          refine lV (Value.bool true) he30 rfl rfl (wanted_plain rfl _) (rn_asg rfl (he30.op rfl) w) ?_
          intro a31 he31
          clear he30 a30
          refine wpList_nil ?_
          refine then_ok ?_
          refine wp_cond_true (he31.op rfl) ?_
          refine wp_exit ?_
          refine then_exit ?_
          refine block_pass (by decide) ?_
          refine then_exit ?_
          refine block_exit ?_
          refine then_ok ?_
          have hn : New w (World.drew w) := (Fr.refl _ _).drew
          replace hF := hF.nw hn
          clear hn
          have hH32 := hH.drew
          clear hH
          refine wp_region_held_drew (S := fun W => Hp (bare w) [] W ∧ W.cell? ⟨p, 16, none⟩ = some (Value.int .i64 ((min (g ++ [n]).length 17 : Nat) : Int))) (by kernel_rfl) ⟨(hH32.drop1 0 rfl), (((hH32.at (i := 0) rfl).cell 16).trans (cb_16 _))⟩ (fun _ => ?_)
          generalize World.drew w = w32 at *
          refine hV (fuel := 8) (i := 0) (Value.pointer (some ⟨p, 0, none⟩)) he31 rfl rfl rfl (by kernel_rfl) (by kernel_rfl) (by kernel_rfl) (fun _ _ _ h => h) (wanted_plain rfl _) (fun w' _ => rn_mv rfl (he31.op rfl) w') ⟨(hH32.drop1 0 rfl), (((hH32.at (i := 0) rfl).cell 16).trans (cb_16 _))⟩ ?_
          intro a33 he33
          clear he31 a31
          refine hV (fuel := 7) (i := 1) (Value.pointer (some ⟨p, 0, none⟩)) he33 rfl rfl rfl (by kernel_rfl) (by kernel_rfl) (by kernel_rfl) (fun _ _ _ h => h) (wanted_plain rfl _) (fun w' _ => rn_mv rfl (he33.op rfl) w') ⟨(hH32.drop1 0 rfl), (((hH32.at (i := 0) rfl).cell 16).trans (cb_16 _))⟩ ?_
          intro a34 he34
          clear he33 a33
          refine hV (fuel := 6) (i := 2) (Value.pointer (some ⟨p, 0, none⟩)) he34 rfl rfl rfl (by kernel_rfl) (by kernel_rfl) (by kernel_rfl) (fun _ _ _ h => h) (wanted_plain rfl _) (fun w' _ => rn_nilck rfl (he34.op rfl) w') ⟨(hH32.drop1 0 rfl), (((hH32.at (i := 0) rfl).cell 16).trans (cb_16 _))⟩ ?_
          intro a35 he35
          clear he34 a34
          refine hV (fuel := 5) (i := 3) (Value.pointer (some ⟨p, 16, none⟩)) he35 rfl rfl rfl (by kernel_rfl) (by kernel_rfl) (by kernel_rfl) (fun _ _ _ h => h) (wanted_plain rfl _) (fun w' _ => rn_faN1 rfl (he35.op rfl) rfl w') ⟨(hH32.drop1 0 rfl), (((hH32.at (i := 0) rfl).cell 16).trans (cb_16 _))⟩ ?_
          intro a36 he36
          clear he35 a35
          refine hV (fuel := 4) (i := 4) (Value.int .i64 ((min (g ++ [n]).length 17 : Nat) : Int)) he36 rfl rfl rfl (by kernel_rfl) (by kernel_rfl) (by kernel_rfl) (fun _ _ _ h => h) (wanted_plain rfl _) (fun w' hw' => rn_ldC rfl (he36.op rfl) hw'.2) ⟨(hH32.drop1 0 rfl), (((hH32.at (i := 0) rfl).cell 16).trans (cb_16 _))⟩ ?_
          intro a37 he37
          clear he36 a36
          refine hV (fuel := 3) (i := 5) (Value.pointer (some ⟨p, 0, none⟩)) he37 rfl rfl rfl (by kernel_rfl) (by kernel_rfl) (by kernel_rfl) (fun _ _ _ h => h) (wanted_plain rfl _) (fun w' _ => rn_nilck rfl (he37.op rfl) w') ⟨(hH32.drop1 0 rfl), (((hH32.at (i := 0) rfl).cell 16).trans (cb_16 _))⟩ ?_
          intro a38 he38
          clear he37 a37
          refine hV (fuel := 2) (i := 6) (Value.pointer (some ⟨p, 0, none⟩)) he38 rfl rfl rfl (by kernel_rfl) (by kernel_rfl) (by kernel_rfl) (fun _ _ _ h => h) (wanted_plain rfl _) (fun w' _ => rn_faN0 rfl (he38.op rfl) rfl w') ⟨(hH32.drop1 0 rfl), (((hH32.at (i := 0) rfl).cell 16).trans (cb_16 _))⟩ ?_
          intro a39 he39
          clear he38 a38
          refine hV (fuel := 1) (i := 7) (Value.pointer (some ⟨p, (g.length + 1), none⟩)) he39 rfl rfl rfl (by kernel_rfl) (by kernel_rfl) (by kernel_rfl) (fun _ _ _ h => h) (wanted_plain rfl _) (fun w' _ => rn_iaN (k := g.length + 1) rfl (he39.op rfl) (he39.op rfl) (by omega) (by omega) w') ⟨(hH32.drop1 0 rfl), (((hH32.at (i := 0) rfl).cell 16).trans (cb_16 _))⟩ ?_
          intro a40 he40
          clear he39 a39
          refine hSetD (fuel := 0) (n := 8) 0 (cs := (setI (cbF (g ++ [n])) (g.length + 1) (.int .i64 (-1)))) he40 hH32 (by kernel_rfl) rfl rfl (wanted_plain rfl _) rfl rfl rfl rfl rfl infoI1 rfl (lt_cb (by omega)) rfl ?_
          intro w41 a42 hH41 hf he42
          replace hF := hF.st hf
          replace hH41 : Hp (bare w) [⟨p, 39, (setI (cbF (g ++ [n])) (g.length + 1) (.int .i64 (-1)))⟩] w41 := hH41
          refine ⟨⟨(hH41.drop1 0 rfl), (((hH41.at (i := 0) rfl).cell 16).trans (set_16 (by omega)))⟩, ?_⟩
          clear hf
          clear he40 a40 hH32
          refine wpAnyH_done (by kernel_rfl) ?_ _
          refine block_ok ?_
          refine then_ok ?_
          refine wp_seq ?_
          refine wp_region_lit ?_
          refine lV (Value.pointer (some ⟨p, 0, none⟩)) he42 rfl rfl (wanted_plain rfl _) (rn_mv rfl (he42.op rfl) w41) ?_
          intro a43 he43
          clear he42 a42
          refine lV (Value.pointer (some ⟨p, 0, none⟩)) he43 rfl rfl (wanted_plain rfl _) (rn_mv rfl (he43.op rfl) w41) ?_
          intro a44 he44
          clear he43 a43
          refine lV (Value.pointer (some ⟨p, 0, none⟩)) he44 rfl rfl (wanted_plain rfl _) (rn_nilck rfl (he44.op rfl) w41) ?_
          intro a45 he45
          clear he44 a44
          refine lV (Value.pointer (some ⟨p, 16, none⟩)) he45 rfl rfl (wanted_plain rfl _) (rn_faN1 rfl (he45.op rfl) rfl w41) ?_
          intro a46 he46
          clear he45 a45
          refine lV (Value.int .i64 ((min (g ++ [n]).length 17 : Nat) : Int)) he46 rfl rfl (wanted_plain rfl _) (rn_ld1 rfl (he46.op rfl) Tryd.underlying3 (hH41.at (i := 0) rfl) (set_16 (by omega))) ?_
          intro a47 he47
          clear he46 a46
          refine lV (Value.int .i64 (((min (g ++ [n]).length 17 : Nat) : Int) + 1)) he47 rfl rfl (wanted_plain rfl _) (rn_addI rfl (he47.op rfl) (he47.op rfl) (i64w (by omega) (by omega)) w41) ?_
          intro a48 he48
          clear he47 a47
          refine lV (Value.int .i64 (min (((min (g ++ [n]).length 17 : Nat) : Int) + 1) 17)) he48 rfl rfl (wanted_plain rfl _) (rn_minI rfl (he48.op rfl) (he48.op rfl) rfl w41) ?_
          intro a49 he49
          clear he48 a48
          refine lV (Value.pointer (some ⟨p, 0, none⟩)) he49 rfl rfl (wanted_plain rfl _) (rn_nilck rfl (he49.op rfl) w41) ?_
          intro a50 he50
          clear he49 a49
          refine lV (Value.pointer (some ⟨p, 16, none⟩)) he50 rfl rfl (wanted_plain rfl _) (rn_faN1 rfl (he50.op rfl) rfl w41) ?_
          intro a51 he51
          clear he50 a50
          refine lSetD 0 (cs := (cbF (g ++ [n] ++ [-1]))) he51 hH41 rfl (wanted_plain rfl _) rfl rfl rfl rfl rfl infoI1 rfl (lt_set (by omega)) (cb_semiA (by omega) (by omega) (by omega)) ?_
          intro w52 a53 hH52 hf he53
          replace hF := hF.st hf
          replace hH52 : Hp (bare w) [⟨p, 39, (cbF (g ++ [n] ++ [-1]))⟩] w52 := hH52
          clear hf
          clear he51 a51 hH41
          refine wpList_nil ?_
          refine then_ok ?_
          refine wp_exit ?_
          refine block_exit ?_
          refine then_ok ?_
          refine wp_seq ?_
          refine wp_region_lit ?_
          refine lV (Value.bool true) he53 rfl rfl (wanted_plain rfl _) (rn_asg rfl (he53.op rfl) w52) ?_
          intro a54 he54
          clear he53 a53
          refine wpList_nil ?_
          refine then_ok ?_
          refine wp_ret ?_
          try simp only [Exit.then, Exit.inBlock, Exit.noGoto]
          exact ret_env rfl he54 rfl ⟨rfl, hF, by rw [addF_semi (by omega) hg]; exact hH52.at (i := 0) rfl⟩
        · skip
          refine lV (Value.bool false) he29 rfl rfl (wanted_plain rfl _) (rn_lsI rfl (he29.op rfl) (he29.op rfl) (decide_eq_false hb3) w) ?_
          intro a30 he30
          clear he29 a29
          refine lV (Value.bool false) he30 rfl rfl (wanted_plain rfl _) (rn_asg rfl (he30.op rfl) w) ?_
          intro a31 he31
          clear he30 a30
          refine wpList_nil ?_
          refine then_ok ?_
          refine wp_cond_false (he31.op rfl) ?_
          refine wp_skip ?_
          refine then_ok ?_
          refine wp_exit ?_
          refine block_pass (by decide) ?_
          refine then_exit ?_
          refine block_pass (by decide) ?_
          refine then_exit ?_
          refine block_exit ?_
          refine then_ok ?_
          refine wp_seq ?_
          refine wp_region_lit ?_
          refine lV (Value.pointer (some ⟨p, 0, none⟩)) he31 rfl rfl (wanted_plain rfl _) (rn_mv rfl (he31.op rfl) w) ?_
          intro a32 he32
          clear he31 a31
          refine lV (Value.pointer (some ⟨p, 0, none⟩)) he32 rfl rfl (wanted_plain rfl _) (rn_mv rfl (he32.op rfl) w) ?_
          intro a33 he33
          clear he32 a32
          refine lV (Value.pointer (some ⟨p, 0, none⟩)) he33 rfl rfl (wanted_plain rfl _) (rn_nilck rfl (he33.op rfl) w) ?_
          intro a34 he34
          clear he33 a33
          refine lV (Value.pointer (some ⟨p, 16, none⟩)) he34 rfl rfl (wanted_plain rfl _) (rn_faN1 rfl (he34.op rfl) rfl w) ?_
          intro a35 he35
          clear he34 a34
          refine lV (Value.int .i64 ((min (g ++ [n]).length 17 : Nat) : Int)) he35 rfl rfl (wanted_plain rfl _) (rn_ldD rfl (he35.op rfl) (hH.at (i := 0) rfl) (buI_16 _)) ?_
          intro a36 he36
          clear he35 a35
          refine lV (Value.int .i64 (((min (g ++ [n]).length 17 : Nat) : Int) + 1)) he36 rfl rfl (wanted_plain rfl _) (rn_addI rfl (he36.op rfl) (he36.op rfl) (i64w (by omega) (by omega)) w) ?_
          intro a37 he37
          clear he36 a36
          refine lV (Value.int .i64 (min (((min (g ++ [n]).length 17 : Nat) : Int) + 1) 17)) he37 rfl rfl (wanted_plain rfl _) (rn_minI rfl (he37.op rfl) (he37.op rfl) rfl w) ?_
          intro a38 he38
          clear he37 a37
          refine lV (Value.pointer (some ⟨p, 0, none⟩)) he38 rfl rfl (wanted_plain rfl _) (rn_nilck rfl (he38.op rfl) w) ?_
          intro a39 he39
          clear he38 a38
          refine lV (Value.pointer (some ⟨p, 16, none⟩)) he39 rfl rfl (wanted_plain rfl _) (rn_faN1 rfl (he39.op rfl) rfl w) ?_
          intro a40 he40
          clear he39 a39
          refine lSetD 0 (cs := (cbF (g ++ [n] ++ [-1]))) he40 hH rfl (wanted_plain rfl _) rfl rfl rfl rfl rfl infoI1 rfl (lt_cb (by omega)) (cb_semiB (by omega) (by omega)) ?_
          intro w41 a42 hH41 hf he42
          replace hF := hF.st hf
          replace hH41 : Hp (bare w) [⟨p, 39, (cbF (g ++ [n] ++ [-1]))⟩] w41 := hH41
          clear hf
          clear he40 a40 hH
          refine wpList_nil ?_
          refine then_ok ?_
          refine wp_exit ?_
          refine block_exit ?_
          refine then_ok ?_
          refine wp_seq ?_
          refine wp_region_lit ?_
          refine lV (Value.bool true) he42 rfl rfl (wanted_plain rfl _) (rn_asg rfl (he42.op rfl) w41) ?_
          intro a43 he43
          clear he42 a42
          refine wpList_nil ?_
          refine then_ok ?_
          refine wp_ret ?_
          try simp only [Exit.then, Exit.inBlock, Exit.noGoto]
          exact ret_env rfl he43 rfl ⟨rfl, hF, by rw [addF_semi (by omega) hg]; exact hH41.at (i := 0) rfl⟩
    · skip
      refine lV (Value.bool true) he15 rfl rfl (he15.want rfl rfl rfl rfl rfl) (rn_neR rfl (he15.op rfl) (he15.op rfl) (bneF hb1) w) ?_
      intro a16 he16
      clear he15 a15
      refine lV (Value.bool true) he16 rfl rfl (he16.want rfl rfl rfl rfl rfl) (rn_pk rfl (he16.op rfl) (he16.op rfl) w) ?_
      intro a17 he17
      clear he16 a16
      refine lV (Value.bool true) he17 rfl rfl (wanted_plain rfl _) (rn_pk0 rfl (he17.op rfl) (he17.op rfl) w) ?_
      intro a18 he18
      clear he17 a17
      refine wpList_nil ?_
      refine then_ok ?_
      refine wp_cond_true (he18.op rfl) ?_
      refine wp_seq ?_
      refine wp_region_lit ?_
      refine lV (Value.bool false) he18 rfl rfl (wanted_plain rfl _) (rn_asg rfl (he18.op rfl) w) ?_
      intro a19 he19
      clear he18 a18
      refine wpList_nil ?_
      refine then_ok ?_
      refine wp_ret ?_
      try simp only [Exit.then, Exit.inBlock, Exit.noGoto]
      exact ret_env rfl he19 rfl (by exfalso; omega)
set_option linter.unusedSimpArgs false in
set_option maxRecDepth 100000 in
set_option maxHeartbeats 1600000 in
theorem AddNo_c (p : Nat) (r : Int) (hr : ¬ fineI r) (w : World) : Calls Tryd.prog 20 #[.pointer (some ⟨p, 0, none⟩), .int .i32 r] w fun e w' => e = .returned (.bool false) ∧ New w w' := by
  refine calls_args (vl := [Value.pointer (some ⟨p, 0, none⟩), Value.int .i32 r]) 64 Tryd.func20 rfl Tryd.ntmps20 (by kernel_rfl) (fun a he => ?_)
  have he0 : Env 64 [(0, Value.pointer (some ⟨p, 0, none⟩)), (1, Value.int .i32 r)] a := he
  clear he
  have hH := Hp.start w
  refine wp_seq ?_
  refine wp_region_lit ?_
  refine lV (Value.bool false) he0 rfl rfl (wanted_plain rfl _) (rn_asg rfl (he0.op rfl) w) ?_
  intro a1 he1
  clear he0 a
  refine wpList_nil ?_
  refine then_ok ?_
  refine wp_seq ?_
  refine wp_region_lit ?_
  refine lV (Value.int .i32 r) he1 rfl rfl (wanted_plain rfl _) (rn_mv rfl (he1.op rfl) w) ?_
  intro a2 he2
  clear he1 a1
  by_cases hb0 : 48 ≤ r
  · skip
    refine lV (Value.bool true) he2 rfl rfl (wanted_plain rfl _) (rn_geR rfl (he2.op rfl) (he2.op rfl) (decide_eq_true hb0) w) ?_
    intro a3 he3
    clear he2 a2
    refine lV (Value.bool true) he3 rfl rfl (wanted_plain rfl _) (rn_mv rfl (he3.op rfl) w) ?_
    intro a4 he4
    clear he3 a3
    refine lV (Value.int .i32 r) he4 rfl rfl (he4.want rfl rfl rfl rfl rfl) (rn_mv rfl (he4.op rfl) w) ?_
    intro a5 he5
    clear he4 a4
    by_cases hb1 : r ≤ 57
    · skip
      refine lV (Value.bool true) he5 rfl rfl (he5.want rfl rfl rfl rfl rfl) (rn_leR rfl (he5.op rfl) (he5.op rfl) (decide_eq_true hb1) w) ?_
      intro a6 he6
      clear he5 a5
      refine lV (Value.bool true) he6 rfl rfl (wanted_plain rfl _) (rn_pk rfl (he6.op rfl) (he6.op rfl) w) ?_
      intro a7 he7
      clear he6 a6
      refine lV (Value.bool true) he7 rfl rfl (wanted_plain rfl _) (rn_asg rfl (he7.op rfl) w) ?_
      intro a8 he8
      clear he7 a7
      refine wpList_nil ?_
      refine then_ok ?_
      refine wp_seq ?_
      refine wp_seq ?_
      refine wp_region_lit ?_
      refine lV (Value.pointer (some ⟨p, 0, none⟩)) he8 rfl rfl (wanted_plain rfl _) (rn_mv rfl (he8.op rfl) w) ?_
      intro a9 he9
      clear he8 a8
      refine lV (Value.bool false) he9 rfl rfl (wanted_plain rfl _) (rn_eqP1 rfl (he9.op rfl) (he9.op rfl) w) ?_
      intro a10 he10
      clear he9 a9
      refine lV (Value.bool false) he10 rfl rfl (wanted_plain rfl _) (rn_mv rfl (he10.op rfl) w) ?_
      intro a11 he11
      clear he10 a10
      refine lV (Value.bool true) he11 rfl rfl (he11.want rfl rfl rfl rfl rfl) (rn_mv rfl (he11.op rfl) w) ?_
      intro a12 he12
      clear he11 a11
      refine lV (Value.bool false) he12 rfl rfl (he12.want rfl rfl rfl rfl rfl) (rn_not (b := true) rfl (he12.op rfl) w) ?_
      intro a13 he13
      clear he12 a12
      refine lV (Value.bool false) he13 rfl rfl (he13.want rfl rfl rfl rfl rfl) (rn_mv rfl (he13.op rfl) w) ?_
      intro a14 he14
      clear he13 a13
      refine lSkip he14 rfl rfl (he14.wantNot rfl rfl rfl rfl rfl rfl) ?_
      intro a15 he15
      clear he14 a14
      refine lSkip he15 rfl rfl (he15.wantNot rfl rfl rfl rfl rfl rfl) ?_
      intro a16 he16
      clear he15 a15
      refine lV (Value.bool false) he16 rfl rfl (he16.want rfl rfl rfl rfl rfl) (rn_pk0 rfl (he16.op rfl) (he16.op rfl) w) ?_
      intro a17 he17
      clear he16 a16
      refine lV (Value.bool false) he17 rfl rfl (wanted_plain rfl _) (rn_pk0 rfl (he17.op rfl) (he17.op rfl) w) ?_
      intro a18 he18
      clear he17 a17
      refine wpList_nil ?_
      refine then_ok ?_
      refine wp_cond_false (he18.op rfl) ?_
      refine wp_skip ?_
      refine then_ok ?_
      refine wp_seq ?_
      refine wp_seq ?_
      exfalso; omega
    · skip
      refine lV (Value.bool false) he5 rfl rfl (he5.want rfl rfl rfl rfl rfl) (rn_leR rfl (he5.op rfl) (he5.op rfl) (decide_eq_false hb1) w) ?_
      intro a6 he6
      clear he5 a5
      refine lV (Value.bool false) he6 rfl rfl (wanted_plain rfl _) (rn_pk rfl (he6.op rfl) (he6.op rfl) w) ?_
      intro a7 he7
      clear he6 a6
      refine lV (Value.bool false) he7 rfl rfl (wanted_plain rfl _) (rn_asg rfl (he7.op rfl) w) ?_
      intro a8 he8
      clear he7 a7
      refine wpList_nil ?_
      refine then_ok ?_
      refine wp_seq ?_
      refine wp_seq ?_
      refine wp_region_lit ?_
      refine lV (Value.pointer (some ⟨p, 0, none⟩)) he8 rfl rfl (wanted_plain rfl _) (rn_mv rfl (he8.op rfl) w) ?_
      intro a9 he9
      clear he8 a8
      refine lV (Value.bool false) he9 rfl rfl (wanted_plain rfl _) (rn_eqP1 rfl (he9.op rfl) (he9.op rfl) w) ?_
      intro a10 he10
      clear he9 a9
      refine lV (Value.bool false) he10 rfl rfl (wanted_plain rfl _) (rn_mv rfl (he10.op rfl) w) ?_
      intro a11 he11
      clear he10 a10
      refine lV (Value.bool false) he11 rfl rfl (he11.want rfl rfl rfl rfl rfl) (rn_mv rfl (he11.op rfl) w) ?_
      intro a12 he12
      clear he11 a11
      refine lV (Value.bool true) he12 rfl rfl (he12.want rfl rfl rfl rfl rfl) (rn_not (b := false) rfl (he12.op rfl) w) ?_
      intro a13 he13
      clear he12 a12
      refine lV (Value.bool true) he13 rfl rfl (he13.want rfl rfl rfl rfl rfl) (rn_mv rfl (he13.op rfl) w) ?_
      intro a14 he14
      clear he13 a13
      refine lV (Value.int .i32 r) he14 rfl rfl (he14.want rfl rfl rfl rfl rfl) (rn_mv rfl (he14.op rfl) w) ?_
      intro a15 he15
      clear he14 a14
      by_cases hb2 : r = 59
      · skip
        refine lV (Value.bool false) he15 rfl rfl (he15.want rfl rfl rfl rfl rfl) (rn_neR rfl (he15.op rfl) (he15.op rfl) (bneT hb2) w) ?_
        intro a16 he16
        clear he15 a15
        refine lV (Value.bool false) he16 rfl rfl (he16.want rfl rfl rfl rfl rfl) (rn_pk rfl (he16.op rfl) (he16.op rfl) w) ?_
        intro a17 he17
        clear he16 a16
        refine lV (Value.bool false) he17 rfl rfl (wanted_plain rfl _) (rn_pk0 rfl (he17.op rfl) (he17.op rfl) w) ?_
        intro a18 he18
        clear he17 a17
        refine wpList_nil ?_
        refine then_ok ?_
        refine wp_cond_false (he18.op rfl) ?_
        refine wp_skip ?_
        refine then_ok ?_
        refine wp_seq ?_
        refine wp_seq ?_
        exfalso; omega
      · skip
        refine lV (Value.bool true) he15 rfl rfl (he15.want rfl rfl rfl rfl rfl) (rn_neR rfl (he15.op rfl) (he15.op rfl) (bneF hb2) w) ?_
        intro a16 he16
        clear he15 a15
        refine lV (Value.bool true) he16 rfl rfl (he16.want rfl rfl rfl rfl rfl) (rn_pk rfl (he16.op rfl) (he16.op rfl) w) ?_
        intro a17 he17
        clear he16 a16
        refine lV (Value.bool true) he17 rfl rfl (wanted_plain rfl _) (rn_pk0 rfl (he17.op rfl) (he17.op rfl) w) ?_
        intro a18 he18
        clear he17 a17
        refine wpList_nil ?_
        refine then_ok ?_
        refine wp_cond_true (he18.op rfl) ?_
        refine wp_seq ?_
        refine wp_region_lit ?_
        refine lV (Value.bool false) he18 rfl rfl (wanted_plain rfl _) (rn_asg rfl (he18.op rfl) w) ?_
        intro a19 he19
        clear he18 a18
        refine wpList_nil ?_
        refine then_ok ?_
        refine wp_ret ?_
        try simp only [Exit.then, Exit.inBlock, Exit.noGoto]
        exact ret_env rfl he19 rfl ⟨by first | rfl | (exfalso; omega), hH.new⟩
  · skip
    refine lV (Value.bool false) he2 rfl rfl (wanted_plain rfl _) (rn_geR rfl (he2.op rfl) (he2.op rfl) (decide_eq_false hb0) w) ?_
    intro a3 he3
    clear he2 a2
    refine lV (Value.bool false) he3 rfl rfl (wanted_plain rfl _) (rn_mv rfl (he3.op rfl) w) ?_
    intro a4 he4
    clear he3 a3
    refine lSkip he4 rfl rfl (he4.wantNot rfl rfl rfl rfl rfl rfl) ?_
    intro a5 he5
    clear he4 a4
    refine lSkip he5 rfl rfl (he5.wantNot rfl rfl rfl rfl rfl rfl) ?_
    intro a6 he6
    clear he5 a5
    refine lV (Value.bool false) he6 rfl rfl (wanted_plain rfl _) (rn_pk0 rfl (he6.op rfl) (he6.op rfl) w) ?_
    intro a7 he7
    clear he6 a6
    refine lV (Value.bool false) he7 rfl rfl (wanted_plain rfl _) (rn_asg rfl (he7.op rfl) w) ?_
    intro a8 he8
    clear he7 a7
    refine wpList_nil ?_
    refine then_ok ?_
    refine wp_seq ?_
    refine wp_seq ?_
    refine wp_region_lit ?_
    refine lV (Value.pointer (some ⟨p, 0, none⟩)) he8 rfl rfl (wanted_plain rfl _) (rn_mv rfl (he8.op rfl) w) ?_
    intro a9 he9
    clear he8 a8
    refine lV (Value.bool false) he9 rfl rfl (wanted_plain rfl _) (rn_eqP1 rfl (he9.op rfl) (he9.op rfl) w) ?_
    intro a10 he10
    clear he9 a9
    refine lV (Value.bool false) he10 rfl rfl (wanted_plain rfl _) (rn_mv rfl (he10.op rfl) w) ?_
    intro a11 he11
    clear he10 a10
    refine lV (Value.bool false) he11 rfl rfl (he11.want rfl rfl rfl rfl rfl) (rn_mv rfl (he11.op rfl) w) ?_
    intro a12 he12
    clear he11 a11
    refine lV (Value.bool true) he12 rfl rfl (he12.want rfl rfl rfl rfl rfl) (rn_not (b := false) rfl (he12.op rfl) w) ?_
    intro a13 he13
    clear he12 a12
    refine lV (Value.bool true) he13 rfl rfl (he13.want rfl rfl rfl rfl rfl) (rn_mv rfl (he13.op rfl) w) ?_
    intro a14 he14
    clear he13 a13
    refine lV (Value.int .i32 r) he14 rfl rfl (he14.want rfl rfl rfl rfl rfl) (rn_mv rfl (he14.op rfl) w) ?_
    intro a15 he15
    clear he14 a14
    by_cases hb1 : r = 59
    · skip
      refine lV (Value.bool false) he15 rfl rfl (he15.want rfl rfl rfl rfl rfl) (rn_neR rfl (he15.op rfl) (he15.op rfl) (bneT hb1) w) ?_
      intro a16 he16
      clear he15 a15
      refine lV (Value.bool false) he16 rfl rfl (he16.want rfl rfl rfl rfl rfl) (rn_pk rfl (he16.op rfl) (he16.op rfl) w) ?_
      intro a17 he17
      clear he16 a16
      refine lV (Value.bool false) he17 rfl rfl (wanted_plain rfl _) (rn_pk0 rfl (he17.op rfl) (he17.op rfl) w) ?_
      intro a18 he18
      clear he17 a17
      refine wpList_nil ?_
      refine then_ok ?_
      refine wp_cond_false (he18.op rfl) ?_
      refine wp_skip ?_
      refine then_ok ?_
      refine wp_seq ?_
      refine wp_seq ?_
      exfalso; omega
    · skip
      refine lV (Value.bool true) he15 rfl rfl (he15.want rfl rfl rfl rfl rfl) (rn_neR rfl (he15.op rfl) (he15.op rfl) (bneF hb1) w) ?_
      intro a16 he16
      clear he15 a15
      refine lV (Value.bool true) he16 rfl rfl (he16.want rfl rfl rfl rfl rfl) (rn_pk rfl (he16.op rfl) (he16.op rfl) w) ?_
      intro a17 he17
      clear he16 a16
      refine lV (Value.bool true) he17 rfl rfl (wanted_plain rfl _) (rn_pk0 rfl (he17.op rfl) (he17.op rfl) w) ?_
      intro a18 he18
      clear he17 a17
      refine wpList_nil ?_
      refine then_ok ?_
      refine wp_cond_true (he18.op rfl) ?_
      refine wp_seq ?_
      refine wp_region_lit ?_
      refine lV (Value.bool false) he18 rfl rfl (wanted_plain rfl _) (rn_asg rfl (he18.op rfl) w) ?_
      intro a19 he19
      clear he18 a18
      refine wpList_nil ?_
      refine then_ok ?_
      refine wp_ret ?_
      try simp only [Exit.then, Exit.inBlock, Exit.noGoto]
      exact ret_env rfl he19 rfl ⟨by first | rfl | (exfalso; omega), hH.new⟩
set_option linter.unusedSimpArgs false in
set_option maxRecDepth 100000 in
set_option maxHeartbeats 1600000 in
theorem AddNil_c (r : Int) (w : World) : Calls Tryd.prog 20 #[.pointer none, .int .i32 r] w fun e w' => e = .returned (.bool false) ∧ New w w' := by
  refine calls_args (vl := [Value.pointer none, Value.int .i32 r]) 64 Tryd.func20 rfl Tryd.ntmps20 (by kernel_rfl) (fun a he => ?_)
  have he0 : Env 64 [(0, Value.pointer none), (1, Value.int .i32 r)] a := he
  clear he
  have hH := Hp.start w
  refine wp_seq ?_
  refine wp_region_lit ?_
  refine lV (Value.bool false) he0 rfl rfl (wanted_plain rfl _) (rn_asg rfl (he0.op rfl) w) ?_
  intro a1 he1
  clear he0 a
  refine wpList_nil ?_
  refine then_ok ?_
  refine wp_seq ?_
  refine wp_region_lit ?_
  refine lV (Value.int .i32 r) he1 rfl rfl (wanted_plain rfl _) (rn_mv rfl (he1.op rfl) w) ?_
  intro a2 he2
  clear he1 a1
  by_cases hb0 : 48 ≤ r
  · skip
    refine lV (Value.bool true) he2 rfl rfl (wanted_plain rfl _) (rn_geR rfl (he2.op rfl) (he2.op rfl) (decide_eq_true hb0) w) ?_
    intro a3 he3
    clear he2 a2
    refine lV (Value.bool true) he3 rfl rfl (wanted_plain rfl _) (rn_mv rfl (he3.op rfl) w) ?_
    intro a4 he4
    clear he3 a3
    refine lV (Value.int .i32 r) he4 rfl rfl (he4.want rfl rfl rfl rfl rfl) (rn_mv rfl (he4.op rfl) w) ?_
    intro a5 he5
    clear he4 a4
    by_cases hb1 : r ≤ 57
    · skip
      refine lV (Value.bool true) he5 rfl rfl (he5.want rfl rfl rfl rfl rfl) (rn_leR rfl (he5.op rfl) (he5.op rfl) (decide_eq_true hb1) w) ?_
      intro a6 he6
      clear he5 a5
      refine lV (Value.bool true) he6 rfl rfl (wanted_plain rfl _) (rn_pk rfl (he6.op rfl) (he6.op rfl) w) ?_
      intro a7 he7
      clear he6 a6
      refine lV (Value.bool true) he7 rfl rfl (wanted_plain rfl _) (rn_asg rfl (he7.op rfl) w) ?_
      intro a8 he8
      clear he7 a7
      refine wpList_nil ?_
      refine then_ok ?_
      refine wp_seq ?_
      refine wp_seq ?_
      refine wp_region_lit ?_
      refine lV (Value.pointer none) he8 rfl rfl (wanted_plain rfl _) (rn_mv rfl (he8.op rfl) w) ?_
      intro a9 he9
      clear he8 a8
      refine lV (Value.bool true) he9 rfl rfl (wanted_plain rfl _) (rn_eqP0 rfl (he9.op rfl) (he9.op rfl) w) ?_
      intro a10 he10
      clear he9 a9
      refine lV (Value.bool true) he10 rfl rfl (wanted_plain rfl _) (rn_mv rfl (he10.op rfl) w) ?_
      intro a11 he11
      clear he10 a10
      refine lSkip he11 rfl rfl (he11.wantNot rfl rfl rfl rfl rfl rfl) ?_
      intro a12 he12
      clear he11 a11
      refine lSkip he12 rfl rfl (he12.wantNot rfl rfl rfl rfl rfl rfl) ?_
      intro a13 he13
      clear he12 a12
      refine lSkip he13 rfl rfl (he13.wantNot rfl rfl rfl rfl rfl rfl) ?_
      intro a14 he14
      clear he13 a13
      refine lSkip he14 rfl rfl (he14.wantU rfl rfl rfl rfl rfl) ?_
      intro a15 he15
      clear he14 a14
      refine lSkip he15 rfl rfl (he15.wantU rfl rfl rfl rfl rfl) ?_
      intro a16 he16
      clear he15 a15
      refine lSkip he16 rfl rfl (he16.wantNot rfl rfl rfl rfl rfl rfl) ?_
      intro a17 he17
      clear he16 a16
      refine lV (Value.bool true) he17 rfl rfl (wanted_plain rfl _) (rn_pk rfl (he17.op rfl) (he17.op rfl) w) ?_
      intro a18 he18
      clear he17 a17
      refine wpList_nil ?_
      refine then_ok ?_
      refine wp_cond_true (he18.op rfl) ?_
      refine wp_seq ?_
      refine wp_region_lit ?_
      refine lV (Value.bool false) he18 rfl rfl (wanted_plain rfl _) (rn_asg rfl (he18.op rfl) w) ?_
      intro a19 he19
      clear he18 a18
      refine wpList_nil ?_
      refine then_ok ?_
      refine wp_ret ?_
      try simp only [Exit.then, Exit.inBlock, Exit.noGoto]
      exact ret_env rfl he19 rfl ⟨by rfl, hH.new⟩
    · skip
      refine lV (Value.bool false) he5 rfl rfl (he5.want rfl rfl rfl rfl rfl) (rn_leR rfl (he5.op rfl) (he5.op rfl) (decide_eq_false hb1) w) ?_
      intro a6 he6
      clear he5 a5
      refine lV (Value.bool false) he6 rfl rfl (wanted_plain rfl _) (rn_pk rfl (he6.op rfl) (he6.op rfl) w) ?_
      intro a7 he7
      clear he6 a6
      refine lV (Value.bool false) he7 rfl rfl (wanted_plain rfl _) (rn_asg rfl (he7.op rfl) w) ?_
      intro a8 he8
      clear he7 a7
      refine wpList_nil ?_
      refine then_ok ?_
      refine wp_seq ?_
      refine wp_seq ?_
      refine wp_region_lit ?_
      refine lV (Value.pointer none) he8 rfl rfl (wanted_plain rfl _) (rn_mv rfl (he8.op rfl) w) ?_
      intro a9 he9
      clear he8 a8
      refine lV (Value.bool true) he9 rfl rfl (wanted_plain rfl _) (rn_eqP0 rfl (he9.op rfl) (he9.op rfl) w) ?_
      intro a10 he10
      clear he9 a9
      refine lV (Value.bool true) he10 rfl rfl (wanted_plain rfl _) (rn_mv rfl (he10.op rfl) w) ?_
      intro a11 he11
      clear he10 a10
      refine lSkip he11 rfl rfl (he11.wantNot rfl rfl rfl rfl rfl rfl) ?_
      intro a12 he12
      clear he11 a11
      refine lSkip he12 rfl rfl (he12.wantNot rfl rfl rfl rfl rfl rfl) ?_
      intro a13 he13
      clear he12 a12
      refine lSkip he13 rfl rfl (he13.wantNot rfl rfl rfl rfl rfl rfl) ?_
      intro a14 he14
      clear he13 a13
      refine lSkip he14 rfl rfl (he14.wantU rfl rfl rfl rfl rfl) ?_
      intro a15 he15
      clear he14 a14
      refine lSkip he15 rfl rfl (he15.wantU rfl rfl rfl rfl rfl) ?_
      intro a16 he16
      clear he15 a15
      refine lSkip he16 rfl rfl (he16.wantNot rfl rfl rfl rfl rfl rfl) ?_
      intro a17 he17
      clear he16 a16
      refine lV (Value.bool true) he17 rfl rfl (wanted_plain rfl _) (rn_pk rfl (he17.op rfl) (he17.op rfl) w) ?_
      intro a18 he18
      clear he17 a17
      refine wpList_nil ?_
      refine then_ok ?_
      refine wp_cond_true (he18.op rfl) ?_
      refine wp_seq ?_
      refine wp_region_lit ?_
      refine lV (Value.bool false) he18 rfl rfl (wanted_plain rfl _) (rn_asg rfl (he18.op rfl) w) ?_
      intro a19 he19
      clear he18 a18
      refine wpList_nil ?_
      refine then_ok ?_
      refine wp_ret ?_
      try simp only [Exit.then, Exit.inBlock, Exit.noGoto]
      exact ret_env rfl he19 rfl ⟨by rfl, hH.new⟩
  · skip
    refine lV (Value.bool false) he2 rfl rfl (wanted_plain rfl _) (rn_geR rfl (he2.op rfl) (he2.op rfl) (decide_eq_false hb0) w) ?_
    intro a3 he3
    clear he2 a2
    refine lV (Value.bool false) he3 rfl rfl (wanted_plain rfl _) (rn_mv rfl (he3.op rfl) w) ?_
    intro a4 he4
    clear he3 a3
    refine lSkip he4 rfl rfl (he4.wantNot rfl rfl rfl rfl rfl rfl) ?_
    intro a5 he5
    clear he4 a4
    refine lSkip he5 rfl rfl (he5.wantNot rfl rfl rfl rfl rfl rfl) ?_
    intro a6 he6
    clear he5 a5
    refine lV (Value.bool false) he6 rfl rfl (wanted_plain rfl _) (rn_pk0 rfl (he6.op rfl) (he6.op rfl) w) ?_
    intro a7 he7
    clear he6 a6
    refine lV (Value.bool false) he7 rfl rfl (wanted_plain rfl _) (rn_asg rfl (he7.op rfl) w) ?_
    intro a8 he8
    clear he7 a7
    refine wpList_nil ?_
    refine then_ok ?_
    refine wp_seq ?_
    refine wp_seq ?_
    refine wp_region_lit ?_
    refine lV (Value.pointer none) he8 rfl rfl (wanted_plain rfl _) (rn_mv rfl (he8.op rfl) w) ?_
    intro a9 he9
    clear he8 a8
    refine lV (Value.bool true) he9 rfl rfl (wanted_plain rfl _) (rn_eqP0 rfl (he9.op rfl) (he9.op rfl) w) ?_
    intro a10 he10
    clear he9 a9
    refine lV (Value.bool true) he10 rfl rfl (wanted_plain rfl _) (rn_mv rfl (he10.op rfl) w) ?_
    intro a11 he11
    clear he10 a10
    refine lSkip he11 rfl rfl (he11.wantNot rfl rfl rfl rfl rfl rfl) ?_
    intro a12 he12
    clear he11 a11
    refine lSkip he12 rfl rfl (he12.wantNot rfl rfl rfl rfl rfl rfl) ?_
    intro a13 he13
    clear he12 a12
    refine lSkip he13 rfl rfl (he13.wantNot rfl rfl rfl rfl rfl rfl) ?_
    intro a14 he14
    clear he13 a13
    refine lSkip he14 rfl rfl (he14.wantU rfl rfl rfl rfl rfl) ?_
    intro a15 he15
    clear he14 a14
    refine lSkip he15 rfl rfl (he15.wantU rfl rfl rfl rfl rfl) ?_
    intro a16 he16
    clear he15 a15
    refine lSkip he16 rfl rfl (he16.wantNot rfl rfl rfl rfl rfl rfl) ?_
    intro a17 he17
    clear he16 a16
    refine lV (Value.bool true) he17 rfl rfl (wanted_plain rfl _) (rn_pk rfl (he17.op rfl) (he17.op rfl) w) ?_
    intro a18 he18
    clear he17 a17
    refine wpList_nil ?_
    refine then_ok ?_
    refine wp_cond_true (he18.op rfl) ?_
    refine wp_seq ?_
    refine wp_region_lit ?_
    refine lV (Value.bool false) he18 rfl rfl (wanted_plain rfl _) (rn_asg rfl (he18.op rfl) w) ?_
    intro a19 he19
    clear he18 a18
    refine wpList_nil ?_
    refine then_ok ?_
    refine wp_ret ?_
    try simp only [Exit.then, Exit.inBlock, Exit.noGoto]
    exact ret_env rfl he19 rfl ⟨by rfl, hH.new⟩
set_option linter.unusedSimpArgs false in
set_option maxRecDepth 100000 in
set_option maxHeartbeats 1600000 in
theorem List_c (p : Nat) (f : List Int) (w : World) (hB : Blk w p 39 (cbF f)) : Calls Tryd.prog 23 #[.pointer (some ⟨p, 0, none⟩)] w fun e w' => ∃ q, e = .returned (.slice (some ⟨q, 0, none⟩) (f.take 16).length (f.take 16).length) ∧ w.heap.size ≤ q ∧ Blk w' q 3 (ivs (f.take 16)).toArray ∧ New w w' := by
  refine calls_args (vl := [Value.pointer (some ⟨p, 0, none⟩)]) 19 Tryd.func23 rfl Tryd.ntmps23 (by kernel_rfl) (fun a he => ?_)
  have he0 : Env 19 [(0, Value.pointer (some ⟨p, 0, none⟩))] a := he
  clear he
  have hH := Hp.start w
  refine wp_seq ?_
  refine wp_region_lit ?_
  refine lV (Value.slice none 0 0) he0 rfl rfl (wanted_plain rfl _) (rn_asg rfl (he0.op rfl) w) ?_
  intro a1 he1
  clear he0 a
  refine wpList_nil ?_
  refine then_ok ?_
  refine wp_seq ?_
  refine wp_seq ?_
  refine wp_region_lit ?_
  refine lV (Value.pointer (some ⟨p, 0, none⟩)) he1 rfl rfl (wanted_plain rfl _) (rn_mv rfl (he1.op rfl) w) ?_
  intro a2 he2
  clear he1 a1
  refine lV (Value.bool false) he2 rfl rfl (wanted_plain rfl _) (rn_eqP1 rfl (he2.op rfl) (he2.op rfl) w) ?_
  intro a3 he3
  clear he2 a2
  refine wpList_nil ?_
  refine then_ok ?_
  refine wp_cond_false (he3.op rfl) ?_
  refine wp_skip ?_
  refine then_ok ?_
  refine wp_seq ?_
  refine wp_region_lit ?_
  refine lV (Value.pointer (some ⟨p, 0, none⟩)) he3 rfl rfl (wanted_plain rfl _) (rn_mv rfl (he3.op rfl) w) ?_
  intro a4 he4
  clear he3 a3
  refine lV (Value.pointer (some ⟨p, 0, none⟩)) he4 rfl rfl (wanted_plain rfl _) (rn_nilck rfl (he4.op rfl) w) ?_
  intro a5 he5
  clear he4 a4
  refine lV (Value.pointer (some ⟨p, 16, none⟩)) he5 rfl rfl (wanted_plain rfl _) (rn_faN1 rfl (he5.op rfl) rfl w) ?_
  intro a6 he6
  clear he5 a5
  refine lV (Value.int .i64 ((min f.length 17 : Nat) : Int)) he6 rfl rfl (wanted_plain rfl _) (rn_ldD rfl (he6.op rfl) (hB.fr hH.new (fun h => h)) (buI_16 _)) ?_
  intro a7 he7
  clear he6 a6
  refine lV (Value.int .i64 (min ((min f.length 17 : Nat) : Int) 16)) he7 rfl rfl (wanted_plain rfl _) (rn_minI rfl (he7.op rfl) (he7.op rfl) rfl w) ?_
  intro a8 he8
  clear he7 a7
  refine lNewP (fun p => .slice (some ⟨p, 0, none⟩) (min f.length 16) (min f.length 16)) he8 hH rfl rfl (wanted_plain rfl _) (rn_mkJ (n := (min f.length 16)) rfl (he8.op rfl) (he8.op rfl) (by omega) (by omega) (by omega) w) ?_
  intro p9 w9 a10 hp hn hH9 he10
  clear he8 a8 hH hn hp
  refine lV (Value.slice (some ⟨p9, 0, none⟩) (min f.length 16) (min f.length 16)) he10 rfl rfl (wanted_plain rfl _) (rn_asg rfl (he10.op rfl) w9) ?_
  intro a11 he11
  clear he10 a10
  refine wpList_nil ?_
  refine then_ok ?_
  refine wp_seq ?_
  refine wp_region_lit ?_
  refine lV (Value.slice (some ⟨p9, 0, none⟩) (min f.length 16) (min f.length 16)) he11 rfl rfl (wanted_plain rfl _) (rn_mv rfl (he11.op rfl) w9) ?_
  intro a12 he12
  clear he11 a11
  refine lV (Value.pointer (some ⟨p, 0, none⟩)) he12 rfl rfl (wanted_plain rfl _) (rn_mv rfl (he12.op rfl) w9) ?_
  intro a13 he13
  clear he12 a12
  refine lV (Value.pointer (some ⟨p, 0, none⟩)) he13 rfl rfl (wanted_plain rfl _) (rn_nilck rfl (he13.op rfl) w9) ?_
  intro a14 he14
  clear he13 a13
  refine lV (Value.pointer (some ⟨p, 0, none⟩)) he14 rfl rfl (wanted_plain rfl _) (rn_faN0 rfl (he14.op rfl) rfl w9) ?_
  intro a15 he15
  clear he14 a14
  refine lV (Value.slice (some ⟨p, 0, none⟩) 16 16) he15 rfl rfl (wanted_plain rfl _) (rn_slN rfl (he15.op rfl) w9) ?_
  intro a16 he16
  clear he15 a15
  refine lEx he16 rfl rfl (wanted_plain rfl _) (rx_copyN (hH9.at (i := 0) rfl) (hB.fr hH9.new (fun h => h)) rfl rfl (he16.op rfl) (he16.op rfl)) ?_
  rintro v17 w17 ⟨hB_, hf⟩
  have hH17 : Hp w [⟨p9, 3, (ivs (f.take 16)).toArray⟩] w17 := hH9.turn 0 rfl hf hB_ rfl
  intro a18 he18
  clear he16 a16 hH9 hf hB_
  refine wpList_nil ?_
  refine then_ok ?_
  refine wp_seq ?_
  refine wp_region_lit ?_
  refine lV (Value.slice (some ⟨p9, 0, none⟩) (min f.length 16) (min f.length 16)) he18 rfl rfl (wanted_plain rfl _) (rn_mv rfl (he18.op rfl) w17) ?_
  intro a19 he19
  clear he18 a18
  refine lV (Value.slice (some ⟨p9, 0, none⟩) (min f.length 16) (min f.length 16)) he19 rfl rfl (wanted_plain rfl _) (rn_asg rfl (he19.op rfl) w17) ?_
  intro a20 he20
  clear he19 a19
  refine wpList_nil ?_
  refine then_ok ?_
  refine wp_ret ?_
  try simp only [Exit.then, Exit.inBlock, Exit.noGoto]
  exact ret_env rfl he20 rfl ⟨p9, by rw [List.length_take, Nat.min_comm], hH17.lo (i := 0) rfl, hH17.at (i := 0) rfl, hH17.new⟩
set_option linter.unusedSimpArgs false in
set_option maxRecDepth 100000 in
set_option maxHeartbeats 1600000 in
theorem ListNil_c  (w : World) : Calls Tryd.prog 23 #[.pointer none] w fun e w' => e = .returned (.slice none 0 0) ∧ New w w' := by
  refine calls_args (vl := [Value.pointer none]) 19 Tryd.func23 rfl Tryd.ntmps23 (by kernel_rfl) (fun a he => ?_)
  have he0 : Env 19 [(0, Value.pointer none)] a := he
  clear he
  have hH := Hp.start w
  refine wp_seq ?_
  refine wp_region_lit ?_
  refine lV (Value.slice none 0 0) he0 rfl rfl (wanted_plain rfl _) (rn_asg rfl (he0.op rfl) w) ?_
  intro a1 he1
  clear he0 a
  refine wpList_nil ?_
  refine then_ok ?_
  refine wp_seq ?_
  refine wp_seq ?_
  refine wp_region_lit ?_
  refine lV (Value.pointer none) he1 rfl rfl (wanted_plain rfl _) (rn_mv rfl (he1.op rfl) w) ?_
  intro a2 he2
  clear he1 a1
  refine lV (Value.bool true) he2 rfl rfl (wanted_plain rfl _) (rn_eqP0 rfl (he2.op rfl) (he2.op rfl) w) ?_
  intro a3 he3
  clear he2 a2
  refine wpList_nil ?_
  refine then_ok ?_
  refine wp_cond_true (he3.op rfl) ?_
  refine wp_seq ?_
  refine wp_region_lit ?_
  refine lV (Value.slice none 0 0) he3 rfl rfl (wanted_plain rfl _) (rn_asg rfl (he3.op rfl) w) ?_
  intro a4 he4
  clear he3 a3
  refine wpList_nil ?_
  refine then_ok ?_
  refine wp_ret ?_
  try simp only [Exit.then, Exit.inBlock, Exit.noGoto]
  exact ret_env rfl he4 rfl ⟨by rfl, hH.new⟩
set_option linter.unusedSimpArgs false in
set_option maxRecDepth 100000 in
set_option maxHeartbeats 1600000 in
theorem Reset_c (p : Nat) (f : List Int) (w : World) (hB : Blk w p 39 (cbF f)) : Calls Tryd.prog 21 #[.pointer (some ⟨p, 0, none⟩)] w fun e w' => e = .returned (.tuple #[]) ∧ Fr (fun k => k = p) w w' ∧ Blk w' p 39 (cbF (say [])) := by
  refine calls_args (vl := [Value.pointer (some ⟨p, 0, none⟩)]) 7 Tryd.func21 rfl Tryd.ntmps21 (by kernel_rfl) (fun a he => ?_)
  have he0 : Env 7 [(0, Value.pointer (some ⟨p, 0, none⟩))] a := he
  clear he
  have hH := Hp.bare1 hB
  have hF := Fr.refl (fun k => k = p) w
  refine wp_seq ?_
  refine wp_region_lit ?_
  refine lV (Value.pointer (some ⟨p, 0, none⟩)) he0 rfl rfl (wanted_plain rfl _) (rn_mv rfl (he0.op rfl) w) ?_
  intro a1 he1
  clear he0 a
  refine lV (Value.bool true) he1 rfl rfl (wanted_plain rfl _) (rn_neP1 rfl (he1.op rfl) (he1.op rfl) w) ?_
  intro a2 he2
  clear he1 a1
  refine wpList_nil ?_
  refine then_ok ?_
  refine wp_cond_true (he2.op rfl) ?_
  refine wp_region_lit ?_
  refine lV (Value.pointer (some ⟨p, 0, none⟩)) he2 rfl rfl (wanted_plain rfl _) (rn_mv rfl (he2.op rfl) w) ?_
  intro a3 he3
  clear he2 a2
  refine lV (Value.agg (cbF (say []))) he3 rfl rfl (wanted_plain rfl _) (rn_bN rfl w) ?_
  intro a4 he4
  clear he3 a3
  refine lV (Value.pointer (some ⟨p, 0, none⟩)) he4 rfl rfl (wanted_plain rfl _) (rn_nilck rfl (he4.op rfl) w) ?_
  intro a5 he5
  clear he4 a4
  refine lSetN 0 he5 hH rfl (wanted_plain rfl _) rfl rfl rfl rfl rfl ?_
  intro w6 a7 hH6 hf he7
  replace hF := hF.st hf
  replace hH6 : Hp (bare w) [⟨p, 39, (cbF (say []))⟩] w6 := hH6
  clear hf
  clear he5 a5 hH
  refine wpList_nil ?_
  exact end_none rfl he7 ⟨rfl, hF, hH6.at (i := 0) rfl⟩
set_option linter.unusedSimpArgs false in
set_option maxRecDepth 100000 in
set_option maxHeartbeats 1600000 in
theorem ResetNil_c  (w : World) : Calls Tryd.prog 21 #[.pointer none] w fun e w' => e = .returned (.tuple #[]) ∧ New w w' := by
  refine calls_args (vl := [Value.pointer none]) 7 Tryd.func21 rfl Tryd.ntmps21 (by kernel_rfl) (fun a he => ?_)
  have he0 : Env 7 [(0, Value.pointer none)] a := he
  clear he
  have hH := Hp.start w
  refine wp_seq ?_
  refine wp_region_lit ?_
  refine lV (Value.pointer none) he0 rfl rfl (wanted_plain rfl _) (rn_mv rfl (he0.op rfl) w) ?_
  intro a1 he1
  clear he0 a
  refine lV (Value.bool false) he1 rfl rfl (wanted_plain rfl _) (rn_neP0 rfl (he1.op rfl) (he1.op rfl) w) ?_
  intro a2 he2
  clear he1 a1
  refine wpList_nil ?_
  refine then_ok ?_
  refine wp_cond_false (he2.op rfl) ?_
  refine wp_skip ?_
  exact end_none rfl he2 ⟨by rfl, hH.new⟩
set_option linter.unusedSimpArgs false in
set_option maxRecDepth 100000 in
set_option maxHeartbeats 1600000 in
theorem Copy_c (p : Nat) (f : List Int) (w : World) (hB : Blk w p 39 (cbF f)) : Calls Tryd.prog 19 #[.pointer (some ⟨p, 0, none⟩)] w fun e w' => ∃ q, e = .returned (.pointer (some ⟨q, 0, none⟩)) ∧ w.heap.size ≤ q ∧ Blk w' q 39 (cbF f) ∧ New w w' := by
  refine calls_args (vl := [Value.pointer (some ⟨p, 0, none⟩)]) 9 Tryd.func19 rfl Tryd.ntmps19 (by kernel_rfl) (fun a he => ?_)
  have he0 : Env 9 [(0, Value.pointer (some ⟨p, 0, none⟩))] a := he
  clear he
  have hH := Hp.start w
  refine wp_seq ?_
  refine wp_region_lit ?_
  refine lV (Value.pointer none) he0 rfl rfl (wanted_plain rfl _) (rn_asg rfl (he0.op rfl) w) ?_
  intro a1 he1
  clear he0 a
  refine wpList_nil ?_
  refine then_ok ?_
  refine wp_seq ?_
  refine wp_seq ?_
  refine wp_region_lit ?_
  refine lV (Value.pointer (some ⟨p, 0, none⟩)) he1 rfl rfl (wanted_plain rfl _) (rn_mv rfl (he1.op rfl) w) ?_
  intro a2 he2
  clear he1 a1
  refine lV (Value.bool false) he2 rfl rfl (wanted_plain rfl _) (rn_eqP1 rfl (he2.op rfl) (he2.op rfl) w) ?_
  intro a3 he3
  clear he2 a2
  refine wpList_nil ?_
  refine then_ok ?_
  refine wp_cond_false (he3.op rfl) ?_
  refine wp_skip ?_
  refine then_ok ?_
  refine wp_seq ?_
  refine wp_region_lit ?_
  refine lV (Value.pointer (some ⟨p, 0, none⟩)) he3 rfl rfl (wanted_plain rfl _) (rn_mv rfl (he3.op rfl) w) ?_
  intro a4 he4
  clear he3 a3
  refine lV (Value.pointer (some ⟨p, 0, none⟩)) he4 rfl rfl (wanted_plain rfl _) (rn_nilck rfl (he4.op rfl) w) ?_
  intro a5 he5
  clear he4 a4
  refine lV (Value.agg (cbF f)) he5 rfl rfl (wanted_plain rfl _) (rn_ldN rfl (he5.op rfl) (hB.fr hH.new (fun h => h))) ?_
  intro a6 he6
  clear he5 a5
  refine lNewP (fun p => .pointer (some ⟨p, 0, none⟩)) he6 hH rfl rfl (wanted_plain rfl _) (rn_allocN rfl w) ?_
  intro p7 w7 a8 hp hn hH7 he8
  clear he6 a6 hH hn hp
  refine lSetN 0 he8 hH7 rfl (wanted_plain rfl _) rfl rfl rfl rfl rfl ?_
  intro w9 a10 hH9 hf he10
  replace hH9 : Hp w [⟨p7, 39, (cbF f)⟩] w9 := hH9
  clear hf
  clear he8 a8 hH7
  refine wpList_nil ?_
  refine then_ok ?_
  refine wp_seq ?_
  refine wp_region_lit ?_
  refine lV (Value.pointer (some ⟨p7, 0, none⟩)) he10 rfl rfl (wanted_plain rfl _) (rn_asg rfl (he10.op rfl) w9) ?_
  intro a11 he11
  clear he10 a10
  refine wpList_nil ?_
  refine then_ok ?_
  refine wp_ret ?_
  try simp only [Exit.then, Exit.inBlock, Exit.noGoto]
  exact ret_env rfl he11 rfl ⟨p7, rfl, hH9.lo (i := 0) rfl, hH9.at (i := 0) rfl, hH9.new⟩
set_option linter.unusedSimpArgs false in
set_option maxRecDepth 100000 in
set_option maxHeartbeats 1600000 in
theorem CopyNil_c  (w : World) : Calls Tryd.prog 19 #[.pointer none] w fun e w' => e = .returned (.pointer none) ∧ New w w' := by
  refine calls_args (vl := [Value.pointer none]) 9 Tryd.func19 rfl Tryd.ntmps19 (by kernel_rfl) (fun a he => ?_)
  have he0 : Env 9 [(0, Value.pointer none)] a := he
  clear he
  have hH := Hp.start w
  refine wp_seq ?_
  refine wp_region_lit ?_
  refine lV (Value.pointer none) he0 rfl rfl (wanted_plain rfl _) (rn_asg rfl (he0.op rfl) w) ?_
  intro a1 he1
  clear he0 a
  refine wpList_nil ?_
  refine then_ok ?_
  refine wp_seq ?_
  refine wp_seq ?_
  refine wp_region_lit ?_
  refine lV (Value.pointer none) he1 rfl rfl (wanted_plain rfl _) (rn_mv rfl (he1.op rfl) w) ?_
  intro a2 he2
  clear he1 a1
  refine lV (Value.bool true) he2 rfl rfl (wanted_plain rfl _) (rn_eqP0 rfl (he2.op rfl) (he2.op rfl) w) ?_
  intro a3 he3
  clear he2 a2
  refine wpList_nil ?_
  refine then_ok ?_
  refine wp_cond_true (he3.op rfl) ?_
  refine wp_seq ?_
  refine wp_region_lit ?_
  refine lV (Value.pointer none) he3 rfl rfl (wanted_plain rfl _) (rn_asg rfl (he3.op rfl) w) ?_
  intro a4 he4
  clear he3 a3
  refine wpList_nil ?_
  refine then_ok ?_
  refine wp_ret ?_
  try simp only [Exit.then, Exit.inBlock, Exit.noGoto]
  exact ret_env rfl he4 rfl ⟨by rfl, hH.new⟩
/-- A byte behind those that a builder has. -/
theorem Add_c (p : Nat) (s : List UInt8) (c : UInt8) (hc : fine c) (hs : ∀ c ∈ s, fine c) (w : World) (hB : Blk w p 39 (cb s)) : Calls Tryd.prog 20 #[.pointer (some ⟨p, 0, none⟩), .int .i32 (c.toNat : Int)] w fun e w' => e = .returned (.bool true) ∧ Fr (fun k => k = p) w w' ∧ Blk w' p 39 (cbF (say (s ++ [c]))) := by
  rw [say_snoc]
  exact AddF_c p (say s) c hc (okF_say hs) w hB
theorem Add_k (p : Nat) (s : List UInt8) (c : UInt8) (r : Int) (e : r = (c.toNat : Int)) (hc : fine c) (hs : ∀ c ∈ s, fine c) (w : World) (hB : Blk w p 39 (cb s)) : Calls Tryd.prog 20 #[.pointer (some ⟨p, 0, none⟩), .int .i32 r] w fun e w' => e = .returned (.bool true) ∧ Fr (fun k => k = p) w w' ∧ Blk w' p 39 (cbF (say (s ++ [c]))) := by
  subst e
  exact Add_c p s c hc hs w hB
theorem fine_snoc {s : List UInt8} {c : UInt8} (h : ∀ c ∈ s, fine c) (hc : fine c) : ∀ x ∈ s ++ [c], fine x := by
  intro x hx
  rcases List.mem_append.1 hx with hx | hx
  · exact h x hx
  · simp only [List.mem_singleton] at hx; subst hx; exact hc
end Go.Proofs.YtpebpjkhkgakfaaDoor
