/-
  Package place, and its specification: order, nearest places, steps, distances.
-/
import Derived.Test.YtijaemfalljdoaaDoorPSmall
import Derived.Test.YtijaemfalljdoaaDoorPLib
namespace Go.Proofs.YtijaemfalljdoaaDoor
open Go.RowKit

set_option linter.unusedSimpArgs false in
set_option maxRecDepth 100000 in
set_option maxHeartbeats 1600000 in
theorem Or_c (p : Nat) (a b : Int) (w : World) (hB : Blk w p 3 #[.int .i64 a, .int .i64 b]) : Calls Tryd.prog 29 #[.slice (some ⟨p, 0, none⟩) 2 2] w fun e w' => e = .returned (.int .i64 (if a = 0 then b else a)) ∧ New w w' := by
  refine calls_args (vl := [Value.slice (some ⟨p, 0, none⟩) 2 2]) 18 Tryd.func29 rfl Tryd.ntmps29 (by kernel_rfl) (fun a he => ?_)
  have he0 : Env 18 [(0, Value.slice (some ⟨p, 0, none⟩) 2 2)] a := he
  clear he
  have hH := Hp.bare1 hB
  refine wp_seq ?_
  refine wp_region_lit ?_
  refine lV (Value.int .i64 0) he0 rfl rfl (wanted_plain rfl _) (rn_asg rfl (he0.op rfl) w) ?_
  intro a1 he1
  clear he0 a
  refine wpList_nil ?_
  refine then_ok ?_
  refine wp_seq ?_
  refine wp_region_lit ?_
  refine lV (Value.int .i64 0) he1 rfl rfl (wanted_plain rfl _) (rn_asg rfl (he1.op rfl) w) ?_
  intro a2 he2
  clear he1 a1
  refine wpList_nil ?_
  refine then_ok ?_
  refine wp_seq ?_
  refine wp_seq ?_
  refine wp_region_lit ?_
  refine lV (Value.slice (some ⟨p, 0, none⟩) 2 2) he2 rfl rfl (wanted_plain rfl _) (rn_mv rfl (he2.op rfl) w) ?_
  intro a3 he3
  clear he2 a2
  refine lV (Value.int .i64 2) he3 rfl rfl (wanted_plain rfl _) (rn_lenJ rfl (he3.op rfl) w) ?_
  intro a4 he4
  clear he3 a3
  refine lV (Value.int .i64 0) he4 rfl rfl (wanted_plain rfl _) (rn_mv rfl (he4.op rfl) w) ?_
  intro a5 he5
  clear he4 a4
  refine wpList_nil ?_
  refine then_ok ?_
  refine wp_block ?_
  refine wp_loop_rounds 4 ?_
  refine round_one ?_
  refine wp_seq ?_
  refine wp_region_lit ?_
  refine lV (Value.bool true) he5 rfl rfl (wanted_plain rfl _) (rn_lsI rfl (he5.op rfl) (he5.op rfl) (by decide) w) ?_
  intro a6 he6
  clear he5 a5
  refine wpList_nil ?_
  refine then_ok ?_
  refine wp_seq ?_
  refine wp_cond_true (he6.op rfl) ?_
  refine wp_skip ?_
  refine then_ok ?_
  refine wp_seq ?_
  refine wp_block ?_
  refine wp_seq ?_
  refine wp_region_lit ?_
  refine lV (Value.pointer (some ⟨p, 0, none⟩)) he6 rfl rfl (wanted_plain rfl _) (rn_idxJ (i := 0) rfl (he6.op rfl) (he6.op rfl) (by decide) (by rfl) w) ?_
  intro a7 he7
  clear he6 a6
  refine lV (Value.int .i64 a) he7 rfl rfl (wanted_plain rfl _) (rn_ld1 rfl (he7.op rfl) Tryd.underlying3 (hH.at (i := 0) rfl) rfl) ?_
  intro a8 he8
  clear he7 a7
  refine lV (Value.int .i64 a) he8 rfl rfl (wanted_plain rfl _) (rn_asg rfl (he8.op rfl) w) ?_
  intro a9 he9
  clear he8 a8
  refine wpList_nil ?_
  refine then_ok ?_
  refine wp_seq ?_
  refine wp_region_lit ?_
  refine lV (Value.int .i64 a) he9 rfl rfl (wanted_plain rfl _) (rn_mv rfl (he9.op rfl) w) ?_
  intro a10 he10
  clear he9 a9
  refine lV (Value.int .i64 0) he10 rfl rfl (wanted_plain rfl _) (rn_mv rfl (he10.op rfl) w) ?_
  intro a11 he11
  clear he10 a10
  by_cases hb0 : a = 0
  · skip
    refine lV (Value.bool false) he11 rfl rfl (wanted_plain rfl _) (rn_neI rfl (he11.op rfl) (he11.op rfl) (bneT hb0) w) ?_
    intro a12 he12
    clear he11 a11
    refine wpList_nil ?_
    refine then_ok ?_
    refine wp_cond_false (he12.op rfl) ?_
    refine wp_skip ?_
    refine block_ok ?_
    refine then_ok ?_
    refine wp_region_lit ?_
    refine lV (Value.int .i64 1) he12 rfl rfl (wanted_plain rfl _) (rn_addI rfl (he12.op rfl) (he12.op rfl) (by rfl) w) ?_
    intro a13 he13
    clear he12 a12
    refine lV (Value.int .i64 1) he13 rfl rfl (wanted_plain rfl _) (rn_mv rfl (he13.op rfl) w) ?_
    intro a14 he14
    clear he13 a13
    refine wpList_nil ?_
    refine then_ok ?_
    refine round_one ?_
    refine wp_seq ?_
    refine wp_region_lit ?_
    refine lV (Value.bool true) he14 rfl rfl (wanted_plain rfl _) (rn_lsI rfl (he14.op rfl) (he14.op rfl) (by decide) w) ?_
    intro a15 he15
    clear he14 a14
    refine wpList_nil ?_
    refine then_ok ?_
    refine wp_seq ?_
    refine wp_cond_true (he15.op rfl) ?_
    refine wp_skip ?_
    refine then_ok ?_
    refine wp_seq ?_
    refine wp_block ?_
    refine wp_seq ?_
    refine wp_region_lit ?_
    refine lV (Value.pointer (some ⟨p, 1, none⟩)) he15 rfl rfl (wanted_plain rfl _) (rn_idxJ (i := 1) rfl (he15.op rfl) (he15.op rfl) (by decide) (by rfl) w) ?_
    intro a16 he16
    clear he15 a15
    refine lV (Value.int .i64 b) he16 rfl rfl (wanted_plain rfl _) (rn_ld1 rfl (he16.op rfl) Tryd.underlying3 (hH.at (i := 0) rfl) rfl) ?_
    intro a17 he17
    clear he16 a16
    refine lV (Value.int .i64 b) he17 rfl rfl (wanted_plain rfl _) (rn_asg rfl (he17.op rfl) w) ?_
    intro a18 he18
    clear he17 a17
    refine wpList_nil ?_
    refine then_ok ?_
    refine wp_seq ?_
    refine wp_region_lit ?_
    refine lV (Value.int .i64 b) he18 rfl rfl (wanted_plain rfl _) (rn_mv rfl (he18.op rfl) w) ?_
    intro a19 he19
    clear he18 a18
    refine lV (Value.int .i64 0) he19 rfl rfl (wanted_plain rfl _) (rn_mv rfl (he19.op rfl) w) ?_
    intro a20 he20
    clear he19 a19
    by_cases hb1 : b = 0
    · skip
      refine lV (Value.bool false) he20 rfl rfl (wanted_plain rfl _) (rn_neI rfl (he20.op rfl) (he20.op rfl) (bneT hb1) w) ?_
      intro a21 he21
      clear he20 a20
      refine wpList_nil ?_
      refine then_ok ?_
      refine wp_cond_false (he21.op rfl) ?_
      refine wp_skip ?_
      refine block_ok ?_
      refine then_ok ?_
      refine wp_region_lit ?_
      refine lV (Value.int .i64 2) he21 rfl rfl (wanted_plain rfl _) (rn_addI rfl (he21.op rfl) (he21.op rfl) (by rfl) w) ?_
      intro a22 he22
      clear he21 a21
      refine lV (Value.int .i64 2) he22 rfl rfl (wanted_plain rfl _) (rn_mv rfl (he22.op rfl) w) ?_
      intro a23 he23
      clear he22 a22
      refine wpList_nil ?_
      refine then_ok ?_
      refine round_one ?_
      refine wp_seq ?_
      refine wp_region_lit ?_
      refine lV (Value.bool false) he23 rfl rfl (wanted_plain rfl _) (rn_lsI rfl (he23.op rfl) (he23.op rfl) (by decide) w) ?_
      intro a24 he24
      clear he23 a23
      refine wpList_nil ?_
      refine then_ok ?_
      refine wp_seq ?_
      refine wp_cond_false (he24.op rfl) ?_
      refine wp_exit ?_
      refine then_exit ?_
      refine then_exit ?_
      refine block_exit ?_
      refine then_ok ?_
      refine wp_seq ?_
      refine wp_region_lit ?_
      refine lV (Value.int .i64 0) he24 rfl rfl (wanted_plain rfl _) (rn_mv rfl (he24.op rfl) w) ?_
      intro a25 he25
      clear he24 a24
      refine lV (Value.int .i64 0) he25 rfl rfl (wanted_plain rfl _) (rn_asg rfl (he25.op rfl) w) ?_
      intro a26 he26
      clear he25 a25
      refine wpList_nil ?_
      refine then_ok ?_
      refine wp_ret ?_
      try simp only [Exit.then, Exit.inBlock, Exit.noGoto]
      exact ret_env rfl he26 rfl ⟨by (first | rfl | (refine congrArg (fun x => Ending.returned (.int .i64 x)) ?_; (first | rw [if_pos (by omega)] | rw [if_neg (by omega)]) <;> first | rfl | omega)), Fr.refl _ _⟩
    · skip
      refine lV (Value.bool true) he20 rfl rfl (wanted_plain rfl _) (rn_neI rfl (he20.op rfl) (he20.op rfl) (bneF hb1) w) ?_
      intro a21 he21
      clear he20 a20
      refine wpList_nil ?_
      refine then_ok ?_
      refine wp_cond_true (he21.op rfl) ?_
      refine wp_seq ?_
      refine wp_region_lit ?_
      refine lV (Value.int .i64 b) he21 rfl rfl (wanted_plain rfl _) (rn_mv rfl (he21.op rfl) w) ?_
      intro a22 he22
      clear he21 a21
      refine lV (Value.int .i64 b) he22 rfl rfl (wanted_plain rfl _) (rn_asg rfl (he22.op rfl) w) ?_
      intro a23 he23
      clear he22 a22
      refine wpList_nil ?_
      refine then_ok ?_
      refine wp_ret ?_
      try simp only [Exit.then, Exit.inBlock, Exit.noGoto]
      exact ret_env rfl he23 rfl ⟨by (first | rfl | (refine congrArg (fun x => Ending.returned (.int .i64 x)) ?_; (first | rw [if_pos (by omega)] | rw [if_neg (by omega)]) <;> first | rfl | omega)), Fr.refl _ _⟩
  · skip
    refine lV (Value.bool true) he11 rfl rfl (wanted_plain rfl _) (rn_neI rfl (he11.op rfl) (he11.op rfl) (bneF hb0) w) ?_
    intro a12 he12
    clear he11 a11
    refine wpList_nil ?_
    refine then_ok ?_
    refine wp_cond_true (he12.op rfl) ?_
    refine wp_seq ?_
    refine wp_region_lit ?_
    refine lV (Value.int .i64 a) he12 rfl rfl (wanted_plain rfl _) (rn_mv rfl (he12.op rfl) w) ?_
    intro a13 he13
    clear he12 a12
    refine lV (Value.int .i64 a) he13 rfl rfl (wanted_plain rfl _) (rn_asg rfl (he13.op rfl) w) ?_
    intro a14 he14
    clear he13 a13
    refine wpList_nil ?_
    refine then_ok ?_
    refine wp_ret ?_
    try simp only [Exit.then, Exit.inBlock, Exit.noGoto]
    exact ret_env rfl he14 rfl ⟨by (first | rfl | (refine congrArg (fun x => Ending.returned (.int .i64 x)) ?_; (first | rw [if_pos (by omega)] | rw [if_neg (by omega)]) <;> first | rfl | omega)), Fr.refl _ _⟩
theorem cmp_or (p q : Pl) : (if Lib.compareInt p.l q.l = 0 then Lib.compareInt p.c q.c else Lib.compareInt p.l q.l) = cmpP p q := by
  unfold cmpP Lib.compareInt befP
  repeat' split
  all_goals omega
set_option linter.unusedSimpArgs false in
set_option maxRecDepth 100000 in
set_option maxHeartbeats 1600000 in
theorem Compare_c (p q : Pl) (w : World) : Calls Tryd.prog 11 #[.agg #[.int .i64 p.l, .int .i64 p.c], .agg #[.int .i64 q.l, .int .i64 q.c]] w fun e w' => e = .returned (.int .i64 (cmpP p q)) ∧ New w w' := by
  refine calls_args (vl := [Value.agg #[Value.int .i64 p.l, Value.int .i64 p.c], Value.agg #[Value.int .i64 q.l, Value.int .i64 q.c]]) 17 Tryd.func11 rfl Tryd.ntmps11 (by kernel_rfl) (fun a he => ?_)
  have he0 : Env 17 [(0, Value.agg #[Value.int .i64 p.l, Value.int .i64 p.c]), (1, Value.agg #[Value.int .i64 q.l, Value.int .i64 q.c])] a := he
  clear he
  have hH := Hp.start w
  refine wp_seq ?_
  refine wp_region_lit ?_
  refine lNewP (fun p => .pointer (some ⟨p, 0, none⟩)) he0 hH rfl rfl (wanted_plain rfl _) (rn_boxZ rfl (he0.op rfl) w) ?_
  intro p1 w1 a2 hp hn hH1 he2
  clear he0 a hH hn hp
  refine lNewP (fun p => .pointer (some ⟨p, 0, none⟩)) he2 hH1 rfl rfl (wanted_plain rfl _) (rn_boxZ rfl (he2.op rfl) w1) ?_
  intro p3 w3 a4 hp hn hH3 he4
  clear he2 a2 hH1 hn hp
  refine lV (Value.int .i64 0) he4 rfl rfl (wanted_plain rfl _) (rn_asg rfl (he4.op rfl) w3) ?_
  intro a5 he5
  clear he4 a4
  refine wpList_nil ?_
  refine then_ok ?_
  refine wp_seq ?_
  refine wp_region_held_drew (S := Hp w [⟨p3, 23, #[Value.int .i64 q.l, Value.int .i64 q.c]⟩, ⟨p1, 23, #[Value.int .i64 p.l, Value.int .i64 p.c]⟩]) (by kernel_rfl) (hH3.drew) (fun _ => ?_)
  have hn : New w3 (World.drew w3) := (Fr.refl _ _).drew
  clear hn
  have hH6 := hH3.drew
  clear hH3
  generalize World.drew w3 = w6 at *
  refine hV (fuel := 12) (i := 0) (Value.pointer (some ⟨p1, 0, none⟩)) he5 rfl rfl rfl (by kernel_rfl) (by kernel_rfl) (by kernel_rfl) (fun _ _ _ h => h) (wanted_plain rfl _) (fun w' _ => rn_faZ0 rfl (he5.op rfl) rfl w') hH6 ?_
  intro a7 he7
  clear he5 a5
  refine hV (fuel := 11) (i := 1) (Value.int .i64 p.l) he7 rfl rfl rfl (by kernel_rfl) (by kernel_rfl) (by kernel_rfl) (fun _ _ _ h => h) (wanted_plain rfl _) (fun w' hw' => rn_ld1 rfl (he7.op rfl) Tryd.underlying3 (hw'.at (i := 1) rfl) rfl) hH6 ?_
  intro a8 he8
  clear he7 a7
  refine hV (fuel := 10) (i := 2) (Value.pointer (some ⟨p3, 0, none⟩)) he8 rfl rfl rfl (by kernel_rfl) (by kernel_rfl) (by kernel_rfl) (fun _ _ _ h => h) (wanted_plain rfl _) (fun w' _ => rn_faZ0 rfl (he8.op rfl) rfl w') hH6 ?_
  intro a9 he9
  clear he8 a8
  refine hV (fuel := 9) (i := 3) (Value.int .i64 q.l) he9 rfl rfl rfl (by kernel_rfl) (by kernel_rfl) (by kernel_rfl) (fun _ _ _ h => h) (wanted_plain rfl _) (fun w' hw' => rn_ld1 rfl (he9.op rfl) Tryd.underlying3 (hw'.at (i := 0) rfl) rfl) hH6 ?_
  intro a10 he10
  clear he9 a9
  refine hV (fuel := 8) (i := 5) (Value.pointer (some ⟨p1, 1, none⟩)) he10 rfl rfl rfl (by kernel_rfl) (by kernel_rfl) (by kernel_rfl) (fun _ _ _ h => h) (wanted_plain rfl _) (fun w' _ => rn_faZ1 rfl (he10.op rfl) rfl w') hH6 ?_
  intro a11 he11
  clear he10 a10
  refine hV (fuel := 7) (i := 6) (Value.int .i64 p.c) he11 rfl rfl rfl (by kernel_rfl) (by kernel_rfl) (by kernel_rfl) (fun _ _ _ h => h) (wanted_plain rfl _) (fun w' hw' => rn_ld1 rfl (he11.op rfl) Tryd.underlying3 (hw'.at (i := 1) rfl) rfl) hH6 ?_
  intro a12 he12
  clear he11 a11
  refine hV (fuel := 6) (i := 7) (Value.pointer (some ⟨p3, 1, none⟩)) he12 rfl rfl rfl (by kernel_rfl) (by kernel_rfl) (by kernel_rfl) (fun _ _ _ h => h) (wanted_plain rfl _) (fun w' _ => rn_faZ1 rfl (he12.op rfl) rfl w') hH6 ?_
  intro a13 he13
  clear he12 a12
  refine hV (fuel := 5) (i := 8) (Value.int .i64 q.c) he13 rfl rfl rfl (by kernel_rfl) (by kernel_rfl) (by kernel_rfl) (fun _ _ _ h => h) (wanted_plain rfl _) (fun w' hw' => rn_ld1 rfl (he13.op rfl) Tryd.underlying3 (hw'.at (i := 0) rfl) rfl) hH6 ?_
  intro a14 he14
  clear he13 a13
  refine hC (fuel := 4) (i := 4) he14 (by kernel_rfl) rfl rfl rfl Tryd.func30 (by kernel_rfl) rfl rfl (wanted_plain rfl _) rfl (cmpI_c p.l q.l w6) ?_
  rintro _ w15 ⟨rfl, hn⟩
  have hH15 := hH6.call hn
  refine ⟨_, rfl, hH15, ?_⟩
  intro a16 he16
  clear he14 a14 hH6 hn
  refine hC (fuel := 3) (i := 9) he16 (by kernel_rfl) rfl rfl rfl Tryd.func30 (by kernel_rfl) rfl rfl (wanted_plain rfl _) rfl (cmpI_c p.c q.c w15) ?_
  rintro _ w17 ⟨rfl, hn⟩
  have hH17 := hH15.call hn
  refine ⟨_, rfl, hH17, ?_⟩
  intro a18 he18
  clear he16 a16 hH15 hn
  refine hNewP (fuel := 2) (i := 10) (fun p => .slice (some ⟨p, 0, none⟩) 2 2) he18 hH17 (by kernel_rfl) rfl rfl rfl (wanted_plain rfl _) (rn_bsJ2 rfl (he18.op rfl) (he18.op rfl) w17) ?_
  intro p19 w19 a20 hp hn hH19 he20
  refine ⟨(hH19.drop1 0 rfl), ?_⟩
  clear he18 a18 hH17 hn hp
  refine hC (fuel := 1) (i := 11) he20 (by kernel_rfl) rfl rfl rfl Tryd.func29 (by kernel_rfl) rfl rfl (wanted_plain rfl _) rfl (Or_c p19 (Lib.compareInt p.l q.l) (Lib.compareInt p.c q.c) w19 (hH19.at (i := 0) rfl)) ?_
  rintro _ w21 ⟨rfl, hn⟩
  have hH21 := hH19.call hn
  refine ⟨_, rfl, (hH21.drop1 0 rfl), ?_⟩
  intro a22 he22
  clear he20 a20 hH19 hn
  refine hV (fuel := 0) (i := 12) (Value.int .i64 (if (Lib.compareInt p.l q.l) = 0 then (Lib.compareInt p.c q.c) else (Lib.compareInt p.l q.l))) he22 rfl rfl rfl (by kernel_rfl) (by kernel_rfl) (by kernel_rfl) (fun _ _ _ h => h) (wanted_plain rfl _) (fun w' _ => rn_asg rfl (he22.op rfl) w') (hH21.drop1 0 rfl) ?_
  intro a23 he23
  clear he22 a22
  refine wpAnyH_done (by kernel_rfl) ?_ _
  refine then_ok ?_
  refine wp_ret ?_
  try simp only [Exit.then, Exit.inBlock, Exit.noGoto]
  exact ret_env rfl he23 rfl ⟨by rw [cmp_or], hH21.new⟩
def ordP (p q : Pl) : Pl × Pl := if cmpP q p < 0 then (q, p) else (p, q)
abbrev witP (p f t : Pl) : Prop := 0 ≤ cmpP p f ∧ cmpP p t < 0
set_option linter.unusedSimpArgs false in
set_option maxRecDepth 100000 in
set_option maxHeartbeats 1600000 in
theorem Order_c (p q x y : Pl) (h : ordP p q = (x, y)) (w : World) : Calls Tryd.prog 12 #[.agg #[.int .i64 p.l, .int .i64 p.c], .agg #[.int .i64 q.l, .int .i64 q.c]] w fun e w' => e = .returned (.tuple #[x.v, y.v]) ∧ New w w' := by
  refine calls_args (vl := [Value.agg #[Value.int .i64 p.l, Value.int .i64 p.c], Value.agg #[Value.int .i64 q.l, Value.int .i64 q.c]]) 14 Tryd.func12 rfl Tryd.ntmps12 (by kernel_rfl) (fun a he => ?_)
  have he0 : Env 14 [(0, Value.agg #[Value.int .i64 p.l, Value.int .i64 p.c]), (1, Value.agg #[Value.int .i64 q.l, Value.int .i64 q.c])] a := he
  clear he
  have hH := Hp.start w
  refine wp_seq ?_
  refine wp_region_lit ?_
  refine lNewP (fun p => .pointer (some ⟨p, 0, none⟩)) he0 hH rfl rfl (wanted_plain rfl _) (rn_boxZ rfl (he0.op rfl) w) ?_
  intro p1 w1 a2 hp hn hH1 he2
  clear he0 a hH hn hp
  refine lNewP (fun p => .pointer (some ⟨p, 0, none⟩)) he2 hH1 rfl rfl (wanted_plain rfl _) (rn_boxZ rfl (he2.op rfl) w1) ?_
  intro p3 w3 a4 hp hn hH3 he4
  clear he2 a2 hH1 hn hp
  refine lNewP (fun p => .pointer (some ⟨p, 0, none⟩)) he4 hH3 rfl rfl (wanted_plain rfl _) (rn_allocZ rfl w3) ?_
  intro p5 w5 a6 hp hn hH5 he6
  clear he4 a4 hH3 hn hp
  refine lNewP (fun p => .pointer (some ⟨p, 0, none⟩)) he6 hH5 rfl rfl (wanted_plain rfl _) (rn_allocZ rfl w5) ?_
  intro p7 w7 a8 hp hn hH7 he8
  clear he6 a6 hH5 hn hp
  refine wpList_nil ?_
  refine then_ok ?_
  refine wp_seq ?_
  refine wp_seq ?_
  refine wp_region_lit ?_
  refine lV (Value.agg #[Value.int .i64 q.l, Value.int .i64 q.c]) he8 rfl rfl (wanted_plain rfl _) (rn_ldp [Value.int .i64 q.l, Value.int .i64 q.c] rfl (he8.op rfl) undZ rfl infoZ2 (hH7.at (i := 2) rfl) rfl) ?_
  intro a9 he9
  clear he8 a8
  refine lV (Value.agg #[Value.int .i64 p.l, Value.int .i64 p.c]) he9 rfl rfl (wanted_plain rfl _) (rn_ldp [Value.int .i64 p.l, Value.int .i64 p.c] rfl (he9.op rfl) undZ rfl infoZ2 (hH7.at (i := 3) rfl) rfl) ?_
  intro a10 he10
  clear he9 a9
  refine lC he10 rfl rfl Tryd.func11 (by kernel_rfl) rfl rfl (wanted_plain rfl _) rfl (Compare_c q p w7) ?_
  intro w11 a12 hn he12
  have hH11 := hH7.call hn
  clear he10 a10 hH7 hn
  by_cases hb0 : (cmpP q p) < 0
  · skip
    refine lV (Value.bool true) he12 rfl rfl (wanted_plain rfl _) (rn_lsI rfl (he12.op rfl) (he12.op rfl) (decide_eq_true hb0) w11) ?_
    intro a13 he13
    clear he12 a12
    refine wpList_nil ?_
    refine then_ok ?_
    refine wp_cond_true (he13.op rfl) ?_
    refine wp_seq ?_
    refine wp_region_held_drew (S := Hp w [⟨p3, 23, #[Value.int .i64 q.l, Value.int .i64 q.c]⟩, ⟨p1, 23, #[Value.int .i64 p.l, Value.int .i64 p.c]⟩]) (by kernel_rfl) (((hH11.drew).drop1 1 rfl).drop1 0 rfl) (fun _ => ?_)
    have hn : New w11 (World.drew w11) := (Fr.refl _ _).drew
    clear hn
    have hH14 := hH11.drew
    clear hH11
    generalize World.drew w11 = w14 at *
    refine hV (fuel := 3) (i := 0) (Value.agg #[Value.int .i64 q.l, Value.int .i64 q.c]) he13 rfl rfl rfl (by kernel_rfl) (by kernel_rfl) (by kernel_rfl) (fun _ _ _ h => h) (wanted_plain rfl _) (fun w' hw' => rn_ldp [Value.int .i64 q.l, Value.int .i64 q.c] rfl (he13.op rfl) undZ rfl infoZ2 (hw'.at (i := 0) rfl) rfl) ((hH14.drop1 1 rfl).drop1 0 rfl) ?_
    intro a15 he15
    clear he13 a13
    refine hV (fuel := 2) (i := 1) (Value.agg #[Value.int .i64 p.l, Value.int .i64 p.c]) he15 rfl rfl rfl (by kernel_rfl) (by kernel_rfl) (by kernel_rfl) (fun _ _ _ h => h) (wanted_plain rfl _) (fun w' hw' => rn_ldp [Value.int .i64 p.l, Value.int .i64 p.c] rfl (he15.op rfl) undZ rfl infoZ2 (hw'.at (i := 1) rfl) rfl) ((hH14.drop1 1 rfl).drop1 0 rfl) ?_
    intro a16 he16
    clear he15 a15
    refine hSetV (fuel := 1) (n := 2) 1 #[Value.int .i64 q.l, Value.int .i64 q.c] (cs := #[Value.int .i64 q.l, Value.int .i64 q.c]) he16 hH14 (by kernel_rfl) rfl rfl (wanted_plain rfl _) rfl rfl rfl rfl rfl (by kernel_rfl) (by kernel_rfl) (by kernel_rfl) rfl ?_
    intro w17 a18 hH17 hf he18
    replace hH17 : Hp w [⟨p7, 23, #[Value.int .i64 0, Value.int .i64 0]⟩, ⟨p5, 23, #[Value.int .i64 q.l, Value.int .i64 q.c]⟩, ⟨p3, 23, #[Value.int .i64 q.l, Value.int .i64 q.c]⟩, ⟨p1, 23, #[Value.int .i64 p.l, Value.int .i64 p.c]⟩] w17 := hH17
    refine ⟨((hH17.drop1 1 rfl).drop1 0 rfl), ?_⟩
    clear hf
    clear he16 a16 hH14
    refine hSetV (fuel := 0) (n := 3) 0 #[Value.int .i64 p.l, Value.int .i64 p.c] (cs := #[Value.int .i64 p.l, Value.int .i64 p.c]) he18 hH17 (by kernel_rfl) rfl rfl (wanted_plain rfl _) rfl rfl rfl rfl rfl (by kernel_rfl) (by kernel_rfl) (by kernel_rfl) rfl ?_
    intro w19 a20 hH19 hf he20
    replace hH19 : Hp w [⟨p7, 23, #[Value.int .i64 p.l, Value.int .i64 p.c]⟩, ⟨p5, 23, #[Value.int .i64 q.l, Value.int .i64 q.c]⟩, ⟨p3, 23, #[Value.int .i64 q.l, Value.int .i64 q.c]⟩, ⟨p1, 23, #[Value.int .i64 p.l, Value.int .i64 p.c]⟩] w19 := hH19
    refine ⟨((hH19.drop1 1 rfl).drop1 0 rfl), ?_⟩
    clear hf
    clear he18 a18 hH17
    refine wpAnyH_done (by kernel_rfl) ?_ _
    refine then_ok ?_
    refine wp_ret ?_
    try simp only [Exit.then, Exit.inBlock, Exit.noGoto]
    exact ret_rr rfl he20 rfl rfl (hH19.at (i := 1) rfl) (hH19.at (i := 0) rfl) undZ rfl infoZ2 infoZ2 ⟨by ((unfold ordP at h; first | rw [if_pos (by omega)] at h | rw [if_neg (by omega)] at h); obtain ⟨rfl, rfl⟩ := Prod.mk.inj h; rfl), hH19.new⟩
  · skip
    refine lV (Value.bool false) he12 rfl rfl (wanted_plain rfl _) (rn_lsI rfl (he12.op rfl) (he12.op rfl) (decide_eq_false hb0) w11) ?_
    intro a13 he13
    clear he12 a12
    refine wpList_nil ?_
    refine then_ok ?_
    refine wp_cond_false (he13.op rfl) ?_
    refine wp_skip ?_
    refine then_ok ?_
    refine wp_seq ?_
    refine wp_region_held_drew (S := Hp w [⟨p3, 23, #[Value.int .i64 q.l, Value.int .i64 q.c]⟩, ⟨p1, 23, #[Value.int .i64 p.l, Value.int .i64 p.c]⟩]) (by kernel_rfl) (((hH11.drew).drop1 1 rfl).drop1 0 rfl) (fun _ => ?_)
    have hn : New w11 (World.drew w11) := (Fr.refl _ _).drew
    clear hn
    have hH14 := hH11.drew
    clear hH11
    generalize World.drew w11 = w14 at *
    refine hV (fuel := 3) (i := 0) (Value.agg #[Value.int .i64 p.l, Value.int .i64 p.c]) he13 rfl rfl rfl (by kernel_rfl) (by kernel_rfl) (by kernel_rfl) (fun _ _ _ h => h) (wanted_plain rfl _) (fun w' hw' => rn_ldp [Value.int .i64 p.l, Value.int .i64 p.c] rfl (he13.op rfl) undZ rfl infoZ2 (hw'.at (i := 1) rfl) rfl) ((hH14.drop1 1 rfl).drop1 0 rfl) ?_
    intro a15 he15
    clear he13 a13
    refine hV (fuel := 2) (i := 1) (Value.agg #[Value.int .i64 q.l, Value.int .i64 q.c]) he15 rfl rfl rfl (by kernel_rfl) (by kernel_rfl) (by kernel_rfl) (fun _ _ _ h => h) (wanted_plain rfl _) (fun w' hw' => rn_ldp [Value.int .i64 q.l, Value.int .i64 q.c] rfl (he15.op rfl) undZ rfl infoZ2 (hw'.at (i := 0) rfl) rfl) ((hH14.drop1 1 rfl).drop1 0 rfl) ?_
    intro a16 he16
    clear he15 a15
    refine hSetV (fuel := 1) (n := 2) 1 #[Value.int .i64 p.l, Value.int .i64 p.c] (cs := #[Value.int .i64 p.l, Value.int .i64 p.c]) he16 hH14 (by kernel_rfl) rfl rfl (wanted_plain rfl _) rfl rfl rfl rfl rfl (by kernel_rfl) (by kernel_rfl) (by kernel_rfl) rfl ?_
    intro w17 a18 hH17 hf he18
    replace hH17 : Hp w [⟨p7, 23, #[Value.int .i64 0, Value.int .i64 0]⟩, ⟨p5, 23, #[Value.int .i64 p.l, Value.int .i64 p.c]⟩, ⟨p3, 23, #[Value.int .i64 q.l, Value.int .i64 q.c]⟩, ⟨p1, 23, #[Value.int .i64 p.l, Value.int .i64 p.c]⟩] w17 := hH17
    refine ⟨((hH17.drop1 1 rfl).drop1 0 rfl), ?_⟩
    clear hf
    clear he16 a16 hH14
    refine hSetV (fuel := 0) (n := 3) 0 #[Value.int .i64 q.l, Value.int .i64 q.c] (cs := #[Value.int .i64 q.l, Value.int .i64 q.c]) he18 hH17 (by kernel_rfl) rfl rfl (wanted_plain rfl _) rfl rfl rfl rfl rfl (by kernel_rfl) (by kernel_rfl) (by kernel_rfl) rfl ?_
    intro w19 a20 hH19 hf he20
    replace hH19 : Hp w [⟨p7, 23, #[Value.int .i64 q.l, Value.int .i64 q.c]⟩, ⟨p5, 23, #[Value.int .i64 p.l, Value.int .i64 p.c]⟩, ⟨p3, 23, #[Value.int .i64 q.l, Value.int .i64 q.c]⟩, ⟨p1, 23, #[Value.int .i64 p.l, Value.int .i64 p.c]⟩] w19 := hH19
    refine ⟨((hH19.drop1 1 rfl).drop1 0 rfl), ?_⟩
    clear hf
    clear he18 a18 hH17
    refine wpAnyH_done (by kernel_rfl) ?_ _
    refine then_ok ?_
    refine wp_ret ?_
    try simp only [Exit.then, Exit.inBlock, Exit.noGoto]
    exact ret_rr rfl he20 rfl rfl (hH19.at (i := 1) rfl) (hH19.at (i := 0) rfl) undZ rfl infoZ2 infoZ2 ⟨by ((unfold ordP at h; first | rw [if_pos (by omega)] at h | rw [if_neg (by omega)] at h); obtain ⟨rfl, rfl⟩ := Prod.mk.inj h; rfl), hH19.new⟩
set_option linter.unusedSimpArgs false in
set_option maxRecDepth 100000 in
set_option maxHeartbeats 1600000 in
theorem Within_c (p f t : Pl) (b : Bool) (hb : decide (witP p f t) = b) (w : World) : Calls Tryd.prog 13 #[.agg #[.int .i64 p.l, .int .i64 p.c], .agg #[.int .i64 f.l, .int .i64 f.c], .agg #[.int .i64 t.l, .int .i64 t.c]] w fun e w' => e = .returned (.bool b) ∧ New w w' := by
  subst hb
  refine calls_args (vl := [Value.agg #[Value.int .i64 p.l, Value.int .i64 p.c], Value.agg #[Value.int .i64 f.l, Value.int .i64 f.c], Value.agg #[Value.int .i64 t.l, Value.int .i64 t.c]]) 17 Tryd.func13 rfl Tryd.ntmps13 (by kernel_rfl) (fun a he => ?_)
  have he0 : Env 17 [(0, Value.agg #[Value.int .i64 p.l, Value.int .i64 p.c]), (1, Value.agg #[Value.int .i64 f.l, Value.int .i64 f.c]), (2, Value.agg #[Value.int .i64 t.l, Value.int .i64 t.c])] a := he
  clear he
  have hH := Hp.start w
  refine wp_seq ?_
  refine wp_region_lit ?_
  refine lNewP (fun p => .pointer (some ⟨p, 0, none⟩)) he0 hH rfl rfl (wanted_plain rfl _) (rn_boxZ rfl (he0.op rfl) w) ?_
  intro p1 w1 a2 hp hn hH1 he2
  clear he0 a hH hn hp
  refine lNewP (fun p => .pointer (some ⟨p, 0, none⟩)) he2 hH1 rfl rfl (wanted_plain rfl _) (rn_boxZ rfl (he2.op rfl) w1) ?_
  intro p3 w3 a4 hp hn hH3 he4
  clear he2 a2 hH1 hn hp
  refine lNewP (fun p => .pointer (some ⟨p, 0, none⟩)) he4 hH3 rfl rfl (wanted_plain rfl _) (rn_boxZ rfl (he4.op rfl) w3) ?_
  intro p5 w5 a6 hp hn hH5 he6
  clear he4 a4 hH3 hn hp
  refine lV (Value.bool false) he6 rfl rfl (wanted_plain rfl _) (rn_asg rfl (he6.op rfl) w5) ?_
  intro a7 he7
  clear he6 a6
  refine wpList_nil ?_
  refine then_ok ?_
  refine wp_seq ?_
  refine wp_region_lit ?_
  refine lV (Value.agg #[Value.int .i64 p.l, Value.int .i64 p.c]) he7 rfl rfl (wanted_plain rfl _) (rn_ldp [Value.int .i64 p.l, Value.int .i64 p.c] rfl (he7.op rfl) undZ rfl infoZ2 (hH5.at (i := 2) rfl) rfl) ?_
  intro a8 he8
  clear he7 a7
  refine lV (Value.agg #[Value.int .i64 f.l, Value.int .i64 f.c]) he8 rfl rfl (wanted_plain rfl _) (rn_ldp [Value.int .i64 f.l, Value.int .i64 f.c] rfl (he8.op rfl) undZ rfl infoZ2 (hH5.at (i := 1) rfl) rfl) ?_
  intro a9 he9
  clear he8 a8
  refine lC he9 rfl rfl Tryd.func11 (by kernel_rfl) rfl rfl (wanted_plain rfl _) rfl (Compare_c p f w5) ?_
  intro w10 a11 hn he11
  have hH10 := hH5.call hn
  clear he9 a9 hH5 hn
  by_cases hb0 : 0 ≤ (cmpP p f)
  · skip
    refine lV (Value.bool true) he11 rfl rfl (wanted_plain rfl _) (rn_geI rfl (he11.op rfl) (he11.op rfl) (decide_eq_true hb0) w10) ?_
    intro a12 he12
    clear he11 a11
    refine lV (Value.bool true) he12 rfl rfl (wanted_plain rfl _) (rn_mv rfl (he12.op rfl) w10) ?_
    intro a13 he13
    clear he12 a12
    refine lV (Value.agg #[Value.int .i64 p.l, Value.int .i64 p.c]) he13 rfl rfl (he13.want rfl rfl rfl rfl rfl) (rn_ldp [Value.int .i64 p.l, Value.int .i64 p.c] rfl (he13.op rfl) undZ rfl infoZ2 (hH10.at (i := 2) rfl) rfl) ?_
    intro a14 he14
    clear he13 a13
    refine lV (Value.agg #[Value.int .i64 t.l, Value.int .i64 t.c]) he14 rfl rfl (he14.want rfl rfl rfl rfl rfl) (rn_ldp [Value.int .i64 t.l, Value.int .i64 t.c] rfl (he14.op rfl) undZ rfl infoZ2 (hH10.at (i := 0) rfl) rfl) ?_
    intro a15 he15
    clear he14 a14
    refine lC he15 rfl rfl Tryd.func11 (by kernel_rfl) rfl rfl (he15.want rfl rfl rfl rfl rfl) rfl (Compare_c p t w10) ?_
    intro w16 a17 hn he17
    have hH16 := hH10.call hn
    clear he15 a15 hH10 hn
    by_cases hb1 : (cmpP p t) < 0
    · skip
      refine lV (Value.bool true) he17 rfl rfl (he17.want rfl rfl rfl rfl rfl) (rn_lsI rfl (he17.op rfl) (he17.op rfl) (decide_eq_true hb1) w16) ?_
      intro a18 he18
      clear he17 a17
      refine lV (Value.bool true) he18 rfl rfl (wanted_plain rfl _) (rn_pk rfl (he18.op rfl) (he18.op rfl) w16) ?_
      intro a19 he19
      clear he18 a18
      refine lV (Value.bool true) he19 rfl rfl (wanted_plain rfl _) (rn_asg rfl (he19.op rfl) w16) ?_
      intro a20 he20
      clear he19 a19
      refine wpList_nil ?_
      refine then_ok ?_
      refine wp_ret ?_
      try simp only [Exit.then, Exit.inBlock, Exit.noGoto]
      exact ret_env rfl he20 rfl ⟨by (refine congrArg (fun b => Ending.returned (.bool b)) ?_; first | exact (decide_eq_true (by omega)).symm | exact (decide_eq_false (by omega)).symm), hH16.new⟩
    · skip
      refine lV (Value.bool false) he17 rfl rfl (he17.want rfl rfl rfl rfl rfl) (rn_lsI rfl (he17.op rfl) (he17.op rfl) (decide_eq_false hb1) w16) ?_
      intro a18 he18
      clear he17 a17
      refine lV (Value.bool false) he18 rfl rfl (wanted_plain rfl _) (rn_pk rfl (he18.op rfl) (he18.op rfl) w16) ?_
      intro a19 he19
      clear he18 a18
      refine lV (Value.bool false) he19 rfl rfl (wanted_plain rfl _) (rn_asg rfl (he19.op rfl) w16) ?_
      intro a20 he20
      clear he19 a19
      refine wpList_nil ?_
      refine then_ok ?_
      refine wp_ret ?_
      try simp only [Exit.then, Exit.inBlock, Exit.noGoto]
      exact ret_env rfl he20 rfl ⟨by (refine congrArg (fun b => Ending.returned (.bool b)) ?_; first | exact (decide_eq_true (by omega)).symm | exact (decide_eq_false (by omega)).symm), hH16.new⟩
  · skip
    refine lV (Value.bool false) he11 rfl rfl (wanted_plain rfl _) (rn_geI rfl (he11.op rfl) (he11.op rfl) (decide_eq_false hb0) w10) ?_
    intro a12 he12
    clear he11 a11
    refine lV (Value.bool false) he12 rfl rfl (wanted_plain rfl _) (rn_mv rfl (he12.op rfl) w10) ?_
    intro a13 he13
    clear he12 a12
    refine lSkip he13 rfl rfl (he13.wantNot rfl rfl rfl rfl rfl rfl) ?_
    intro a14 he14
    clear he13 a13
    refine lSkip he14 rfl rfl (he14.wantNot rfl rfl rfl rfl rfl rfl) ?_
    intro a15 he15
    clear he14 a14
    refine lSkip he15 rfl rfl (he15.wantNot rfl rfl rfl rfl rfl rfl) ?_
    intro a16 he16
    clear he15 a15
    refine lSkip he16 rfl rfl (he16.wantNot rfl rfl rfl rfl rfl rfl) ?_
    intro a17 he17
    clear he16 a16
    refine lV (Value.bool false) he17 rfl rfl (wanted_plain rfl _) (rn_pk0 rfl (he17.op rfl) (he17.op rfl) w10) ?_
    intro a18 he18
    clear he17 a17
    refine lV (Value.bool false) he18 rfl rfl (wanted_plain rfl _) (rn_asg rfl (he18.op rfl) w10) ?_
    intro a19 he19
    clear he18 a18
    refine wpList_nil ?_
    refine then_ok ?_
    refine wp_ret ?_
    try simp only [Exit.then, Exit.inBlock, Exit.noGoto]
    exact ret_env rfl he19 rfl ⟨by (refine congrArg (fun b => Ending.returned (.bool b)) ?_; first | exact (decide_eq_true (by omega)).symm | exact (decide_eq_false (by omega)).symm), hH10.new⟩
set_option linter.unusedSimpArgs false in
set_option maxRecDepth 100000 in
set_option maxHeartbeats 1600000 in
theorem Clamp_c (p : Pl) (f n c : Int) (q : Pl) (er : Int) (h : clampP p f n c = (q, er)) (w : World) : Calls Tryd.prog 27 #[.agg #[.int .i64 p.l, .int .i64 p.c], .int .i64 f, .int .i64 n, .int .i64 c] w fun e w' => e = .returned (.tuple #[q.v, .int .i64 er]) ∧ New w w' := by
  refine calls_args (vl := [Value.agg #[Value.int .i64 p.l, Value.int .i64 p.c], Value.int .i64 f, Value.int .i64 n, Value.int .i64 c]) 54 Tryd.func27 rfl Tryd.ntmps27 (by kernel_rfl) (fun a he => ?_)
  have he0 : Env 54 [(0, Value.agg #[Value.int .i64 p.l, Value.int .i64 p.c]), (1, Value.int .i64 f), (2, Value.int .i64 n), (3, Value.int .i64 c)] a := he
  clear he
  have hH := Hp.start w
  refine wp_seq ?_
  refine wp_region_lit ?_
  refine lNewP (fun p => .pointer (some ⟨p, 0, none⟩)) he0 hH rfl rfl (wanted_plain rfl _) (rn_boxZ rfl (he0.op rfl) w) ?_
  intro p1 w1 a2 hp hn hH1 he2
  clear he0 a hH hn hp
  refine lNewP (fun p => .pointer (some ⟨p, 0, none⟩)) he2 hH1 rfl rfl (wanted_plain rfl _) (rn_allocZ rfl w1) ?_
  intro p3 w3 a4 hp hn hH3 he4
  clear he2 a2 hH1 hn hp
  refine lV (Value.int .i64 0) he4 rfl rfl (wanted_plain rfl _) (rn_asg rfl (he4.op rfl) w3) ?_
  intro a5 he5
  clear he4 a4
  refine wpList_nil ?_
  refine then_ok ?_
  refine wp_seq ?_
  refine wp_block ?_
  refine wp_seq ?_
  refine wp_region_lit ?_
  refine lV (Value.int .i64 f) he5 rfl rfl (wanted_plain rfl _) (rn_mv rfl (he5.op rfl) w3) ?_
  intro a6 he6
  clear he5 a5
  by_cases hb0 : f < 0
  · skip
    refine lV (Value.bool true) he6 rfl rfl (wanted_plain rfl _) (rn_lsI rfl (he6.op rfl) (he6.op rfl) (decide_eq_true hb0) w3) ?_
    intro a7 he7
    clear he6 a6
    refine lV (Value.bool true) he7 rfl rfl (wanted_plain rfl _) (rn_mv rfl (he7.op rfl) w3) ?_
    intro a8 he8
    clear he7 a7
    refine lSkip he8 rfl rfl (he8.wantNot rfl rfl rfl rfl rfl rfl) ?_
    intro a9 he9
    clear he8 a8
    refine lSkip he9 rfl rfl (he9.wantNot rfl rfl rfl rfl rfl rfl) ?_
    intro a10 he10
    clear he9 a9
    refine lSkip he10 rfl rfl (he10.wantNot rfl rfl rfl rfl rfl rfl) ?_
    intro a11 he11
    clear he10 a10
    refine lV (Value.bool true) he11 rfl rfl (wanted_plain rfl _) (rn_pk rfl (he11.op rfl) (he11.op rfl) w3) ?_
    intro a12 he12
    clear he11 a11
    refine lV (Value.bool true) he12 rfl rfl (wanted_plain rfl _) (rn_mv rfl (he12.op rfl) w3) ?_
    intro a13 he13
    clear he12 a12
    refine lSkip he13 rfl rfl (he13.wantNot rfl rfl rfl rfl rfl rfl) ?_
    intro a14 he14
    clear he13 a13
    refine lSkip he14 rfl rfl (he14.wantNot rfl rfl rfl rfl rfl rfl) ?_
    intro a15 he15
    clear he14 a14
    refine lV (Value.bool true) he15 rfl rfl (wanted_plain rfl _) (rn_pk rfl (he15.op rfl) (he15.op rfl) w3) ?_
    intro a16 he16
    clear he15 a15
    refine lV (Value.bool true) he16 rfl rfl (wanted_plain rfl _) (rn_mv rfl (he16.op rfl) w3) ?_
    intro a17 he17
    clear he16 a16
    refine lSkip he17 rfl rfl (he17.wantNot rfl rfl rfl rfl rfl rfl) ?_
    intro a18 he18
    clear he17 a17
    refine lSkip he18 rfl rfl (he18.wantNot rfl rfl rfl rfl rfl rfl) ?_
    intro a19 he19
    clear he18 a18
    refine lSkip he19 rfl rfl (he19.wantNot rfl rfl rfl rfl rfl rfl) ?_
    intro a20 he20
    clear he19 a19
    refine lV (Value.bool true) he20 rfl rfl (wanted_plain rfl _) (rn_pk rfl (he20.op rfl) (he20.op rfl) w3) ?_
    intro a21 he21
    clear he20 a20
    refine lV (Value.bool true) he21 rfl rfl (wanted_plain rfl _) (rn_asg rfl (he21.op rfl) w3) ?_
    intro a22 he22
    clear he21 a21
    refine wpList_nil ?_
    refine then_ok ?_
    refine wp_cond_true (he22.op rfl) ?_
    refine wp_seq ?_
    refine wp_region_lit ?_
    refine lV (Value.agg #[Value.int .i64 0, Value.int .i64 0]) he22 rfl rfl (wanted_plain rfl _) (rn_bZ rfl  w3) ?_
    intro a23 he23
    clear he22 a22
    refine lSetF 0 #[Value.int .i64 0, Value.int .i64 0] (cs := #[Value.int .i64 0, Value.int .i64 0]) he23 hH3 rfl (wanted_plain rfl _) rfl rfl rfl rfl rfl (by kernel_rfl) (by kernel_rfl) (by kernel_rfl) rfl ?_
    intro w24 a25 hH24 hf he25
    replace hH24 : Hp w [⟨p3, 23, #[Value.int .i64 0, Value.int .i64 0]⟩, ⟨p1, 23, #[Value.int .i64 p.l, Value.int .i64 p.c]⟩] w24 := hH24
    clear hf
    clear he23 a23 hH3
    refine lV (Value.int .i64 2) he25 rfl rfl (wanted_plain rfl _) (rn_asg rfl (he25.op rfl) w24) ?_
    intro a26 he26
    clear he25 a25
    refine wpList_nil ?_
    refine then_ok ?_
    refine wp_ret ?_
    try simp only [Exit.then, Exit.inBlock, Exit.noGoto]
    exact ret_rowt rfl he26 rfl rfl (hH24.at (i := 0) rfl) undZ rfl infoZ2 ⟨by ((unfold clampP argC at h; first | rw [if_pos (by omega)] at h | rw [if_neg (by omega), if_pos (by omega)] at h | rw [if_neg (by omega), if_neg (by omega), if_pos (by omega)] at h | rw [if_neg (by omega), if_neg (by omega), if_neg (by omega)] at h); obtain ⟨rfl, rfl⟩ := Prod.mk.inj h; first | rfl | (refine congrArg (fun x => Ending.returned (.tuple #[.agg #[.int .i64 p.l, .int .i64 x], .int .i64 0])) ?_; show _ = (if p.c < 0 then 0 else if c ≤ p.c then c - 1 else p.c); split <;> (try split) <;> omega)), hH24.new⟩
  · skip
    refine lV (Value.bool false) he6 rfl rfl (wanted_plain rfl _) (rn_lsI rfl (he6.op rfl) (he6.op rfl) (decide_eq_false hb0) w3) ?_
    intro a7 he7
    clear he6 a6
    refine lV (Value.bool false) he7 rfl rfl (wanted_plain rfl _) (rn_mv rfl (he7.op rfl) w3) ?_
    intro a8 he8
    clear he7 a7
    refine lV (Value.int .i64 n) he8 rfl rfl (he8.want rfl rfl rfl rfl rfl) (rn_mv rfl (he8.op rfl) w3) ?_
    intro a9 he9
    clear he8 a8
    refine lV (Value.int .i64 f) he9 rfl rfl (he9.want rfl rfl rfl rfl rfl) (rn_mv rfl (he9.op rfl) w3) ?_
    intro a10 he10
    clear he9 a9
    by_cases hb1 : n ≤ f
    · skip
      refine lV (Value.bool true) he10 rfl rfl (he10.want rfl rfl rfl rfl rfl) (rn_leI rfl (he10.op rfl) (he10.op rfl) (decide_eq_true hb1) w3) ?_
      intro a11 he11
      clear he10 a10
      refine lV (Value.bool true) he11 rfl rfl (wanted_plain rfl _) (rn_pk0 rfl (he11.op rfl) (he11.op rfl) w3) ?_
      intro a12 he12
      clear he11 a11
      refine lV (Value.bool true) he12 rfl rfl (wanted_plain rfl _) (rn_mv rfl (he12.op rfl) w3) ?_
      intro a13 he13
      clear he12 a12
      refine lSkip he13 rfl rfl (he13.wantNot rfl rfl rfl rfl rfl rfl) ?_
      intro a14 he14
      clear he13 a13
      refine lSkip he14 rfl rfl (he14.wantNot rfl rfl rfl rfl rfl rfl) ?_
      intro a15 he15
      clear he14 a14
      refine lV (Value.bool true) he15 rfl rfl (wanted_plain rfl _) (rn_pk rfl (he15.op rfl) (he15.op rfl) w3) ?_
      intro a16 he16
      clear he15 a15
      refine lV (Value.bool true) he16 rfl rfl (wanted_plain rfl _) (rn_mv rfl (he16.op rfl) w3) ?_
      intro a17 he17
      clear he16 a16
      refine lSkip he17 rfl rfl (he17.wantNot rfl rfl rfl rfl rfl rfl) ?_
      intro a18 he18
      clear he17 a17
      refine lSkip he18 rfl rfl (he18.wantNot rfl rfl rfl rfl rfl rfl) ?_
      intro a19 he19
      clear he18 a18
      refine lSkip he19 rfl rfl (he19.wantNot rfl rfl rfl rfl rfl rfl) ?_
      intro a20 he20
      clear he19 a19
      refine lV (Value.bool true) he20 rfl rfl (wanted_plain rfl _) (rn_pk rfl (he20.op rfl) (he20.op rfl) w3) ?_
      intro a21 he21
      clear he20 a20
      refine lV (Value.bool true) he21 rfl rfl (wanted_plain rfl _) (rn_asg rfl (he21.op rfl) w3) ?_
      intro a22 he22
      clear he21 a21
      refine wpList_nil ?_
      refine then_ok ?_
      refine wp_cond_true (he22.op rfl) ?_
      refine wp_seq ?_
      refine wp_region_lit ?_
      refine lV (Value.agg #[Value.int .i64 0, Value.int .i64 0]) he22 rfl rfl (wanted_plain rfl _) (rn_bZ rfl  w3) ?_
      intro a23 he23
      clear he22 a22
      refine lSetF 0 #[Value.int .i64 0, Value.int .i64 0] (cs := #[Value.int .i64 0, Value.int .i64 0]) he23 hH3 rfl (wanted_plain rfl _) rfl rfl rfl rfl rfl (by kernel_rfl) (by kernel_rfl) (by kernel_rfl) rfl ?_
      intro w24 a25 hH24 hf he25
      replace hH24 : Hp w [⟨p3, 23, #[Value.int .i64 0, Value.int .i64 0]⟩, ⟨p1, 23, #[Value.int .i64 p.l, Value.int .i64 p.c]⟩] w24 := hH24
      clear hf
      clear he23 a23 hH3
      refine lV (Value.int .i64 2) he25 rfl rfl (wanted_plain rfl _) (rn_asg rfl (he25.op rfl) w24) ?_
      intro a26 he26
      clear he25 a25
      refine wpList_nil ?_
      refine then_ok ?_
      refine wp_ret ?_
      try simp only [Exit.then, Exit.inBlock, Exit.noGoto]
      exact ret_rowt rfl he26 rfl rfl (hH24.at (i := 0) rfl) undZ rfl infoZ2 ⟨by ((unfold clampP argC at h; first | rw [if_pos (by omega)] at h | rw [if_neg (by omega), if_pos (by omega)] at h | rw [if_neg (by omega), if_neg (by omega), if_pos (by omega)] at h | rw [if_neg (by omega), if_neg (by omega), if_neg (by omega)] at h); obtain ⟨rfl, rfl⟩ := Prod.mk.inj h; first | rfl | (refine congrArg (fun x => Ending.returned (.tuple #[.agg #[.int .i64 p.l, .int .i64 x], .int .i64 0])) ?_; show _ = (if p.c < 0 then 0 else if c ≤ p.c then c - 1 else p.c); split <;> (try split) <;> omega)), hH24.new⟩
    · skip
      refine lV (Value.bool false) he10 rfl rfl (he10.want rfl rfl rfl rfl rfl) (rn_leI rfl (he10.op rfl) (he10.op rfl) (decide_eq_false hb1) w3) ?_
      intro a11 he11
      clear he10 a10
      refine lV (Value.bool false) he11 rfl rfl (wanted_plain rfl _) (rn_pk0 rfl (he11.op rfl) (he11.op rfl) w3) ?_
      intro a12 he12
      clear he11 a11
      refine lV (Value.bool false) he12 rfl rfl (wanted_plain rfl _) (rn_mv rfl (he12.op rfl) w3) ?_
      intro a13 he13
      clear he12 a12
      refine lV (Value.int .i64 n) he13 rfl rfl (he13.want rfl rfl rfl rfl rfl) (rn_mv rfl (he13.op rfl) w3) ?_
      intro a14 he14
      clear he13 a13
      by_cases hb2 : 1099511627777 < n
      · skip
        refine lV (Value.bool true) he14 rfl rfl (he14.want rfl rfl rfl rfl rfl) (rn_gtI rfl (he14.op rfl) (he14.op rfl) (decide_eq_true hb2) w3) ?_
        intro a15 he15
        clear he14 a14
        refine lV (Value.bool true) he15 rfl rfl (wanted_plain rfl _) (rn_pk0 rfl (he15.op rfl) (he15.op rfl) w3) ?_
        intro a16 he16
        clear he15 a15
        refine lV (Value.bool true) he16 rfl rfl (wanted_plain rfl _) (rn_mv rfl (he16.op rfl) w3) ?_
        intro a17 he17
        clear he16 a16
        refine lSkip he17 rfl rfl (he17.wantNot rfl rfl rfl rfl rfl rfl) ?_
        intro a18 he18
        clear he17 a17
        refine lSkip he18 rfl rfl (he18.wantNot rfl rfl rfl rfl rfl rfl) ?_
        intro a19 he19
        clear he18 a18
        refine lSkip he19 rfl rfl (he19.wantNot rfl rfl rfl rfl rfl rfl) ?_
        intro a20 he20
        clear he19 a19
        refine lV (Value.bool true) he20 rfl rfl (wanted_plain rfl _) (rn_pk rfl (he20.op rfl) (he20.op rfl) w3) ?_
        intro a21 he21
        clear he20 a20
        refine lV (Value.bool true) he21 rfl rfl (wanted_plain rfl _) (rn_asg rfl (he21.op rfl) w3) ?_
        intro a22 he22
        clear he21 a21
        refine wpList_nil ?_
        refine then_ok ?_
        refine wp_cond_true (he22.op rfl) ?_
        refine wp_seq ?_
        refine wp_region_lit ?_
        refine lV (Value.agg #[Value.int .i64 0, Value.int .i64 0]) he22 rfl rfl (wanted_plain rfl _) (rn_bZ rfl  w3) ?_
        intro a23 he23
        clear he22 a22
        refine lSetF 0 #[Value.int .i64 0, Value.int .i64 0] (cs := #[Value.int .i64 0, Value.int .i64 0]) he23 hH3 rfl (wanted_plain rfl _) rfl rfl rfl rfl rfl (by kernel_rfl) (by kernel_rfl) (by kernel_rfl) rfl ?_
        intro w24 a25 hH24 hf he25
        replace hH24 : Hp w [⟨p3, 23, #[Value.int .i64 0, Value.int .i64 0]⟩, ⟨p1, 23, #[Value.int .i64 p.l, Value.int .i64 p.c]⟩] w24 := hH24
        clear hf
        clear he23 a23 hH3
        refine lV (Value.int .i64 2) he25 rfl rfl (wanted_plain rfl _) (rn_asg rfl (he25.op rfl) w24) ?_
        intro a26 he26
        clear he25 a25
        refine wpList_nil ?_
        refine then_ok ?_
        refine wp_ret ?_
        try simp only [Exit.then, Exit.inBlock, Exit.noGoto]
        exact ret_rowt rfl he26 rfl rfl (hH24.at (i := 0) rfl) undZ rfl infoZ2 ⟨by ((unfold clampP argC at h; first | rw [if_pos (by omega)] at h | rw [if_neg (by omega), if_pos (by omega)] at h | rw [if_neg (by omega), if_neg (by omega), if_pos (by omega)] at h | rw [if_neg (by omega), if_neg (by omega), if_neg (by omega)] at h); obtain ⟨rfl, rfl⟩ := Prod.mk.inj h; first | rfl | (refine congrArg (fun x => Ending.returned (.tuple #[.agg #[.int .i64 p.l, .int .i64 x], .int .i64 0])) ?_; show _ = (if p.c < 0 then 0 else if c ≤ p.c then c - 1 else p.c); split <;> (try split) <;> omega)), hH24.new⟩
      · skip
        refine lV (Value.bool false) he14 rfl rfl (he14.want rfl rfl rfl rfl rfl) (rn_gtI rfl (he14.op rfl) (he14.op rfl) (decide_eq_false hb2) w3) ?_
        intro a15 he15
        clear he14 a14
        refine lV (Value.bool false) he15 rfl rfl (wanted_plain rfl _) (rn_pk0 rfl (he15.op rfl) (he15.op rfl) w3) ?_
        intro a16 he16
        clear he15 a15
        refine lV (Value.bool false) he16 rfl rfl (wanted_plain rfl _) (rn_mv rfl (he16.op rfl) w3) ?_
        intro a17 he17
        clear he16 a16
        refine lV (Value.int .i64 c) he17 rfl rfl (he17.want rfl rfl rfl rfl rfl) (rn_mv rfl (he17.op rfl) w3) ?_
        intro a18 he18
        clear he17 a17
        by_cases hb3 : colP c
        · skip
          refine lC he18 rfl rfl Tryd.func33 (by kernel_rfl) rfl rfl (he18.want rfl rfl rfl rfl rfl) rfl (allowed_c c true (decide_eq_true hb3) w3) ?_
          intro w19 a20 hn he20
          have hH19 := hH3.call hn
          clear he18 a18 hH3 hn
          refine lV (Value.bool false) he20 rfl rfl (he20.want rfl rfl rfl rfl rfl) (rn_not (b := true) rfl (he20.op rfl) w19) ?_
          intro a21 he21
          clear he20 a20
          refine lV (Value.bool false) he21 rfl rfl (wanted_plain rfl _) (rn_pk0 rfl (he21.op rfl) (he21.op rfl) w19) ?_
          intro a22 he22
          clear he21 a21
          refine lV (Value.bool false) he22 rfl rfl (wanted_plain rfl _) (rn_asg rfl (he22.op rfl) w19) ?_
          intro a23 he23
          clear he22 a22
          refine wpList_nil ?_
          refine then_ok ?_
          refine wp_cond_false (he23.op rfl) ?_
          refine wp_seq ?_
          refine wp_region_lit ?_
          refine lV (Value.pointer (some ⟨p1, 0, none⟩)) he23 rfl rfl (wanted_plain rfl _) (rn_faZ0 rfl (he23.op rfl) rfl w19) ?_
          intro a24 he24
          clear he23 a23
          refine lV (Value.int .i64 p.l) he24 rfl rfl (wanted_plain rfl _) (rn_ld1 rfl (he24.op rfl) Tryd.underlying3 (hH19.at (i := 1) rfl) rfl) ?_
          intro a25 he25
          clear he24 a24
          refine lV (Value.int .i64 f) he25 rfl rfl (wanted_plain rfl _) (rn_mv rfl (he25.op rfl) w19) ?_
          intro a26 he26
          clear he25 a25
          by_cases hb4 : p.l < f
          · skip
            refine lV (Value.bool true) he26 rfl rfl (wanted_plain rfl _) (rn_lsI rfl (he26.op rfl) (he26.op rfl) (decide_eq_true hb4) w19) ?_
            intro a27 he27
            clear he26 a26
            refine lV (Value.bool true) he27 rfl rfl (wanted_plain rfl _) (rn_asg rfl (he27.op rfl) w19) ?_
            intro a28 he28
            clear he27 a27
            refine wpList_nil ?_
            refine then_ok ?_
            refine wp_cond_true (he28.op rfl) ?_
            refine wp_seq ?_
            refine wp_region_lit ?_
            refine lV (Value.int .i64 f) he28 rfl rfl (wanted_plain rfl _) (rn_mv rfl (he28.op rfl) w19) ?_
            intro a29 he29
            clear he28 a28
            refine lV (Value.agg #[Value.int .i64 f, Value.int .i64 0]) he29 rfl rfl (wanted_plain rfl _) (rn_bZ0 rfl (he29.op rfl) w19) ?_
            intro a30 he30
            clear he29 a29
            refine lSetF 0 #[Value.int .i64 f, Value.int .i64 0] (cs := #[Value.int .i64 f, Value.int .i64 0]) he30 hH19 rfl (wanted_plain rfl _) rfl rfl rfl rfl rfl (by kernel_rfl) (by kernel_rfl) (by kernel_rfl) rfl ?_
            intro w31 a32 hH31 hf he32
            replace hH31 : Hp w [⟨p3, 23, #[Value.int .i64 f, Value.int .i64 0]⟩, ⟨p1, 23, #[Value.int .i64 p.l, Value.int .i64 p.c]⟩] w31 := hH31
            clear hf
            clear he30 a30 hH19
            refine lV (Value.int .i64 0) he32 rfl rfl (wanted_plain rfl _) (rn_asg rfl (he32.op rfl) w31) ?_
            intro a33 he33
            clear he32 a32
            refine wpList_nil ?_
            refine then_ok ?_
            refine wp_ret ?_
            try simp only [Exit.then, Exit.inBlock, Exit.noGoto]
            exact ret_rowt rfl he33 rfl rfl (hH31.at (i := 0) rfl) undZ rfl infoZ2 ⟨by ((unfold clampP argC at h; first | rw [if_pos (by omega)] at h | rw [if_neg (by omega), if_pos (by omega)] at h | rw [if_neg (by omega), if_neg (by omega), if_pos (by omega)] at h | rw [if_neg (by omega), if_neg (by omega), if_neg (by omega)] at h); obtain ⟨rfl, rfl⟩ := Prod.mk.inj h; first | rfl | (refine congrArg (fun x => Ending.returned (.tuple #[.agg #[.int .i64 p.l, .int .i64 x], .int .i64 0])) ?_; show _ = (if p.c < 0 then 0 else if c ≤ p.c then c - 1 else p.c); split <;> (try split) <;> omega)), hH31.new⟩
          · skip
            refine lV (Value.bool false) he26 rfl rfl (wanted_plain rfl _) (rn_lsI rfl (he26.op rfl) (he26.op rfl) (decide_eq_false hb4) w19) ?_
            intro a27 he27
            clear he26 a26
            refine lV (Value.bool false) he27 rfl rfl (wanted_plain rfl _) (rn_asg rfl (he27.op rfl) w19) ?_
            intro a28 he28
            clear he27 a27
            refine wpList_nil ?_
            refine then_ok ?_
            refine wp_cond_false (he28.op rfl) ?_
            refine wp_seq ?_
            refine wp_region_lit ?_
            refine lV (Value.pointer (some ⟨p1, 0, none⟩)) he28 rfl rfl (wanted_plain rfl _) (rn_faZ0 rfl (he28.op rfl) rfl w19) ?_
            intro a29 he29
            clear he28 a28
            refine lV (Value.int .i64 p.l) he29 rfl rfl (wanted_plain rfl _) (rn_ld1 rfl (he29.op rfl) Tryd.underlying3 (hH19.at (i := 1) rfl) rfl) ?_
            intro a30 he30
            clear he29 a29
            refine lV (Value.int .i64 n) he30 rfl rfl (wanted_plain rfl _) (rn_mv rfl (he30.op rfl) w19) ?_
            intro a31 he31
            clear he30 a30
            by_cases hb5 : n ≤ p.l
            · skip
              refine lV (Value.bool true) he31 rfl rfl (wanted_plain rfl _) (rn_geI rfl (he31.op rfl) (he31.op rfl) (decide_eq_true hb5) w19) ?_
              intro a32 he32
              clear he31 a31
              refine lV (Value.bool true) he32 rfl rfl (wanted_plain rfl _) (rn_asg rfl (he32.op rfl) w19) ?_
              intro a33 he33
              clear he32 a32
              refine wpList_nil ?_
              refine then_ok ?_
              refine wp_cond_true (he33.op rfl) ?_
              refine wp_seq ?_
              refine wp_region_lit ?_
              refine lV (Value.int .i64 n) he33 rfl rfl (wanted_plain rfl _) (rn_mv rfl (he33.op rfl) w19) ?_
              intro a34 he34
              clear he33 a33
              refine lV (Value.int .i64 (n - 1)) he34 rfl rfl (wanted_plain rfl _) (rn_subI rfl (he34.op rfl) (he34.op rfl) (i64w (by omega) (by omega)) w19) ?_
              intro a35 he35
              clear he34 a34
              refine lV (Value.int .i64 c) he35 rfl rfl (wanted_plain rfl _) (rn_mv rfl (he35.op rfl) w19) ?_
              intro a36 he36
              clear he35 a35
              refine lV (Value.int .i64 (c - 1)) he36 rfl rfl (wanted_plain rfl _) (rn_subI rfl (he36.op rfl) (he36.op rfl) (i64w (by omega) (by omega)) w19) ?_
              intro a37 he37
              clear he36 a36
              refine lV (Value.agg #[Value.int .i64 (n - 1), Value.int .i64 (c - 1)]) he37 rfl rfl (wanted_plain rfl _) (rn_bZ01 rfl (he37.op rfl) (he37.op rfl) w19) ?_
              intro a38 he38
              clear he37 a37
              refine lSetF 0 #[Value.int .i64 (n - 1), Value.int .i64 (c - 1)] (cs := #[Value.int .i64 (n - 1), Value.int .i64 (c - 1)]) he38 hH19 rfl (wanted_plain rfl _) rfl rfl rfl rfl rfl (by kernel_rfl) (by kernel_rfl) (by kernel_rfl) rfl ?_
              intro w39 a40 hH39 hf he40
              replace hH39 : Hp w [⟨p3, 23, #[Value.int .i64 (n - 1), Value.int .i64 (c - 1)]⟩, ⟨p1, 23, #[Value.int .i64 p.l, Value.int .i64 p.c]⟩] w39 := hH39
              clear hf
              clear he38 a38 hH19
              refine lV (Value.int .i64 0) he40 rfl rfl (wanted_plain rfl _) (rn_asg rfl (he40.op rfl) w39) ?_
              intro a41 he41
              clear he40 a40
              refine wpList_nil ?_
              refine then_ok ?_
              refine wp_ret ?_
              try simp only [Exit.then, Exit.inBlock, Exit.noGoto]
              exact ret_rowt rfl he41 rfl rfl (hH39.at (i := 0) rfl) undZ rfl infoZ2 ⟨by ((unfold clampP argC at h; first | rw [if_pos (by omega)] at h | rw [if_neg (by omega), if_pos (by omega)] at h | rw [if_neg (by omega), if_neg (by omega), if_pos (by omega)] at h | rw [if_neg (by omega), if_neg (by omega), if_neg (by omega)] at h); obtain ⟨rfl, rfl⟩ := Prod.mk.inj h; first | rfl | (refine congrArg (fun x => Ending.returned (.tuple #[.agg #[.int .i64 p.l, .int .i64 x], .int .i64 0])) ?_; show _ = (if p.c < 0 then 0 else if c ≤ p.c then c - 1 else p.c); split <;> (try split) <;> omega)), hH39.new⟩
            · skip
              refine lV (Value.bool false) he31 rfl rfl (wanted_plain rfl _) (rn_geI rfl (he31.op rfl) (he31.op rfl) (decide_eq_false hb5) w19) ?_
              intro a32 he32
              clear he31 a31
              refine lV (Value.bool false) he32 rfl rfl (wanted_plain rfl _) (rn_asg rfl (he32.op rfl) w19) ?_
              intro a33 he33
              clear he32 a32
              refine wpList_nil ?_
              refine then_ok ?_
              refine wp_cond_false (he33.op rfl) ?_
              refine wp_skip ?_
              refine block_ok ?_
              refine then_ok ?_
              refine wp_seq ?_
              refine wp_region_lit ?_
              refine lV (Value.pointer (some ⟨p1, 0, none⟩)) he33 rfl rfl (wanted_plain rfl _) (rn_faZ0 rfl (he33.op rfl) rfl w19) ?_
              intro a34 he34
              clear he33 a33
              refine lV (Value.int .i64 p.l) he34 rfl rfl (wanted_plain rfl _) (rn_ld1 rfl (he34.op rfl) Tryd.underlying3 (hH19.at (i := 1) rfl) rfl) ?_
              intro a35 he35
              clear he34 a34
              refine lV (Value.pointer (some ⟨p1, 1, none⟩)) he35 rfl rfl (wanted_plain rfl _) (rn_faZ1 rfl (he35.op rfl) rfl w19) ?_
              intro a36 he36
              clear he35 a35
              refine lV (Value.int .i64 p.c) he36 rfl rfl (wanted_plain rfl _) (rn_ld1 rfl (he36.op rfl) Tryd.underlying3 (hH19.at (i := 1) rfl) rfl) ?_
              intro a37 he37
              clear he36 a36
              refine lV (Value.int .i64 (max p.c 0)) he37 rfl rfl (wanted_plain rfl _) (rn_maxI rfl (he37.op rfl) (he37.op rfl) rfl w19) ?_
              intro a38 he38
              clear he37 a37
              refine lV (Value.int .i64 c) he38 rfl rfl (wanted_plain rfl _) (rn_mv rfl (he38.op rfl) w19) ?_
              intro a39 he39
              clear he38 a38
              refine lV (Value.int .i64 (c - 1)) he39 rfl rfl (wanted_plain rfl _) (rn_subI rfl (he39.op rfl) (he39.op rfl) (i64w (by omega) (by omega)) w19) ?_
              intro a40 he40
              clear he39 a39
              refine lV (Value.int .i64 (min (max p.c 0) (c - 1))) he40 rfl rfl (wanted_plain rfl _) (rn_minI rfl (he40.op rfl) (he40.op rfl) rfl w19) ?_
              intro a41 he41
              clear he40 a40
              refine lV (Value.agg #[Value.int .i64 p.l, Value.int .i64 (min (max p.c 0) (c - 1))]) he41 rfl rfl (wanted_plain rfl _) (rn_bZ01 rfl (he41.op rfl) (he41.op rfl) w19) ?_
              intro a42 he42
              clear he41 a41
              refine lSetF 0 #[Value.int .i64 p.l, Value.int .i64 (min (max p.c 0) (c - 1))] (cs := #[Value.int .i64 p.l, Value.int .i64 (min (max p.c 0) (c - 1))]) he42 hH19 rfl (wanted_plain rfl _) rfl rfl rfl rfl rfl (by kernel_rfl) (by kernel_rfl) (by kernel_rfl) rfl ?_
              intro w43 a44 hH43 hf he44
              replace hH43 : Hp w [⟨p3, 23, #[Value.int .i64 p.l, Value.int .i64 (min (max p.c 0) (c - 1))]⟩, ⟨p1, 23, #[Value.int .i64 p.l, Value.int .i64 p.c]⟩] w43 := hH43
              clear hf
              clear he42 a42 hH19
              refine lV (Value.int .i64 0) he44 rfl rfl (wanted_plain rfl _) (rn_asg rfl (he44.op rfl) w43) ?_
              intro a45 he45
              clear he44 a44
              refine wpList_nil ?_
              refine then_ok ?_
              refine wp_ret ?_
              try simp only [Exit.then, Exit.inBlock, Exit.noGoto]
              exact ret_rowt rfl he45 rfl rfl (hH43.at (i := 0) rfl) undZ rfl infoZ2 ⟨by ((unfold clampP argC at h; first | rw [if_pos (by omega)] at h | rw [if_neg (by omega), if_pos (by omega)] at h | rw [if_neg (by omega), if_neg (by omega), if_pos (by omega)] at h | rw [if_neg (by omega), if_neg (by omega), if_neg (by omega)] at h); obtain ⟨rfl, rfl⟩ := Prod.mk.inj h; first | rfl | (refine congrArg (fun x => Ending.returned (.tuple #[.agg #[.int .i64 p.l, .int .i64 x], .int .i64 0])) ?_; show _ = (if p.c < 0 then 0 else if c ≤ p.c then c - 1 else p.c); split <;> (try split) <;> omega)), hH43.new⟩
        · skip
          refine lC he18 rfl rfl Tryd.func33 (by kernel_rfl) rfl rfl (he18.want rfl rfl rfl rfl rfl) rfl (allowed_c c false (decide_eq_false hb3) w3) ?_
          intro w19 a20 hn he20
          have hH19 := hH3.call hn
          clear he18 a18 hH3 hn
          refine lV (Value.bool true) he20 rfl rfl (he20.want rfl rfl rfl rfl rfl) (rn_not (b := false) rfl (he20.op rfl) w19) ?_
          intro a21 he21
          clear he20 a20
          refine lV (Value.bool true) he21 rfl rfl (wanted_plain rfl _) (rn_pk0 rfl (he21.op rfl) (he21.op rfl) w19) ?_
          intro a22 he22
          clear he21 a21
          refine lV (Value.bool true) he22 rfl rfl (wanted_plain rfl _) (rn_asg rfl (he22.op rfl) w19) ?_
          intro a23 he23
          clear he22 a22
          refine wpList_nil ?_
          refine then_ok ?_
          refine wp_cond_true (he23.op rfl) ?_
          refine wp_seq ?_
          refine wp_region_lit ?_
          refine lV (Value.agg #[Value.int .i64 0, Value.int .i64 0]) he23 rfl rfl (wanted_plain rfl _) (rn_bZ rfl  w19) ?_
          intro a24 he24
          clear he23 a23
          refine lSetF 0 #[Value.int .i64 0, Value.int .i64 0] (cs := #[Value.int .i64 0, Value.int .i64 0]) he24 hH19 rfl (wanted_plain rfl _) rfl rfl rfl rfl rfl (by kernel_rfl) (by kernel_rfl) (by kernel_rfl) rfl ?_
          intro w25 a26 hH25 hf he26
          replace hH25 : Hp w [⟨p3, 23, #[Value.int .i64 0, Value.int .i64 0]⟩, ⟨p1, 23, #[Value.int .i64 p.l, Value.int .i64 p.c]⟩] w25 := hH25
          clear hf
          clear he24 a24 hH19
          refine lV (Value.int .i64 2) he26 rfl rfl (wanted_plain rfl _) (rn_asg rfl (he26.op rfl) w25) ?_
          intro a27 he27
          clear he26 a26
          refine wpList_nil ?_
          refine then_ok ?_
          refine wp_ret ?_
          try simp only [Exit.then, Exit.inBlock, Exit.noGoto]
          exact ret_rowt rfl he27 rfl rfl (hH25.at (i := 0) rfl) undZ rfl infoZ2 ⟨by ((unfold clampP argC at h; first | rw [if_pos (by omega)] at h | rw [if_neg (by omega), if_pos (by omega)] at h | rw [if_neg (by omega), if_neg (by omega), if_pos (by omega)] at h | rw [if_neg (by omega), if_neg (by omega), if_neg (by omega)] at h); obtain ⟨rfl, rfl⟩ := Prod.mk.inj h; first | rfl | (refine congrArg (fun x => Ending.returned (.tuple #[.agg #[.int .i64 p.l, .int .i64 x], .int .i64 0])) ?_; show _ = (if p.c < 0 then 0 else if c ≤ p.c then c - 1 else p.c); split <;> (try split) <;> omega)), hH25.new⟩
set_option linter.unusedSimpArgs false in
set_option maxRecDepth 100000 in
set_option maxHeartbeats 1600000 in
theorem RClamp_c (p : Pl) (f n c : Int) (q : Pl) (er : Int) (h : clampP p f n c = (q, er)) (w : World) : Calls Tryd.prog 15 #[.agg #[.int .i64 p.l, .int .i64 p.c], .int .i64 f, .int .i64 n, .int .i64 c] w fun e w' => e = .returned (.tuple #[q.v, .int .i64 er]) ∧ New w w' := by
  refine calls_args (vl := [Value.agg #[Value.int .i64 p.l, Value.int .i64 p.c], Value.int .i64 f, Value.int .i64 n, Value.int .i64 c]) 54 Tryd.func15 rfl Tryd.ntmps15 (by kernel_rfl) (fun a he => ?_)
  have he0 : Env 54 [(0, Value.agg #[Value.int .i64 p.l, Value.int .i64 p.c]), (1, Value.int .i64 f), (2, Value.int .i64 n), (3, Value.int .i64 c)] a := he
  clear he
  have hH := Hp.start w
  refine wp_seq ?_
  refine wp_region_lit ?_
  refine lNewP (fun p => .pointer (some ⟨p, 0, none⟩)) he0 hH rfl rfl (wanted_plain rfl _) (rn_boxZ rfl (he0.op rfl) w) ?_
  intro p1 w1 a2 hp hn hH1 he2
  clear he0 a hH hn hp
  refine lNewP (fun p => .pointer (some ⟨p, 0, none⟩)) he2 hH1 rfl rfl (wanted_plain rfl _) (rn_allocZ rfl w1) ?_
  intro p3 w3 a4 hp hn hH3 he4
  clear he2 a2 hH1 hn hp
  refine lV (Value.int .i64 0) he4 rfl rfl (wanted_plain rfl _) (rn_asg rfl (he4.op rfl) w3) ?_
  intro a5 he5
  clear he4 a4
  refine wpList_nil ?_
  refine then_ok ?_
  refine wp_seq ?_
  refine wp_seq ?_
  refine wp_region_lit ?_
  refine lV (Value.int .i64 f) he5 rfl rfl (wanted_plain rfl _) (rn_mv rfl (he5.op rfl) w3) ?_
  intro a6 he6
  clear he5 a5
  by_cases hb0 : f < 0
  · skip
    refine lV (Value.bool true) he6 rfl rfl (wanted_plain rfl _) (rn_lsI rfl (he6.op rfl) (he6.op rfl) (decide_eq_true hb0) w3) ?_
    intro a7 he7
    clear he6 a6
    refine lV (Value.bool true) he7 rfl rfl (wanted_plain rfl _) (rn_mv rfl (he7.op rfl) w3) ?_
    intro a8 he8
    clear he7 a7
    refine lSkip he8 rfl rfl (he8.wantNot rfl rfl rfl rfl rfl rfl) ?_
    intro a9 he9
    clear he8 a8
    refine lSkip he9 rfl rfl (he9.wantNot rfl rfl rfl rfl rfl rfl) ?_
    intro a10 he10
    clear he9 a9
    refine lSkip he10 rfl rfl (he10.wantNot rfl rfl rfl rfl rfl rfl) ?_
    intro a11 he11
    clear he10 a10
    refine lV (Value.bool true) he11 rfl rfl (wanted_plain rfl _) (rn_pk rfl (he11.op rfl) (he11.op rfl) w3) ?_
    intro a12 he12
    clear he11 a11
    refine lV (Value.bool true) he12 rfl rfl (wanted_plain rfl _) (rn_mv rfl (he12.op rfl) w3) ?_
    intro a13 he13
    clear he12 a12
    refine lSkip he13 rfl rfl (he13.wantNot rfl rfl rfl rfl rfl rfl) ?_
    intro a14 he14
    clear he13 a13
    refine lSkip he14 rfl rfl (he14.wantNot rfl rfl rfl rfl rfl rfl) ?_
    intro a15 he15
    clear he14 a14
    refine lV (Value.bool true) he15 rfl rfl (wanted_plain rfl _) (rn_pk rfl (he15.op rfl) (he15.op rfl) w3) ?_
    intro a16 he16
    clear he15 a15
    refine lV (Value.bool true) he16 rfl rfl (wanted_plain rfl _) (rn_mv rfl (he16.op rfl) w3) ?_
    intro a17 he17
    clear he16 a16
    refine lSkip he17 rfl rfl (he17.wantNot rfl rfl rfl rfl rfl rfl) ?_
    intro a18 he18
    clear he17 a17
    refine lSkip he18 rfl rfl (he18.wantNot rfl rfl rfl rfl rfl rfl) ?_
    intro a19 he19
    clear he18 a18
    refine lSkip he19 rfl rfl (he19.wantNot rfl rfl rfl rfl rfl rfl) ?_
    intro a20 he20
    clear he19 a19
    refine lV (Value.bool true) he20 rfl rfl (wanted_plain rfl _) (rn_pk rfl (he20.op rfl) (he20.op rfl) w3) ?_
    intro a21 he21
    clear he20 a20
    refine wpList_nil ?_
    refine then_ok ?_
    refine wp_cond_true (he21.op rfl) ?_
    refine wp_seq ?_
    refine wp_region_lit ?_
    refine lV (Value.agg #[Value.int .i64 0, Value.int .i64 0]) he21 rfl rfl (wanted_plain rfl _) (rn_bZ rfl  w3) ?_
    intro a22 he22
    clear he21 a21
    refine lSetF 0 #[Value.int .i64 0, Value.int .i64 0] (cs := #[Value.int .i64 0, Value.int .i64 0]) he22 hH3 rfl (wanted_plain rfl _) rfl rfl rfl rfl rfl (by kernel_rfl) (by kernel_rfl) (by kernel_rfl) rfl ?_
    intro w23 a24 hH23 hf he24
    replace hH23 : Hp w [⟨p3, 23, #[Value.int .i64 0, Value.int .i64 0]⟩, ⟨p1, 23, #[Value.int .i64 p.l, Value.int .i64 p.c]⟩] w23 := hH23
    clear hf
    clear he22 a22 hH3
    refine lV (Value.int .i64 2) he24 rfl rfl (wanted_plain rfl _) (rn_asg rfl (he24.op rfl) w23) ?_
    intro a25 he25
    clear he24 a24
    refine wpList_nil ?_
    refine then_ok ?_
    refine wp_ret ?_
    try simp only [Exit.then, Exit.inBlock, Exit.noGoto]
    exact ret_rowt rfl he25 rfl rfl (hH23.at (i := 0) rfl) undZ rfl infoZ2 ⟨by first | (exfalso; omega) | ((unfold clampP argC at h; first | rw [if_pos (by omega)] at h | rw [if_neg (by omega), if_pos (by omega)] at h | rw [if_neg (by omega), if_neg (by omega), if_pos (by omega)] at h | rw [if_neg (by omega), if_neg (by omega), if_neg (by omega)] at h); obtain ⟨rfl, rfl⟩ := Prod.mk.inj h; first | rfl | (refine congrArg (fun x => Ending.returned (.tuple #[.agg #[.int .i64 p.l, .int .i64 x], .int .i64 0])) ?_; show _ = (if p.c < 0 then 0 else if c ≤ p.c then c - 1 else p.c); split <;> (try split) <;> omega)), hH23.new⟩
  · skip
    refine lV (Value.bool false) he6 rfl rfl (wanted_plain rfl _) (rn_lsI rfl (he6.op rfl) (he6.op rfl) (decide_eq_false hb0) w3) ?_
    intro a7 he7
    clear he6 a6
    refine lV (Value.bool false) he7 rfl rfl (wanted_plain rfl _) (rn_mv rfl (he7.op rfl) w3) ?_
    intro a8 he8
    clear he7 a7
    refine lV (Value.int .i64 n) he8 rfl rfl (he8.want rfl rfl rfl rfl rfl) (rn_mv rfl (he8.op rfl) w3) ?_
    intro a9 he9
    clear he8 a8
    refine lV (Value.int .i64 f) he9 rfl rfl (he9.want rfl rfl rfl rfl rfl) (rn_mv rfl (he9.op rfl) w3) ?_
    intro a10 he10
    clear he9 a9
    by_cases hb1 : n ≤ f
    · skip
      refine lV (Value.bool true) he10 rfl rfl (he10.want rfl rfl rfl rfl rfl) (rn_leI rfl (he10.op rfl) (he10.op rfl) (decide_eq_true hb1) w3) ?_
      intro a11 he11
      clear he10 a10
      refine lV (Value.bool true) he11 rfl rfl (wanted_plain rfl _) (rn_pk0 rfl (he11.op rfl) (he11.op rfl) w3) ?_
      intro a12 he12
      clear he11 a11
      refine lV (Value.bool true) he12 rfl rfl (wanted_plain rfl _) (rn_mv rfl (he12.op rfl) w3) ?_
      intro a13 he13
      clear he12 a12
      refine lSkip he13 rfl rfl (he13.wantNot rfl rfl rfl rfl rfl rfl) ?_
      intro a14 he14
      clear he13 a13
      refine lSkip he14 rfl rfl (he14.wantNot rfl rfl rfl rfl rfl rfl) ?_
      intro a15 he15
      clear he14 a14
      refine lV (Value.bool true) he15 rfl rfl (wanted_plain rfl _) (rn_pk rfl (he15.op rfl) (he15.op rfl) w3) ?_
      intro a16 he16
      clear he15 a15
      refine lV (Value.bool true) he16 rfl rfl (wanted_plain rfl _) (rn_mv rfl (he16.op rfl) w3) ?_
      intro a17 he17
      clear he16 a16
      refine lSkip he17 rfl rfl (he17.wantNot rfl rfl rfl rfl rfl rfl) ?_
      intro a18 he18
      clear he17 a17
      refine lSkip he18 rfl rfl (he18.wantNot rfl rfl rfl rfl rfl rfl) ?_
      intro a19 he19
      clear he18 a18
      refine lSkip he19 rfl rfl (he19.wantNot rfl rfl rfl rfl rfl rfl) ?_
      intro a20 he20
      clear he19 a19
      refine lV (Value.bool true) he20 rfl rfl (wanted_plain rfl _) (rn_pk rfl (he20.op rfl) (he20.op rfl) w3) ?_
      intro a21 he21
      clear he20 a20
      refine wpList_nil ?_
      refine then_ok ?_
      refine wp_cond_true (he21.op rfl) ?_
      refine wp_seq ?_
      refine wp_region_lit ?_
      refine lV (Value.agg #[Value.int .i64 0, Value.int .i64 0]) he21 rfl rfl (wanted_plain rfl _) (rn_bZ rfl  w3) ?_
      intro a22 he22
      clear he21 a21
      refine lSetF 0 #[Value.int .i64 0, Value.int .i64 0] (cs := #[Value.int .i64 0, Value.int .i64 0]) he22 hH3 rfl (wanted_plain rfl _) rfl rfl rfl rfl rfl (by kernel_rfl) (by kernel_rfl) (by kernel_rfl) rfl ?_
      intro w23 a24 hH23 hf he24
      replace hH23 : Hp w [⟨p3, 23, #[Value.int .i64 0, Value.int .i64 0]⟩, ⟨p1, 23, #[Value.int .i64 p.l, Value.int .i64 p.c]⟩] w23 := hH23
      clear hf
      clear he22 a22 hH3
      refine lV (Value.int .i64 2) he24 rfl rfl (wanted_plain rfl _) (rn_asg rfl (he24.op rfl) w23) ?_
      intro a25 he25
      clear he24 a24
      refine wpList_nil ?_
      refine then_ok ?_
      refine wp_ret ?_
      try simp only [Exit.then, Exit.inBlock, Exit.noGoto]
      exact ret_rowt rfl he25 rfl rfl (hH23.at (i := 0) rfl) undZ rfl infoZ2 ⟨by first | (exfalso; omega) | ((unfold clampP argC at h; first | rw [if_pos (by omega)] at h | rw [if_neg (by omega), if_pos (by omega)] at h | rw [if_neg (by omega), if_neg (by omega), if_pos (by omega)] at h | rw [if_neg (by omega), if_neg (by omega), if_neg (by omega)] at h); obtain ⟨rfl, rfl⟩ := Prod.mk.inj h; first | rfl | (refine congrArg (fun x => Ending.returned (.tuple #[.agg #[.int .i64 p.l, .int .i64 x], .int .i64 0])) ?_; show _ = (if p.c < 0 then 0 else if c ≤ p.c then c - 1 else p.c); split <;> (try split) <;> omega)), hH23.new⟩
    · skip
      refine lV (Value.bool false) he10 rfl rfl (he10.want rfl rfl rfl rfl rfl) (rn_leI rfl (he10.op rfl) (he10.op rfl) (decide_eq_false hb1) w3) ?_
      intro a11 he11
      clear he10 a10
      refine lV (Value.bool false) he11 rfl rfl (wanted_plain rfl _) (rn_pk0 rfl (he11.op rfl) (he11.op rfl) w3) ?_
      intro a12 he12
      clear he11 a11
      refine lV (Value.bool false) he12 rfl rfl (wanted_plain rfl _) (rn_mv rfl (he12.op rfl) w3) ?_
      intro a13 he13
      clear he12 a12
      refine lV (Value.int .i64 n) he13 rfl rfl (he13.want rfl rfl rfl rfl rfl) (rn_mv rfl (he13.op rfl) w3) ?_
      intro a14 he14
      clear he13 a13
      by_cases hb2 : 1099511627777 < n
      · skip
        refine lV (Value.bool true) he14 rfl rfl (he14.want rfl rfl rfl rfl rfl) (rn_gtI rfl (he14.op rfl) (he14.op rfl) (decide_eq_true hb2) w3) ?_
        intro a15 he15
        clear he14 a14
        refine lV (Value.bool true) he15 rfl rfl (wanted_plain rfl _) (rn_pk0 rfl (he15.op rfl) (he15.op rfl) w3) ?_
        intro a16 he16
        clear he15 a15
        refine lV (Value.bool true) he16 rfl rfl (wanted_plain rfl _) (rn_mv rfl (he16.op rfl) w3) ?_
        intro a17 he17
        clear he16 a16
        refine lSkip he17 rfl rfl (he17.wantNot rfl rfl rfl rfl rfl rfl) ?_
        intro a18 he18
        clear he17 a17
        refine lSkip he18 rfl rfl (he18.wantNot rfl rfl rfl rfl rfl rfl) ?_
        intro a19 he19
        clear he18 a18
        refine lSkip he19 rfl rfl (he19.wantNot rfl rfl rfl rfl rfl rfl) ?_
        intro a20 he20
        clear he19 a19
        refine lV (Value.bool true) he20 rfl rfl (wanted_plain rfl _) (rn_pk rfl (he20.op rfl) (he20.op rfl) w3) ?_
        intro a21 he21
        clear he20 a20
        refine wpList_nil ?_
        refine then_ok ?_
        refine wp_cond_true (he21.op rfl) ?_
        refine wp_seq ?_
        refine wp_region_lit ?_
        refine lV (Value.agg #[Value.int .i64 0, Value.int .i64 0]) he21 rfl rfl (wanted_plain rfl _) (rn_bZ rfl  w3) ?_
        intro a22 he22
        clear he21 a21
        refine lSetF 0 #[Value.int .i64 0, Value.int .i64 0] (cs := #[Value.int .i64 0, Value.int .i64 0]) he22 hH3 rfl (wanted_plain rfl _) rfl rfl rfl rfl rfl (by kernel_rfl) (by kernel_rfl) (by kernel_rfl) rfl ?_
        intro w23 a24 hH23 hf he24
        replace hH23 : Hp w [⟨p3, 23, #[Value.int .i64 0, Value.int .i64 0]⟩, ⟨p1, 23, #[Value.int .i64 p.l, Value.int .i64 p.c]⟩] w23 := hH23
        clear hf
        clear he22 a22 hH3
        refine lV (Value.int .i64 2) he24 rfl rfl (wanted_plain rfl _) (rn_asg rfl (he24.op rfl) w23) ?_
        intro a25 he25
        clear he24 a24
        refine wpList_nil ?_
        refine then_ok ?_
        refine wp_ret ?_
        try simp only [Exit.then, Exit.inBlock, Exit.noGoto]
        exact ret_rowt rfl he25 rfl rfl (hH23.at (i := 0) rfl) undZ rfl infoZ2 ⟨by first | (exfalso; omega) | ((unfold clampP argC at h; first | rw [if_pos (by omega)] at h | rw [if_neg (by omega), if_pos (by omega)] at h | rw [if_neg (by omega), if_neg (by omega), if_pos (by omega)] at h | rw [if_neg (by omega), if_neg (by omega), if_neg (by omega)] at h); obtain ⟨rfl, rfl⟩ := Prod.mk.inj h; first | rfl | (refine congrArg (fun x => Ending.returned (.tuple #[.agg #[.int .i64 p.l, .int .i64 x], .int .i64 0])) ?_; show _ = (if p.c < 0 then 0 else if c ≤ p.c then c - 1 else p.c); split <;> (try split) <;> omega)), hH23.new⟩
      · skip
        refine lV (Value.bool false) he14 rfl rfl (he14.want rfl rfl rfl rfl rfl) (rn_gtI rfl (he14.op rfl) (he14.op rfl) (decide_eq_false hb2) w3) ?_
        intro a15 he15
        clear he14 a14
        refine lV (Value.bool false) he15 rfl rfl (wanted_plain rfl _) (rn_pk0 rfl (he15.op rfl) (he15.op rfl) w3) ?_
        intro a16 he16
        clear he15 a15
        refine lV (Value.bool false) he16 rfl rfl (wanted_plain rfl _) (rn_mv rfl (he16.op rfl) w3) ?_
        intro a17 he17
        clear he16 a16
        refine lV (Value.int .i64 c) he17 rfl rfl (he17.want rfl rfl rfl rfl rfl) (rn_mv rfl (he17.op rfl) w3) ?_
        intro a18 he18
        clear he17 a17
        by_cases hb3 : colP c
        · skip
          refine lC he18 rfl rfl Tryd.func32 (by kernel_rfl) rfl rfl (he18.want rfl rfl rfl rfl rfl) rfl (RColumns_c c true (decide_eq_true hb3) w3) ?_
          intro w19 a20 hn he20
          have hH19 := hH3.call hn
          clear he18 a18 hH3 hn
          refine lV (Value.bool false) he20 rfl rfl (he20.want rfl rfl rfl rfl rfl) (rn_not (b := true) rfl (he20.op rfl) w19) ?_
          intro a21 he21
          clear he20 a20
          refine lV (Value.bool false) he21 rfl rfl (wanted_plain rfl _) (rn_pk0 rfl (he21.op rfl) (he21.op rfl) w19) ?_
          intro a22 he22
          clear he21 a21
          refine wpList_nil ?_
          refine then_ok ?_
          refine wp_cond_false (he22.op rfl) ?_
          refine wp_skip ?_
          refine then_ok ?_
          refine wp_seq ?_
          refine wp_seq ?_
          refine wp_region_lit ?_
          refine lV (Value.pointer (some ⟨p1, 0, none⟩)) he22 rfl rfl (wanted_plain rfl _) (rn_faZ0 rfl (he22.op rfl) rfl w19) ?_
          intro a23 he23
          clear he22 a22
          refine lV (Value.int .i64 p.l) he23 rfl rfl (wanted_plain rfl _) (rn_ld1 rfl (he23.op rfl) Tryd.underlying3 (hH19.at (i := 1) rfl) rfl) ?_
          intro a24 he24
          clear he23 a23
          refine lV (Value.int .i64 f) he24 rfl rfl (wanted_plain rfl _) (rn_mv rfl (he24.op rfl) w19) ?_
          intro a25 he25
          clear he24 a24
          by_cases hb4 : p.l < f
          · skip
            refine lV (Value.bool true) he25 rfl rfl (wanted_plain rfl _) (rn_lsI rfl (he25.op rfl) (he25.op rfl) (decide_eq_true hb4) w19) ?_
            intro a26 he26
            clear he25 a25
            refine wpList_nil ?_
            refine then_ok ?_
            refine wp_cond_true (he26.op rfl) ?_
            refine wp_seq ?_
            refine wp_region_lit ?_
            refine lV (Value.int .i64 f) he26 rfl rfl (wanted_plain rfl _) (rn_mv rfl (he26.op rfl) w19) ?_
            intro a27 he27
            clear he26 a26
            refine lV (Value.agg #[Value.int .i64 f, Value.int .i64 0]) he27 rfl rfl (wanted_plain rfl _) (rn_bZ01 rfl (he27.op rfl) (he27.op rfl) w19) ?_
            intro a28 he28
            clear he27 a27
            refine lSetF 0 #[Value.int .i64 f, Value.int .i64 0] (cs := #[Value.int .i64 f, Value.int .i64 0]) he28 hH19 rfl (wanted_plain rfl _) rfl rfl rfl rfl rfl (by kernel_rfl) (by kernel_rfl) (by kernel_rfl) rfl ?_
            intro w29 a30 hH29 hf he30
            replace hH29 : Hp w [⟨p3, 23, #[Value.int .i64 f, Value.int .i64 0]⟩, ⟨p1, 23, #[Value.int .i64 p.l, Value.int .i64 p.c]⟩] w29 := hH29
            clear hf
            clear he28 a28 hH19
            refine lV (Value.int .i64 0) he30 rfl rfl (wanted_plain rfl _) (rn_asg rfl (he30.op rfl) w29) ?_
            intro a31 he31
            clear he30 a30
            refine wpList_nil ?_
            refine then_ok ?_
            refine wp_ret ?_
            try simp only [Exit.then, Exit.inBlock, Exit.noGoto]
            exact ret_rowt rfl he31 rfl rfl (hH29.at (i := 0) rfl) undZ rfl infoZ2 ⟨by first | (exfalso; omega) | ((unfold clampP argC at h; first | rw [if_pos (by omega)] at h | rw [if_neg (by omega), if_pos (by omega)] at h | rw [if_neg (by omega), if_neg (by omega), if_pos (by omega)] at h | rw [if_neg (by omega), if_neg (by omega), if_neg (by omega)] at h); obtain ⟨rfl, rfl⟩ := Prod.mk.inj h; first | rfl | (refine congrArg (fun x => Ending.returned (.tuple #[.agg #[.int .i64 p.l, .int .i64 x], .int .i64 0])) ?_; show _ = (if p.c < 0 then 0 else if c ≤ p.c then c - 1 else p.c); split <;> (try split) <;> omega)), hH29.new⟩
          · skip
            refine lV (Value.bool false) he25 rfl rfl (wanted_plain rfl _) (rn_lsI rfl (he25.op rfl) (he25.op rfl) (decide_eq_false hb4) w19) ?_
            intro a26 he26
            clear he25 a25
            refine wpList_nil ?_
            refine then_ok ?_
            refine wp_cond_false (he26.op rfl) ?_
            refine wp_skip ?_
            refine then_ok ?_
            refine wp_seq ?_
            refine wp_seq ?_
            refine wp_region_lit ?_
            refine lV (Value.pointer (some ⟨p1, 0, none⟩)) he26 rfl rfl (wanted_plain rfl _) (rn_faZ0 rfl (he26.op rfl) rfl w19) ?_
            intro a27 he27
            clear he26 a26
            refine lV (Value.int .i64 p.l) he27 rfl rfl (wanted_plain rfl _) (rn_ld1 rfl (he27.op rfl) Tryd.underlying3 (hH19.at (i := 1) rfl) rfl) ?_
            intro a28 he28
            clear he27 a27
            refine lV (Value.int .i64 n) he28 rfl rfl (wanted_plain rfl _) (rn_mv rfl (he28.op rfl) w19) ?_
            intro a29 he29
            clear he28 a28
            by_cases hb5 : n ≤ p.l
            · skip
              refine lV (Value.bool true) he29 rfl rfl (wanted_plain rfl _) (rn_geI rfl (he29.op rfl) (he29.op rfl) (decide_eq_true hb5) w19) ?_
              intro a30 he30
              clear he29 a29
              refine wpList_nil ?_
              refine then_ok ?_
              refine wp_cond_true (he30.op rfl) ?_
              refine wp_seq ?_
              refine wp_region_lit ?_
              refine lV (Value.int .i64 n) he30 rfl rfl (wanted_plain rfl _) (rn_mv rfl (he30.op rfl) w19) ?_
              intro a31 he31
              clear he30 a30
              refine lV (Value.int .i64 (n - 1)) he31 rfl rfl (wanted_plain rfl _) (rn_subI rfl (he31.op rfl) (he31.op rfl) (i64w (by omega) (by omega)) w19) ?_
              intro a32 he32
              clear he31 a31
              refine lV (Value.int .i64 c) he32 rfl rfl (wanted_plain rfl _) (rn_mv rfl (he32.op rfl) w19) ?_
              intro a33 he33
              clear he32 a32
              refine lV (Value.int .i64 (c - 1)) he33 rfl rfl (wanted_plain rfl _) (rn_subI rfl (he33.op rfl) (he33.op rfl) (i64w (by omega) (by omega)) w19) ?_
              intro a34 he34
              clear he33 a33
              refine lV (Value.agg #[Value.int .i64 (n - 1), Value.int .i64 (c - 1)]) he34 rfl rfl (wanted_plain rfl _) (rn_bZ01 rfl (he34.op rfl) (he34.op rfl) w19) ?_
              intro a35 he35
              clear he34 a34
              refine lSetF 0 #[Value.int .i64 (n - 1), Value.int .i64 (c - 1)] (cs := #[Value.int .i64 (n - 1), Value.int .i64 (c - 1)]) he35 hH19 rfl (wanted_plain rfl _) rfl rfl rfl rfl rfl (by kernel_rfl) (by kernel_rfl) (by kernel_rfl) rfl ?_
              intro w36 a37 hH36 hf he37
              replace hH36 : Hp w [⟨p3, 23, #[Value.int .i64 (n - 1), Value.int .i64 (c - 1)]⟩, ⟨p1, 23, #[Value.int .i64 p.l, Value.int .i64 p.c]⟩] w36 := hH36
              clear hf
              clear he35 a35 hH19
              refine lV (Value.int .i64 0) he37 rfl rfl (wanted_plain rfl _) (rn_asg rfl (he37.op rfl) w36) ?_
              intro a38 he38
              clear he37 a37
              refine wpList_nil ?_
              refine then_ok ?_
              refine wp_ret ?_
              try simp only [Exit.then, Exit.inBlock, Exit.noGoto]
              exact ret_rowt rfl he38 rfl rfl (hH36.at (i := 0) rfl) undZ rfl infoZ2 ⟨by first | (exfalso; omega) | ((unfold clampP argC at h; first | rw [if_pos (by omega)] at h | rw [if_neg (by omega), if_pos (by omega)] at h | rw [if_neg (by omega), if_neg (by omega), if_pos (by omega)] at h | rw [if_neg (by omega), if_neg (by omega), if_neg (by omega)] at h); obtain ⟨rfl, rfl⟩ := Prod.mk.inj h; first | rfl | (refine congrArg (fun x => Ending.returned (.tuple #[.agg #[.int .i64 p.l, .int .i64 x], .int .i64 0])) ?_; show _ = (if p.c < 0 then 0 else if c ≤ p.c then c - 1 else p.c); split <;> (try split) <;> omega)), hH36.new⟩
            · skip
              refine lV (Value.bool false) he29 rfl rfl (wanted_plain rfl _) (rn_geI rfl (he29.op rfl) (he29.op rfl) (decide_eq_false hb5) w19) ?_
              intro a30 he30
              clear he29 a29
              refine wpList_nil ?_
              refine then_ok ?_
              refine wp_cond_false (he30.op rfl) ?_
              refine wp_skip ?_
              refine then_ok ?_
              refine wp_seq ?_
              refine wp_seq ?_
              refine wp_region_lit ?_
              refine lV (Value.pointer (some ⟨p1, 1, none⟩)) he30 rfl rfl (wanted_plain rfl _) (rn_faZ1 rfl (he30.op rfl) rfl w19) ?_
              intro a31 he31
              clear he30 a30
              refine lV (Value.int .i64 p.c) he31 rfl rfl (wanted_plain rfl _) (rn_ld1 rfl (he31.op rfl) Tryd.underlying3 (hH19.at (i := 1) rfl) rfl) ?_
              intro a32 he32
              clear he31 a31
              by_cases hb6 : p.c < 0
              · skip
                refine lV (Value.bool true) he32 rfl rfl (wanted_plain rfl _) (rn_lsI rfl (he32.op rfl) (he32.op rfl) (decide_eq_true hb6) w19) ?_
                intro a33 he33
                clear he32 a32
                refine wpList_nil ?_
                refine then_ok ?_
                refine wp_cond_true (he33.op rfl) ?_
                refine wp_region_lit ?_
                refine lV (Value.pointer (some ⟨p1, 1, none⟩)) he33 rfl rfl (wanted_plain rfl _) (rn_faZ1 rfl (he33.op rfl) rfl w19) ?_
                intro a34 he34
                clear he33 a33
                refine lSetF 1 #[Value.int .i64 0] (cs := #[Value.int .i64 p.l, Value.int .i64 0]) he34 hH19 rfl (wanted_plain rfl _) rfl rfl rfl rfl rfl (by kernel_rfl) (by kernel_rfl) (by kernel_rfl) rfl ?_
                intro w35 a36 hH35 hf he36
                replace hH35 : Hp w [⟨p3, 23, #[Value.int .i64 0, Value.int .i64 0]⟩, ⟨p1, 23, #[Value.int .i64 p.l, Value.int .i64 0]⟩] w35 := hH35
                clear hf
                clear he34 a34 hH19
                refine wpList_nil ?_
                refine then_ok ?_
                refine wp_seq ?_
                refine wp_seq ?_
                refine wp_region_lit ?_
                refine lV (Value.pointer (some ⟨p1, 1, none⟩)) he36 rfl rfl (wanted_plain rfl _) (rn_faZ1 rfl (he36.op rfl) rfl w35) ?_
                intro a37 he37
                clear he36 a36
                refine lV (Value.int .i64 0) he37 rfl rfl (wanted_plain rfl _) (rn_ld1 rfl (he37.op rfl) Tryd.underlying3 (hH35.at (i := 1) rfl) rfl) ?_
                intro a38 he38
                clear he37 a37
                refine lV (Value.int .i64 c) he38 rfl rfl (wanted_plain rfl _) (rn_mv rfl (he38.op rfl) w35) ?_
                intro a39 he39
                clear he38 a38
                by_cases hb7 : c ≤ 0
                · skip
                  refine lV (Value.bool true) he39 rfl rfl (wanted_plain rfl _) (rn_geI rfl (he39.op rfl) (he39.op rfl) (decide_eq_true hb7) w35) ?_
                  intro a40 he40
                  clear he39 a39
                  refine wpList_nil ?_
                  refine then_ok ?_
                  refine wp_cond_true (he40.op rfl) ?_
                  refine wp_region_lit ?_
                  refine lV (Value.int .i64 c) he40 rfl rfl (wanted_plain rfl _) (rn_mv rfl (he40.op rfl) w35) ?_
                  intro a41 he41
                  clear he40 a40
                  refine lV (Value.int .i64 (c - 1)) he41 rfl rfl (wanted_plain rfl _) (rn_subI rfl (he41.op rfl) (he41.op rfl) (i64w (by omega) (by omega)) w35) ?_
                  intro a42 he42
                  clear he41 a41
                  refine lV (Value.pointer (some ⟨p1, 1, none⟩)) he42 rfl rfl (wanted_plain rfl _) (rn_faZ1 rfl (he42.op rfl) rfl w35) ?_
                  intro a43 he43
                  clear he42 a42
                  refine lSetF 1 #[Value.int .i64 (c - 1)] (cs := #[Value.int .i64 p.l, Value.int .i64 (c - 1)]) he43 hH35 rfl (wanted_plain rfl _) rfl rfl rfl rfl rfl (by kernel_rfl) (by kernel_rfl) (by kernel_rfl) rfl ?_
                  intro w44 a45 hH44 hf he45
                  replace hH44 : Hp w [⟨p3, 23, #[Value.int .i64 0, Value.int .i64 0]⟩, ⟨p1, 23, #[Value.int .i64 p.l, Value.int .i64 (c - 1)]⟩] w44 := hH44
                  clear hf
                  clear he43 a43 hH35
                  refine wpList_nil ?_
                  refine then_ok ?_
                  refine wp_seq ?_
                  refine wp_region_lit ?_
                  refine lV (Value.agg #[Value.int .i64 p.l, Value.int .i64 (c - 1)]) he45 rfl rfl (wanted_plain rfl _) (rn_ldp [Value.int .i64 p.l, Value.int .i64 (c - 1)] rfl (he45.op rfl) undZ rfl infoZ2 (hH44.at (i := 1) rfl) rfl) ?_
                  intro a46 he46
                  clear he45 a45
                  refine lSetF 0 #[Value.int .i64 p.l, Value.int .i64 (c - 1)] (cs := #[Value.int .i64 p.l, Value.int .i64 (c - 1)]) he46 hH44 rfl (wanted_plain rfl _) rfl rfl rfl rfl rfl (by kernel_rfl) (by kernel_rfl) (by kernel_rfl) rfl ?_
                  intro w47 a48 hH47 hf he48
                  replace hH47 : Hp w [⟨p3, 23, #[Value.int .i64 p.l, Value.int .i64 (c - 1)]⟩, ⟨p1, 23, #[Value.int .i64 p.l, Value.int .i64 (c - 1)]⟩] w47 := hH47
                  clear hf
                  clear he46 a46 hH44
                  refine lV (Value.int .i64 0) he48 rfl rfl (wanted_plain rfl _) (rn_asg rfl (he48.op rfl) w47) ?_
                  intro a49 he49
                  clear he48 a48
                  refine wpList_nil ?_
                  refine then_ok ?_
                  refine wp_ret ?_
                  try simp only [Exit.then, Exit.inBlock, Exit.noGoto]
                  exact ret_rowt rfl he49 rfl rfl (hH47.at (i := 0) rfl) undZ rfl infoZ2 ⟨by first | (exfalso; omega) | ((unfold clampP argC at h; first | rw [if_pos (by omega)] at h | rw [if_neg (by omega), if_pos (by omega)] at h | rw [if_neg (by omega), if_neg (by omega), if_pos (by omega)] at h | rw [if_neg (by omega), if_neg (by omega), if_neg (by omega)] at h); obtain ⟨rfl, rfl⟩ := Prod.mk.inj h; first | rfl | (refine congrArg (fun x => Ending.returned (.tuple #[.agg #[.int .i64 p.l, .int .i64 x], .int .i64 0])) ?_; show _ = (if p.c < 0 then 0 else if c ≤ p.c then c - 1 else p.c); split <;> (try split) <;> omega)), hH47.new⟩
                · skip
                  refine lV (Value.bool false) he39 rfl rfl (wanted_plain rfl _) (rn_geI rfl (he39.op rfl) (he39.op rfl) (decide_eq_false hb7) w35) ?_
                  intro a40 he40
                  clear he39 a39
                  refine wpList_nil ?_
                  refine then_ok ?_
                  refine wp_cond_false (he40.op rfl) ?_
                  refine wp_skip ?_
                  refine then_ok ?_
                  refine wp_seq ?_
                  refine wp_region_lit ?_
                  refine lV (Value.agg #[Value.int .i64 p.l, Value.int .i64 0]) he40 rfl rfl (wanted_plain rfl _) (rn_ldp [Value.int .i64 p.l, Value.int .i64 0] rfl (he40.op rfl) undZ rfl infoZ2 (hH35.at (i := 1) rfl) rfl) ?_
                  intro a41 he41
                  clear he40 a40
                  refine lSetF 0 #[Value.int .i64 p.l, Value.int .i64 0] (cs := #[Value.int .i64 p.l, Value.int .i64 0]) he41 hH35 rfl (wanted_plain rfl _) rfl rfl rfl rfl rfl (by kernel_rfl) (by kernel_rfl) (by kernel_rfl) rfl ?_
                  intro w42 a43 hH42 hf he43
                  replace hH42 : Hp w [⟨p3, 23, #[Value.int .i64 p.l, Value.int .i64 0]⟩, ⟨p1, 23, #[Value.int .i64 p.l, Value.int .i64 0]⟩] w42 := hH42
                  clear hf
                  clear he41 a41 hH35
                  refine lV (Value.int .i64 0) he43 rfl rfl (wanted_plain rfl _) (rn_asg rfl (he43.op rfl) w42) ?_
                  intro a44 he44
                  clear he43 a43
                  refine wpList_nil ?_
                  refine then_ok ?_
                  refine wp_ret ?_
                  try simp only [Exit.then, Exit.inBlock, Exit.noGoto]
                  exact ret_rowt rfl he44 rfl rfl (hH42.at (i := 0) rfl) undZ rfl infoZ2 ⟨by first | (exfalso; omega) | ((unfold clampP argC at h; first | rw [if_pos (by omega)] at h | rw [if_neg (by omega), if_pos (by omega)] at h | rw [if_neg (by omega), if_neg (by omega), if_pos (by omega)] at h | rw [if_neg (by omega), if_neg (by omega), if_neg (by omega)] at h); obtain ⟨rfl, rfl⟩ := Prod.mk.inj h; first | rfl | (refine congrArg (fun x => Ending.returned (.tuple #[.agg #[.int .i64 p.l, .int .i64 x], .int .i64 0])) ?_; show _ = (if p.c < 0 then 0 else if c ≤ p.c then c - 1 else p.c); split <;> (try split) <;> omega)), hH42.new⟩
              · skip
                refine lV (Value.bool false) he32 rfl rfl (wanted_plain rfl _) (rn_lsI rfl (he32.op rfl) (he32.op rfl) (decide_eq_false hb6) w19) ?_
                intro a33 he33
                clear he32 a32
                refine wpList_nil ?_
                refine then_ok ?_
                refine wp_cond_false (he33.op rfl) ?_
                refine wp_skip ?_
                refine then_ok ?_
                refine wp_seq ?_
                refine wp_seq ?_
                refine wp_region_lit ?_
                refine lV (Value.pointer (some ⟨p1, 1, none⟩)) he33 rfl rfl (wanted_plain rfl _) (rn_faZ1 rfl (he33.op rfl) rfl w19) ?_
                intro a34 he34
                clear he33 a33
                refine lV (Value.int .i64 p.c) he34 rfl rfl (wanted_plain rfl _) (rn_ld1 rfl (he34.op rfl) Tryd.underlying3 (hH19.at (i := 1) rfl) rfl) ?_
                intro a35 he35
                clear he34 a34
                refine lV (Value.int .i64 c) he35 rfl rfl (wanted_plain rfl _) (rn_mv rfl (he35.op rfl) w19) ?_
                intro a36 he36
                clear he35 a35
                by_cases hb7 : c ≤ p.c
                · skip
                  refine lV (Value.bool true) he36 rfl rfl (wanted_plain rfl _) (rn_geI rfl (he36.op rfl) (he36.op rfl) (decide_eq_true hb7) w19) ?_
                  intro a37 he37
                  clear he36 a36
                  refine wpList_nil ?_
                  refine then_ok ?_
                  refine wp_cond_true (he37.op rfl) ?_
                  refine wp_region_lit ?_
                  refine lV (Value.int .i64 c) he37 rfl rfl (wanted_plain rfl _) (rn_mv rfl (he37.op rfl) w19) ?_
                  intro a38 he38
                  clear he37 a37
                  refine lV (Value.int .i64 (c - 1)) he38 rfl rfl (wanted_plain rfl _) (rn_subI rfl (he38.op rfl) (he38.op rfl) (i64w (by omega) (by omega)) w19) ?_
                  intro a39 he39
                  clear he38 a38
                  refine lV (Value.pointer (some ⟨p1, 1, none⟩)) he39 rfl rfl (wanted_plain rfl _) (rn_faZ1 rfl (he39.op rfl) rfl w19) ?_
                  intro a40 he40
                  clear he39 a39
                  refine lSetF 1 #[Value.int .i64 (c - 1)] (cs := #[Value.int .i64 p.l, Value.int .i64 (c - 1)]) he40 hH19 rfl (wanted_plain rfl _) rfl rfl rfl rfl rfl (by kernel_rfl) (by kernel_rfl) (by kernel_rfl) rfl ?_
                  intro w41 a42 hH41 hf he42
                  replace hH41 : Hp w [⟨p3, 23, #[Value.int .i64 0, Value.int .i64 0]⟩, ⟨p1, 23, #[Value.int .i64 p.l, Value.int .i64 (c - 1)]⟩] w41 := hH41
                  clear hf
                  clear he40 a40 hH19
                  refine wpList_nil ?_
                  refine then_ok ?_
                  refine wp_seq ?_
                  refine wp_region_lit ?_
                  refine lV (Value.agg #[Value.int .i64 p.l, Value.int .i64 (c - 1)]) he42 rfl rfl (wanted_plain rfl _) (rn_ldp [Value.int .i64 p.l, Value.int .i64 (c - 1)] rfl (he42.op rfl) undZ rfl infoZ2 (hH41.at (i := 1) rfl) rfl) ?_
                  intro a43 he43
                  clear he42 a42
                  refine lSetF 0 #[Value.int .i64 p.l, Value.int .i64 (c - 1)] (cs := #[Value.int .i64 p.l, Value.int .i64 (c - 1)]) he43 hH41 rfl (wanted_plain rfl _) rfl rfl rfl rfl rfl (by kernel_rfl) (by kernel_rfl) (by kernel_rfl) rfl ?_
                  intro w44 a45 hH44 hf he45
                  replace hH44 : Hp w [⟨p3, 23, #[Value.int .i64 p.l, Value.int .i64 (c - 1)]⟩, ⟨p1, 23, #[Value.int .i64 p.l, Value.int .i64 (c - 1)]⟩] w44 := hH44
                  clear hf
                  clear he43 a43 hH41
                  refine lV (Value.int .i64 0) he45 rfl rfl (wanted_plain rfl _) (rn_asg rfl (he45.op rfl) w44) ?_
                  intro a46 he46
                  clear he45 a45
                  refine wpList_nil ?_
                  refine then_ok ?_
                  refine wp_ret ?_
                  try simp only [Exit.then, Exit.inBlock, Exit.noGoto]
                  exact ret_rowt rfl he46 rfl rfl (hH44.at (i := 0) rfl) undZ rfl infoZ2 ⟨by first | (exfalso; omega) | ((unfold clampP argC at h; first | rw [if_pos (by omega)] at h | rw [if_neg (by omega), if_pos (by omega)] at h | rw [if_neg (by omega), if_neg (by omega), if_pos (by omega)] at h | rw [if_neg (by omega), if_neg (by omega), if_neg (by omega)] at h); obtain ⟨rfl, rfl⟩ := Prod.mk.inj h; first | rfl | (refine congrArg (fun x => Ending.returned (.tuple #[.agg #[.int .i64 p.l, .int .i64 x], .int .i64 0])) ?_; show _ = (if p.c < 0 then 0 else if c ≤ p.c then c - 1 else p.c); split <;> (try split) <;> omega)), hH44.new⟩
                · skip
                  refine lV (Value.bool false) he36 rfl rfl (wanted_plain rfl _) (rn_geI rfl (he36.op rfl) (he36.op rfl) (decide_eq_false hb7) w19) ?_
                  intro a37 he37
                  clear he36 a36
                  refine wpList_nil ?_
                  refine then_ok ?_
                  refine wp_cond_false (he37.op rfl) ?_
                  refine wp_skip ?_
                  refine then_ok ?_
                  refine wp_seq ?_
                  refine wp_region_lit ?_
                  refine lV (Value.agg #[Value.int .i64 p.l, Value.int .i64 p.c]) he37 rfl rfl (wanted_plain rfl _) (rn_ldp [Value.int .i64 p.l, Value.int .i64 p.c] rfl (he37.op rfl) undZ rfl infoZ2 (hH19.at (i := 1) rfl) rfl) ?_
                  intro a38 he38
                  clear he37 a37
                  refine lSetF 0 #[Value.int .i64 p.l, Value.int .i64 p.c] (cs := #[Value.int .i64 p.l, Value.int .i64 p.c]) he38 hH19 rfl (wanted_plain rfl _) rfl rfl rfl rfl rfl (by kernel_rfl) (by kernel_rfl) (by kernel_rfl) rfl ?_
                  intro w39 a40 hH39 hf he40
                  replace hH39 : Hp w [⟨p3, 23, #[Value.int .i64 p.l, Value.int .i64 p.c]⟩, ⟨p1, 23, #[Value.int .i64 p.l, Value.int .i64 p.c]⟩] w39 := hH39
                  clear hf
                  clear he38 a38 hH19
                  refine lV (Value.int .i64 0) he40 rfl rfl (wanted_plain rfl _) (rn_asg rfl (he40.op rfl) w39) ?_
                  intro a41 he41
                  clear he40 a40
                  refine wpList_nil ?_
                  refine then_ok ?_
                  refine wp_ret ?_
                  try simp only [Exit.then, Exit.inBlock, Exit.noGoto]
                  exact ret_rowt rfl he41 rfl rfl (hH39.at (i := 0) rfl) undZ rfl infoZ2 ⟨by first | (exfalso; omega) | ((unfold clampP argC at h; first | rw [if_pos (by omega)] at h | rw [if_neg (by omega), if_pos (by omega)] at h | rw [if_neg (by omega), if_neg (by omega), if_pos (by omega)] at h | rw [if_neg (by omega), if_neg (by omega), if_neg (by omega)] at h); obtain ⟨rfl, rfl⟩ := Prod.mk.inj h; first | rfl | (refine congrArg (fun x => Ending.returned (.tuple #[.agg #[.int .i64 p.l, .int .i64 x], .int .i64 0])) ?_; show _ = (if p.c < 0 then 0 else if c ≤ p.c then c - 1 else p.c); split <;> (try split) <;> omega)), hH39.new⟩
        · skip
          refine lC he18 rfl rfl Tryd.func32 (by kernel_rfl) rfl rfl (he18.want rfl rfl rfl rfl rfl) rfl (RColumns_c c false (decide_eq_false hb3) w3) ?_
          intro w19 a20 hn he20
          have hH19 := hH3.call hn
          clear he18 a18 hH3 hn
          refine lV (Value.bool true) he20 rfl rfl (he20.want rfl rfl rfl rfl rfl) (rn_not (b := false) rfl (he20.op rfl) w19) ?_
          intro a21 he21
          clear he20 a20
          refine lV (Value.bool true) he21 rfl rfl (wanted_plain rfl _) (rn_pk0 rfl (he21.op rfl) (he21.op rfl) w19) ?_
          intro a22 he22
          clear he21 a21
          refine wpList_nil ?_
          refine then_ok ?_
          refine wp_cond_true (he22.op rfl) ?_
          refine wp_seq ?_
          refine wp_region_lit ?_
          refine lV (Value.agg #[Value.int .i64 0, Value.int .i64 0]) he22 rfl rfl (wanted_plain rfl _) (rn_bZ rfl  w19) ?_
          intro a23 he23
          clear he22 a22
          refine lSetF 0 #[Value.int .i64 0, Value.int .i64 0] (cs := #[Value.int .i64 0, Value.int .i64 0]) he23 hH19 rfl (wanted_plain rfl _) rfl rfl rfl rfl rfl (by kernel_rfl) (by kernel_rfl) (by kernel_rfl) rfl ?_
          intro w24 a25 hH24 hf he25
          replace hH24 : Hp w [⟨p3, 23, #[Value.int .i64 0, Value.int .i64 0]⟩, ⟨p1, 23, #[Value.int .i64 p.l, Value.int .i64 p.c]⟩] w24 := hH24
          clear hf
          clear he23 a23 hH19
          refine lV (Value.int .i64 2) he25 rfl rfl (wanted_plain rfl _) (rn_asg rfl (he25.op rfl) w24) ?_
          intro a26 he26
          clear he25 a25
          refine wpList_nil ?_
          refine then_ok ?_
          refine wp_ret ?_
          try simp only [Exit.then, Exit.inBlock, Exit.noGoto]
          exact ret_rowt rfl he26 rfl rfl (hH24.at (i := 0) rfl) undZ rfl infoZ2 ⟨by first | (exfalso; omega) | ((unfold clampP argC at h; first | rw [if_pos (by omega)] at h | rw [if_neg (by omega), if_pos (by omega)] at h | rw [if_neg (by omega), if_neg (by omega), if_pos (by omega)] at h | rw [if_neg (by omega), if_neg (by omega), if_neg (by omega)] at h); obtain ⟨rfl, rfl⟩ := Prod.mk.inj h; first | rfl | (refine congrArg (fun x => Ending.returned (.tuple #[.agg #[.int .i64 p.l, .int .i64 x], .int .i64 0])) ?_; show _ = (if p.c < 0 then 0 else if c ≤ p.c then c - 1 else p.c); split <;> (try split) <;> omega)), hH24.new⟩
theorem mul_range {l c : Int} (h0 : 0 ≤ l) (h1 : l ≤ 1099511627776) (h2 : 1 ≤ c) (h3 : c ≤ 1000) : 0 ≤ l * c ∧ l * c ≤ 1099511627776000 :=
  ⟨Int.mul_nonneg h0 (by omega), by
    have h4 := Int.mul_le_mul h1 h3 (by omega) (by omega)
    omega⟩
set_option linter.unusedSimpArgs false in
set_option maxRecDepth 100000 in
set_option maxHeartbeats 1600000 in
theorem index_c (p : Pl) (c : Int) (hp : okP p) (hc : colP c) (w : World) : Calls Tryd.prog 35 #[.agg #[.int .i64 p.l, .int .i64 p.c], .int .i64 c] w fun e w' => e = .returned (.int .i64 (idxP p c)) ∧ New w w' := by
  obtain ⟨hm0, hm1⟩ := mul_range hp.1 hp.2.1 hc.1 hc.2
  refine calls_args (vl := [Value.agg #[Value.int .i64 p.l, Value.int .i64 p.c], Value.int .i64 c]) 12 Tryd.func35 rfl Tryd.ntmps35 (by kernel_rfl) (fun a he => ?_)
  have he0 : Env 12 [(0, Value.agg #[Value.int .i64 p.l, Value.int .i64 p.c]), (1, Value.int .i64 c)] a := he
  clear he
  have hH := Hp.start w
  refine wp_seq ?_
  refine wp_region_lit ?_
  refine lNewP (fun p => .pointer (some ⟨p, 0, none⟩)) he0 hH rfl rfl (wanted_plain rfl _) (rn_boxZ rfl (he0.op rfl) w) ?_
  intro p1 w1 a2 hp hn hH1 he2
  clear he0 a hH hn hp
  refine lV (Value.int .i64 0) he2 rfl rfl (wanted_plain rfl _) (rn_asg rfl (he2.op rfl) w1) ?_
  intro a3 he3
  clear he2 a2
  refine wpList_nil ?_
  refine then_ok ?_
  refine wp_seq ?_
  refine wp_region_lit ?_
  refine lV (Value.pointer (some ⟨p1, 0, none⟩)) he3 rfl rfl (wanted_plain rfl _) (rn_faZ0 rfl (he3.op rfl) rfl w1) ?_
  intro a4 he4
  clear he3 a3
  refine lV (Value.int .i64 p.l) he4 rfl rfl (wanted_plain rfl _) (rn_ld1 rfl (he4.op rfl) Tryd.underlying3 (hH1.at (i := 0) rfl) rfl) ?_
  intro a5 he5
  clear he4 a4
  refine lV (Value.int .i64 c) he5 rfl rfl (wanted_plain rfl _) (rn_mv rfl (he5.op rfl) w1) ?_
  intro a6 he6
  clear he5 a5
  refine lV (Value.int .i64 (p.l * c)) he6 rfl rfl (wanted_plain rfl _) (rn_mulI rfl (he6.op rfl) (he6.op rfl) (i64w (by omega) (by omega)) w1) ?_
  intro a7 he7
  clear he6 a6
  refine lV (Value.pointer (some ⟨p1, 1, none⟩)) he7 rfl rfl (wanted_plain rfl _) (rn_faZ1 rfl (he7.op rfl) rfl w1) ?_
  intro a8 he8
  clear he7 a7
  refine lV (Value.int .i64 p.c) he8 rfl rfl (wanted_plain rfl _) (rn_ld1 rfl (he8.op rfl) Tryd.underlying3 (hH1.at (i := 0) rfl) rfl) ?_
  intro a9 he9
  clear he8 a8
  refine lV (Value.int .i64 ((p.l * c) + p.c)) he9 rfl rfl (wanted_plain rfl _) (rn_addI rfl (he9.op rfl) (he9.op rfl) (i64w (by omega) (by omega)) w1) ?_
  intro a10 he10
  clear he9 a9
  refine lV (Value.int .i64 ((p.l * c) + p.c)) he10 rfl rfl (wanted_plain rfl _) (rn_asg rfl (he10.op rfl) w1) ?_
  intro a11 he11
  clear he10 a10
  refine wpList_nil ?_
  refine then_ok ?_
  refine wp_ret ?_
  try simp only [Exit.then, Exit.inBlock, Exit.noGoto]
  exact ret_env rfl he11 rfl ⟨by rfl, hH1.new⟩
set_option linter.unusedSimpArgs false in
set_option maxRecDepth 100000 in
set_option maxHeartbeats 1600000 in
theorem Step_c (p : Pl) (n c : Int) (hn : I64 n) (q : Pl) (er : Int) (h : stepP p n c = (q, er)) (w : World) : Calls Tryd.prog 26 #[.agg #[.int .i64 p.l, .int .i64 p.c], .int .i64 n, .int .i64 c] w fun e w' => e = .returned (.tuple #[q.v, .int .i64 er]) ∧ New w w' := by
  obtain ⟨hn0, hn1⟩ := hn
  refine calls_args (vl := [Value.agg #[Value.int .i64 p.l, Value.int .i64 p.c], Value.int .i64 n, Value.int .i64 c]) 50 Tryd.func26 rfl Tryd.ntmps26 (by kernel_rfl) (fun a he => ?_)
  have he0 : Env 50 [(0, Value.agg #[Value.int .i64 p.l, Value.int .i64 p.c]), (1, Value.int .i64 n), (2, Value.int .i64 c)] a := he
  clear he
  have hH := Hp.start w
  refine wp_seq ?_
  refine wp_region_lit ?_
  refine lNewP (fun p => .pointer (some ⟨p, 0, none⟩)) he0 hH rfl rfl (wanted_plain rfl _) (rn_boxZ rfl (he0.op rfl) w) ?_
  intro p1 w1 a2 hp hn hH1 he2
  clear he0 a hH hn hp
  refine lNewP (fun p => .pointer (some ⟨p, 0, none⟩)) he2 hH1 rfl rfl (wanted_plain rfl _) (rn_allocZ rfl w1) ?_
  intro p3 w3 a4 hp hn hH3 he4
  clear he2 a2 hH1 hn hp
  refine lV (Value.int .i64 0) he4 rfl rfl (wanted_plain rfl _) (rn_asg rfl (he4.op rfl) w3) ?_
  intro a5 he5
  clear he4 a4
  refine wpList_nil ?_
  refine then_ok ?_
  refine wp_seq ?_
  refine wp_seq ?_
  refine wp_region_lit ?_
  refine lV (Value.int .i64 c) he5 rfl rfl (wanted_plain rfl _) (rn_mv rfl (he5.op rfl) w3) ?_
  intro a6 he6
  clear he5 a5
  by_cases hb0 : colP c
  · skip
    refine lC he6 rfl rfl Tryd.func33 (by kernel_rfl) rfl rfl (wanted_plain rfl _) rfl (allowed_c c true (decide_eq_true hb0) w3) ?_
    intro w7 a8 hn he8
    have hH7 := hH3.call hn
    clear he6 a6 hH3 hn
    refine lV (Value.bool false) he8 rfl rfl (wanted_plain rfl _) (rn_not (b := true) rfl (he8.op rfl) w7) ?_
    intro a9 he9
    clear he8 a8
    refine lV (Value.bool false) he9 rfl rfl (wanted_plain rfl _) (rn_mv rfl (he9.op rfl) w7) ?_
    intro a10 he10
    clear he9 a9
    refine lV (Value.agg #[Value.int .i64 p.l, Value.int .i64 p.c]) he10 rfl rfl (he10.want rfl rfl rfl rfl rfl) (rn_ldp [Value.int .i64 p.l, Value.int .i64 p.c] rfl (he10.op rfl) undZ rfl infoZ2 (hH7.at (i := 1) rfl) rfl) ?_
    intro a11 he11
    clear he10 a10
    refine lV (Value.int .i64 c) he11 rfl rfl (he11.want rfl rfl rfl rfl rfl) (rn_mv rfl (he11.op rfl) w7) ?_
    intro a12 he12
    clear he11 a11
    by_cases hb1 : inP p c
    · skip
      refine lC he12 rfl rfl Tryd.func34 (by kernel_rfl) rfl rfl (he12.want rfl rfl rfl rfl rfl) rfl (inside_c p c true (decide_eq_true hb1) w7) ?_
      intro w13 a14 hn he14
      have hH13 := hH7.call hn
      clear he12 a12 hH7 hn
      refine lV (Value.bool false) he14 rfl rfl (he14.want rfl rfl rfl rfl rfl) (rn_not (b := true) rfl (he14.op rfl) w13) ?_
      intro a15 he15
      clear he14 a14
      refine lV (Value.bool false) he15 rfl rfl (wanted_plain rfl _) (rn_pk0 rfl (he15.op rfl) (he15.op rfl) w13) ?_
      intro a16 he16
      clear he15 a15
      refine wpList_nil ?_
      refine then_ok ?_
      refine wp_cond_false (he16.op rfl) ?_
      refine wp_skip ?_
      refine then_ok ?_
      refine wp_seq ?_
      obtain ⟨hm0, hm1⟩ := mul_range (l := p.l) (c := c) (by omega) (by omega) (by omega) (by omega)
      refine wp_region_lit ?_
      refine lV (Value.agg #[Value.int .i64 p.l, Value.int .i64 p.c]) he16 rfl rfl (wanted_plain rfl _) (rn_ldp [Value.int .i64 p.l, Value.int .i64 p.c] rfl (he16.op rfl) undZ rfl infoZ2 (hH13.at (i := 1) rfl) rfl) ?_
      intro a17 he17
      clear he16 a16
      refine lV (Value.int .i64 c) he17 rfl rfl (wanted_plain rfl _) (rn_mv rfl (he17.op rfl) w13) ?_
      intro a18 he18
      clear he17 a17
      refine lC he18 rfl rfl Tryd.func35 (by kernel_rfl) rfl rfl (wanted_plain rfl _) rfl (index_c p c (by dsimp only [okP]; omega) (by omega) w13) ?_
      intro w19 a20 hn he20
      have hH19 := hH13.call hn
      clear he18 a18 hH13 hn
      refine lV (Value.int .i64 (p.l * c + p.c)) he20 rfl rfl (wanted_plain rfl _) (rn_asg rfl (he20.op rfl) w19) ?_
      intro a21 he21
      clear he20 a20
      refine wpList_nil ?_
      refine then_ok ?_
      refine wp_seq ?_
      refine wp_region_lit ?_
      refine lV (Value.int .i64 c) he21 rfl rfl (wanted_plain rfl _) (rn_mv rfl (he21.op rfl) w19) ?_
      intro a22 he22
      clear he21 a21
      refine lV (Value.int .i64 (c - 1)) he22 rfl rfl (wanted_plain rfl _) (rn_subI rfl (he22.op rfl) (he22.op rfl) (i64w (by omega) (by omega)) w19) ?_
      intro a23 he23
      clear he22 a22
      refine lV (Value.agg #[Value.int .i64 1099511627776, Value.int .i64 (c - 1)]) he23 rfl rfl (wanted_plain rfl _) (rn_bZ01 rfl (he23.op rfl) (he23.op rfl) w19) ?_
      intro a24 he24
      clear he23 a23
      refine lV (Value.int .i64 c) he24 rfl rfl (wanted_plain rfl _) (rn_mv rfl (he24.op rfl) w19) ?_
      intro a25 he25
      clear he24 a24
      refine lC he25 rfl rfl Tryd.func35 (by kernel_rfl) rfl rfl (wanted_plain rfl _) rfl (index_c (⟨1099511627776, (c - 1)⟩ : Pl) c (by dsimp only [okP]; omega) (by omega) w19) ?_
      intro w26 a27 hn he27
      have hH26 := hH19.call hn
      clear he25 a25 hH19 hn
      refine lV (Value.int .i64 (1099511627776 * c + (c - 1))) he27 rfl rfl (wanted_plain rfl _) (rn_asg rfl (he27.op rfl) w26) ?_
      intro a28 he28
      clear he27 a27
      refine wpList_nil ?_
      refine then_ok ?_
      refine wp_seq ?_
      refine wp_seq ?_
      refine wp_region_lit ?_
      refine lV (Value.int .i64 n) he28 rfl rfl (wanted_plain rfl _) (rn_mv rfl (he28.op rfl) w26) ?_
      intro a29 he29
      clear he28 a28
      refine lV (Value.int .i64 (p.l * c + p.c)) he29 rfl rfl (wanted_plain rfl _) (rn_mv rfl (he29.op rfl) w26) ?_
      intro a30 he30
      clear he29 a29
      refine lV (Value.int .i64 (-(p.l * c + p.c))) he30 rfl rfl (wanted_plain rfl _) (rn_negI rfl (he30.op rfl) (i64w (by omega) (by omega)) w26) ?_
      intro a31 he31
      clear he30 a30
      by_cases hb2 : n < (-(p.l * c + p.c))
      · skip
        refine lV (Value.bool true) he31 rfl rfl (wanted_plain rfl _) (rn_lsI rfl (he31.op rfl) (he31.op rfl) (decide_eq_true hb2) w26) ?_
        intro a32 he32
        clear he31 a31
        refine lV (Value.bool true) he32 rfl rfl (wanted_plain rfl _) (rn_mv rfl (he32.op rfl) w26) ?_
        intro a33 he33
        clear he32 a32
        refine lSkip he33 rfl rfl (he33.wantNot rfl rfl rfl rfl rfl rfl) ?_
        intro a34 he34
        clear he33 a33
        refine lSkip he34 rfl rfl (he34.wantNot rfl rfl rfl rfl rfl rfl) ?_
        intro a35 he35
        clear he34 a34
        refine lSkip he35 rfl rfl (he35.wantNot rfl rfl rfl rfl rfl rfl) ?_
        intro a36 he36
        clear he35 a35
        refine lSkip he36 rfl rfl (he36.wantNot rfl rfl rfl rfl rfl rfl) ?_
        intro a37 he37
        clear he36 a36
        refine lSkip he37 rfl rfl (he37.wantNot rfl rfl rfl rfl rfl rfl) ?_
        intro a38 he38
        clear he37 a37
        refine lV (Value.bool true) he38 rfl rfl (wanted_plain rfl _) (rn_pk rfl (he38.op rfl) (he38.op rfl) w26) ?_
        intro a39 he39
        clear he38 a38
        refine wpList_nil ?_
        refine then_ok ?_
        refine wp_cond_true (he39.op rfl) ?_
        refine wp_seq ?_
        refine wp_region_lit ?_
        refine lV (Value.agg #[Value.int .i64 0, Value.int .i64 0]) he39 rfl rfl (wanted_plain rfl _) (rn_bZ rfl  w26) ?_
        intro a40 he40
        clear he39 a39
        refine lSetF 0 #[Value.int .i64 0, Value.int .i64 0] (cs := #[Value.int .i64 0, Value.int .i64 0]) he40 hH26 rfl (wanted_plain rfl _) rfl rfl rfl rfl rfl (by kernel_rfl) (by kernel_rfl) (by kernel_rfl) rfl ?_
        intro w41 a42 hH41 hf he42
        replace hH41 : Hp w [⟨p3, 23, #[Value.int .i64 0, Value.int .i64 0]⟩, ⟨p1, 23, #[Value.int .i64 p.l, Value.int .i64 p.c]⟩] w41 := hH41
        clear hf
        clear he40 a40 hH26
        refine lV (Value.int .i64 3) he42 rfl rfl (wanted_plain rfl _) (rn_asg rfl (he42.op rfl) w41) ?_
        intro a43 he43
        clear he42 a42
        refine wpList_nil ?_
        refine then_ok ?_
        refine wp_ret ?_
        try simp only [Exit.then, Exit.inBlock, Exit.noGoto]
        exact ret_rowt rfl he43 rfl rfl (hH41.at (i := 0) rfl) undZ rfl infoZ2 ⟨by ((unfold stepP idxP at h; first | rw [if_pos (by omega)] at h | rw [if_neg (by omega), if_pos (by omega)] at h | rw [if_neg (by omega), if_neg (by omega)] at h); obtain ⟨rfl, rfl⟩ := Prod.mk.inj h; rfl), hH41.new⟩
      · skip
        refine lV (Value.bool false) he31 rfl rfl (wanted_plain rfl _) (rn_lsI rfl (he31.op rfl) (he31.op rfl) (decide_eq_false hb2) w26) ?_
        intro a32 he32
        clear he31 a31
        refine lV (Value.bool false) he32 rfl rfl (wanted_plain rfl _) (rn_mv rfl (he32.op rfl) w26) ?_
        intro a33 he33
        clear he32 a32
        refine lV (Value.int .i64 n) he33 rfl rfl (he33.want rfl rfl rfl rfl rfl) (rn_mv rfl (he33.op rfl) w26) ?_
        intro a34 he34
        clear he33 a33
        refine lV (Value.int .i64 (1099511627776 * c + (c - 1))) he34 rfl rfl (he34.want rfl rfl rfl rfl rfl) (rn_mv rfl (he34.op rfl) w26) ?_
        intro a35 he35
        clear he34 a34
        refine lV (Value.int .i64 (p.l * c + p.c)) he35 rfl rfl (he35.want rfl rfl rfl rfl rfl) (rn_mv rfl (he35.op rfl) w26) ?_
        intro a36 he36
        clear he35 a35
        refine lV (Value.int .i64 ((1099511627776 * c + (c - 1)) - (p.l * c + p.c))) he36 rfl rfl (he36.want rfl rfl rfl rfl rfl) (rn_subI rfl (he36.op rfl) (he36.op rfl) (i64w (by omega) (by omega)) w26) ?_
        intro a37 he37
        clear he36 a36
        by_cases hb3 : ((1099511627776 * c + (c - 1)) - (p.l * c + p.c)) < n
        · skip
          refine lV (Value.bool true) he37 rfl rfl (he37.want rfl rfl rfl rfl rfl) (rn_gtI rfl (he37.op rfl) (he37.op rfl) (decide_eq_true hb3) w26) ?_
          intro a38 he38
          clear he37 a37
          refine lV (Value.bool true) he38 rfl rfl (wanted_plain rfl _) (rn_pk0 rfl (he38.op rfl) (he38.op rfl) w26) ?_
          intro a39 he39
          clear he38 a38
          refine wpList_nil ?_
          refine then_ok ?_
          refine wp_cond_true (he39.op rfl) ?_
          refine wp_seq ?_
          refine wp_region_lit ?_
          refine lV (Value.agg #[Value.int .i64 0, Value.int .i64 0]) he39 rfl rfl (wanted_plain rfl _) (rn_bZ rfl  w26) ?_
          intro a40 he40
          clear he39 a39
          refine lSetF 0 #[Value.int .i64 0, Value.int .i64 0] (cs := #[Value.int .i64 0, Value.int .i64 0]) he40 hH26 rfl (wanted_plain rfl _) rfl rfl rfl rfl rfl (by kernel_rfl) (by kernel_rfl) (by kernel_rfl) rfl ?_
          intro w41 a42 hH41 hf he42
          replace hH41 : Hp w [⟨p3, 23, #[Value.int .i64 0, Value.int .i64 0]⟩, ⟨p1, 23, #[Value.int .i64 p.l, Value.int .i64 p.c]⟩] w41 := hH41
          clear hf
          clear he40 a40 hH26
          refine lV (Value.int .i64 3) he42 rfl rfl (wanted_plain rfl _) (rn_asg rfl (he42.op rfl) w41) ?_
          intro a43 he43
          clear he42 a42
          refine wpList_nil ?_
          refine then_ok ?_
          refine wp_ret ?_
          try simp only [Exit.then, Exit.inBlock, Exit.noGoto]
          exact ret_rowt rfl he43 rfl rfl (hH41.at (i := 0) rfl) undZ rfl infoZ2 ⟨by ((unfold stepP idxP at h; first | rw [if_pos (by omega)] at h | rw [if_neg (by omega), if_pos (by omega)] at h | rw [if_neg (by omega), if_neg (by omega)] at h); obtain ⟨rfl, rfl⟩ := Prod.mk.inj h; rfl), hH41.new⟩
        · skip
          refine lV (Value.bool false) he37 rfl rfl (he37.want rfl rfl rfl rfl rfl) (rn_gtI rfl (he37.op rfl) (he37.op rfl) (decide_eq_false hb3) w26) ?_
          intro a38 he38
          clear he37 a37
          refine lV (Value.bool false) he38 rfl rfl (wanted_plain rfl _) (rn_pk0 rfl (he38.op rfl) (he38.op rfl) w26) ?_
          intro a39 he39
          clear he38 a38
          refine wpList_nil ?_
          refine then_ok ?_
          refine wp_cond_false (he39.op rfl) ?_
          refine wp_skip ?_
          refine then_ok ?_
          refine wp_seq ?_
          refine wp_region_lit ?_
          refine lV (Value.int .i64 (p.l * c + p.c)) he39 rfl rfl (wanted_plain rfl _) (rn_mv rfl (he39.op rfl) w26) ?_
          intro a40 he40
          clear he39 a39
          refine lV (Value.int .i64 n) he40 rfl rfl (wanted_plain rfl _) (rn_mv rfl (he40.op rfl) w26) ?_
          intro a41 he41
          clear he40 a40
          refine lV (Value.int .i64 ((p.l * c + p.c) + n)) he41 rfl rfl (wanted_plain rfl _) (rn_addI rfl (he41.op rfl) (he41.op rfl) (i64w (by omega) (by omega)) w26) ?_
          intro a42 he42
          clear he41 a41
          refine lV (Value.int .i64 ((p.l * c + p.c) + n)) he42 rfl rfl (wanted_plain rfl _) (rn_asg rfl (he42.op rfl) w26) ?_
          intro a43 he43
          clear he42 a42
          refine wpList_nil ?_
          refine then_ok ?_
          refine wp_seq ?_
          refine wp_region_held_drew (S := Hp w [⟨p1, 23, #[Value.int .i64 p.l, Value.int .i64 p.c]⟩]) (by kernel_rfl) ((hH26.drew).drop1 0 rfl) (fun _ => ?_)
          have hn : New w26 (World.drew w26) := (Fr.refl _ _).drew
          clear hn
          have hH44 := hH26.drew
          clear hH26
          generalize World.drew w26 = w44 at *
          refine hV (fuel := 8) (i := 0) (Value.int .i64 ((p.l * c + p.c) + n)) he43 rfl rfl rfl (by kernel_rfl) (by kernel_rfl) (by kernel_rfl) (fun _ _ _ h => h) (wanted_plain rfl _) (fun w' _ => rn_mv rfl (he43.op rfl) w') (hH44.drop1 0 rfl) ?_
          intro a45 he45
          clear he43 a43
          refine hV (fuel := 7) (i := 1) (Value.int .i64 c) he45 rfl rfl rfl (by kernel_rfl) (by kernel_rfl) (by kernel_rfl) (fun _ _ _ h => h) (wanted_plain rfl _) (fun w' _ => rn_mv rfl (he45.op rfl) w') (hH44.drop1 0 rfl) ?_
          intro a46 he46
          clear he45 a45
          refine hV (fuel := 6) (i := 2) (Value.int .i64 (((p.l * c + p.c) + n) / c)) he46 rfl rfl rfl (by kernel_rfl) (by kernel_rfl) (by kernel_rfl) (fun _ _ _ h => h) (wanted_plain rfl _) (fun w' _ => rn_quoNI rfl (he46.op rfl) (he46.op rfl) (by omega) (by omega) (by omega) rfl w') (hH44.drop1 0 rfl) ?_
          intro a47 he47
          clear he46 a46
          refine hV (fuel := 5) (i := 3) (Value.int .i64 ((p.l * c + p.c) + n)) he47 rfl rfl rfl (by kernel_rfl) (by kernel_rfl) (by kernel_rfl) (fun _ _ _ h => h) (wanted_plain rfl _) (fun w' _ => rn_mv rfl (he47.op rfl) w') (hH44.drop1 0 rfl) ?_
          intro a48 he48
          clear he47 a47
          refine hV (fuel := 4) (i := 4) (Value.int .i64 c) he48 rfl rfl rfl (by kernel_rfl) (by kernel_rfl) (by kernel_rfl) (fun _ _ _ h => h) (wanted_plain rfl _) (fun w' _ => rn_mv rfl (he48.op rfl) w') (hH44.drop1 0 rfl) ?_
          intro a49 he49
          clear he48 a48
          refine hV (fuel := 3) (i := 5) (Value.int .i64 (((p.l * c + p.c) + n) % c)) he49 rfl rfl rfl (by kernel_rfl) (by kernel_rfl) (by kernel_rfl) (fun _ _ _ h => h) (wanted_plain rfl _) (fun w' _ => rn_remNI rfl (he49.op rfl) (he49.op rfl) (by omega) (by omega) rfl w') (hH44.drop1 0 rfl) ?_
          intro a50 he50
          clear he49 a49
          refine hV (fuel := 2) (i := 6) (Value.agg #[Value.int .i64 (((p.l * c + p.c) + n) / c), Value.int .i64 (((p.l * c + p.c) + n) % c)]) he50 rfl rfl rfl (by kernel_rfl) (by kernel_rfl) (by kernel_rfl) (fun _ _ _ h => h) (wanted_plain rfl _) (fun w' _ => rn_bZ01 rfl (he50.op rfl) (he50.op rfl) w') (hH44.drop1 0 rfl) ?_
          intro a51 he51
          clear he50 a50
          refine hSetV (fuel := 1) (n := 7) 0 #[Value.int .i64 (((p.l * c + p.c) + n) / c), Value.int .i64 (((p.l * c + p.c) + n) % c)] (cs := #[Value.int .i64 (((p.l * c + p.c) + n) / c), Value.int .i64 (((p.l * c + p.c) + n) % c)]) he51 hH44 (by kernel_rfl) rfl rfl (wanted_plain rfl _) rfl rfl rfl rfl rfl (by kernel_rfl) (by kernel_rfl) (by kernel_rfl) rfl ?_
          intro w52 a53 hH52 hf he53
          replace hH52 : Hp w [⟨p3, 23, #[Value.int .i64 (((p.l * c + p.c) + n) / c), Value.int .i64 (((p.l * c + p.c) + n) % c)]⟩, ⟨p1, 23, #[Value.int .i64 p.l, Value.int .i64 p.c]⟩] w52 := hH52
          refine ⟨(hH52.drop1 0 rfl), ?_⟩
          clear hf
          clear he51 a51 hH44
          refine hV (fuel := 0) (i := 8) (Value.int .i64 0) he53 rfl rfl rfl (by kernel_rfl) (by kernel_rfl) (by kernel_rfl) (fun _ _ _ h => h) (wanted_plain rfl _) (fun w' _ => rn_asg rfl (he53.op rfl) w') (hH52.drop1 0 rfl) ?_
          intro a54 he54
          clear he53 a53
          refine wpAnyH_done (by kernel_rfl) ?_ _
          refine then_ok ?_
          refine wp_ret ?_
          try simp only [Exit.then, Exit.inBlock, Exit.noGoto]
          exact ret_rowt rfl he54 rfl rfl (hH52.at (i := 0) rfl) undZ rfl infoZ2 ⟨by ((unfold stepP idxP at h; first | rw [if_pos (by omega)] at h | rw [if_neg (by omega), if_pos (by omega)] at h | rw [if_neg (by omega), if_neg (by omega)] at h); obtain ⟨rfl, rfl⟩ := Prod.mk.inj h; rfl), hH52.new⟩
    · skip
      refine lC he12 rfl rfl Tryd.func34 (by kernel_rfl) rfl rfl (he12.want rfl rfl rfl rfl rfl) rfl (inside_c p c false (decide_eq_false hb1) w7) ?_
      intro w13 a14 hn he14
      have hH13 := hH7.call hn
      clear he12 a12 hH7 hn
      refine lV (Value.bool true) he14 rfl rfl (he14.want rfl rfl rfl rfl rfl) (rn_not (b := false) rfl (he14.op rfl) w13) ?_
      intro a15 he15
      clear he14 a14
      refine lV (Value.bool true) he15 rfl rfl (wanted_plain rfl _) (rn_pk0 rfl (he15.op rfl) (he15.op rfl) w13) ?_
      intro a16 he16
      clear he15 a15
      refine wpList_nil ?_
      refine then_ok ?_
      refine wp_cond_true (he16.op rfl) ?_
      refine wp_seq ?_
      refine wp_region_lit ?_
      refine lV (Value.agg #[Value.int .i64 0, Value.int .i64 0]) he16 rfl rfl (wanted_plain rfl _) (rn_bZ rfl  w13) ?_
      intro a17 he17
      clear he16 a16
      refine lSetF 0 #[Value.int .i64 0, Value.int .i64 0] (cs := #[Value.int .i64 0, Value.int .i64 0]) he17 hH13 rfl (wanted_plain rfl _) rfl rfl rfl rfl rfl (by kernel_rfl) (by kernel_rfl) (by kernel_rfl) rfl ?_
      intro w18 a19 hH18 hf he19
      replace hH18 : Hp w [⟨p3, 23, #[Value.int .i64 0, Value.int .i64 0]⟩, ⟨p1, 23, #[Value.int .i64 p.l, Value.int .i64 p.c]⟩] w18 := hH18
      clear hf
      clear he17 a17 hH13
      refine lV (Value.int .i64 2) he19 rfl rfl (wanted_plain rfl _) (rn_asg rfl (he19.op rfl) w18) ?_
      intro a20 he20
      clear he19 a19
      refine wpList_nil ?_
      refine then_ok ?_
      refine wp_ret ?_
      try simp only [Exit.then, Exit.inBlock, Exit.noGoto]
      exact ret_rowt rfl he20 rfl rfl (hH18.at (i := 0) rfl) undZ rfl infoZ2 ⟨by ((unfold stepP idxP at h; first | rw [if_pos (by omega)] at h | rw [if_neg (by omega), if_pos (by omega)] at h | rw [if_neg (by omega), if_neg (by omega)] at h); obtain ⟨rfl, rfl⟩ := Prod.mk.inj h; rfl), hH18.new⟩
  · skip
    refine lC he6 rfl rfl Tryd.func33 (by kernel_rfl) rfl rfl (wanted_plain rfl _) rfl (allowed_c c false (decide_eq_false hb0) w3) ?_
    intro w7 a8 hn he8
    have hH7 := hH3.call hn
    clear he6 a6 hH3 hn
    refine lV (Value.bool true) he8 rfl rfl (wanted_plain rfl _) (rn_not (b := false) rfl (he8.op rfl) w7) ?_
    intro a9 he9
    clear he8 a8
    refine lV (Value.bool true) he9 rfl rfl (wanted_plain rfl _) (rn_mv rfl (he9.op rfl) w7) ?_
    intro a10 he10
    clear he9 a9
    refine lSkip he10 rfl rfl (he10.wantNot rfl rfl rfl rfl rfl rfl) ?_
    intro a11 he11
    clear he10 a10
    refine lSkip he11 rfl rfl (he11.wantNot rfl rfl rfl rfl rfl rfl) ?_
    intro a12 he12
    clear he11 a11
    refine lSkip he12 rfl rfl (he12.wantNot rfl rfl rfl rfl rfl rfl) ?_
    intro a13 he13
    clear he12 a12
    refine lSkip he13 rfl rfl (he13.wantNot rfl rfl rfl rfl rfl rfl) ?_
    intro a14 he14
    clear he13 a13
    refine lV (Value.bool true) he14 rfl rfl (wanted_plain rfl _) (rn_pk rfl (he14.op rfl) (he14.op rfl) w7) ?_
    intro a15 he15
    clear he14 a14
    refine wpList_nil ?_
    refine then_ok ?_
    refine wp_cond_true (he15.op rfl) ?_
    refine wp_seq ?_
    refine wp_region_lit ?_
    refine lV (Value.agg #[Value.int .i64 0, Value.int .i64 0]) he15 rfl rfl (wanted_plain rfl _) (rn_bZ rfl  w7) ?_
    intro a16 he16
    clear he15 a15
    refine lSetF 0 #[Value.int .i64 0, Value.int .i64 0] (cs := #[Value.int .i64 0, Value.int .i64 0]) he16 hH7 rfl (wanted_plain rfl _) rfl rfl rfl rfl rfl (by kernel_rfl) (by kernel_rfl) (by kernel_rfl) rfl ?_
    intro w17 a18 hH17 hf he18
    replace hH17 : Hp w [⟨p3, 23, #[Value.int .i64 0, Value.int .i64 0]⟩, ⟨p1, 23, #[Value.int .i64 p.l, Value.int .i64 p.c]⟩] w17 := hH17
    clear hf
    clear he16 a16 hH7
    refine lV (Value.int .i64 2) he18 rfl rfl (wanted_plain rfl _) (rn_asg rfl (he18.op rfl) w17) ?_
    intro a19 he19
    clear he18 a18
    refine wpList_nil ?_
    refine then_ok ?_
    refine wp_ret ?_
    try simp only [Exit.then, Exit.inBlock, Exit.noGoto]
    exact ret_rowt rfl he19 rfl rfl (hH17.at (i := 0) rfl) undZ rfl infoZ2 ⟨by ((unfold stepP idxP at h; first | rw [if_pos (by omega)] at h | rw [if_neg (by omega), if_pos (by omega)] at h | rw [if_neg (by omega), if_neg (by omega)] at h); obtain ⟨rfl, rfl⟩ := Prod.mk.inj h; rfl), hH17.new⟩
set_option linter.unusedSimpArgs false in
set_option maxRecDepth 100000 in
set_option maxHeartbeats 1600000 in
theorem Distance_c (p q : Pl) (c n er : Int) (h : distP p q c = (n, er)) (w : World) : Calls Tryd.prog 21 #[.agg #[.int .i64 p.l, .int .i64 p.c], .agg #[.int .i64 q.l, .int .i64 q.c], .int .i64 c] w fun e w' => e = .returned (.tuple #[.int .i64 n, .int .i64 er]) ∧ New w w' := by
  refine calls_args (vl := [Value.agg #[Value.int .i64 p.l, Value.int .i64 p.c], Value.agg #[Value.int .i64 q.l, Value.int .i64 q.c], Value.int .i64 c]) 30 Tryd.func21 rfl Tryd.ntmps21 (by kernel_rfl) (fun a he => ?_)
  have he0 : Env 30 [(0, Value.agg #[Value.int .i64 p.l, Value.int .i64 p.c]), (1, Value.agg #[Value.int .i64 q.l, Value.int .i64 q.c]), (2, Value.int .i64 c)] a := he
  clear he
  have hH := Hp.start w
  refine wp_seq ?_
  refine wp_region_lit ?_
  refine lNewP (fun p => .pointer (some ⟨p, 0, none⟩)) he0 hH rfl rfl (wanted_plain rfl _) (rn_boxZ rfl (he0.op rfl) w) ?_
  intro p1 w1 a2 hp hn hH1 he2
  clear he0 a hH hn hp
  refine lNewP (fun p => .pointer (some ⟨p, 0, none⟩)) he2 hH1 rfl rfl (wanted_plain rfl _) (rn_boxZ rfl (he2.op rfl) w1) ?_
  intro p3 w3 a4 hp hn hH3 he4
  clear he2 a2 hH1 hn hp
  refine lV (Value.int .i64 0) he4 rfl rfl (wanted_plain rfl _) (rn_asg rfl (he4.op rfl) w3) ?_
  intro a5 he5
  clear he4 a4
  refine lV (Value.int .i64 0) he5 rfl rfl (wanted_plain rfl _) (rn_asg rfl (he5.op rfl) w3) ?_
  intro a6 he6
  clear he5 a5
  refine wpList_nil ?_
  refine then_ok ?_
  refine wp_seq ?_
  refine wp_seq ?_
  refine wp_region_lit ?_
  refine lV (Value.int .i64 c) he6 rfl rfl (wanted_plain rfl _) (rn_mv rfl (he6.op rfl) w3) ?_
  intro a7 he7
  clear he6 a6
  by_cases hb0 : colP c
  · skip
    refine lC he7 rfl rfl Tryd.func33 (by kernel_rfl) rfl rfl (wanted_plain rfl _) rfl (allowed_c c true (decide_eq_true hb0) w3) ?_
    intro w8 a9 hn he9
    have hH8 := hH3.call hn
    clear he7 a7 hH3 hn
    refine lV (Value.bool false) he9 rfl rfl (wanted_plain rfl _) (rn_not (b := true) rfl (he9.op rfl) w8) ?_
    intro a10 he10
    clear he9 a9
    refine lV (Value.bool false) he10 rfl rfl (wanted_plain rfl _) (rn_mv rfl (he10.op rfl) w8) ?_
    intro a11 he11
    clear he10 a10
    refine lV (Value.agg #[Value.int .i64 p.l, Value.int .i64 p.c]) he11 rfl rfl (he11.want rfl rfl rfl rfl rfl) (rn_ldp [Value.int .i64 p.l, Value.int .i64 p.c] rfl (he11.op rfl) undZ rfl infoZ2 (hH8.at (i := 1) rfl) rfl) ?_
    intro a12 he12
    clear he11 a11
    refine lV (Value.int .i64 c) he12 rfl rfl (he12.want rfl rfl rfl rfl rfl) (rn_mv rfl (he12.op rfl) w8) ?_
    intro a13 he13
    clear he12 a12
    by_cases hb1 : inP p c
    · skip
      refine lC he13 rfl rfl Tryd.func34 (by kernel_rfl) rfl rfl (he13.want rfl rfl rfl rfl rfl) rfl (inside_c p c true (decide_eq_true hb1) w8) ?_
      intro w14 a15 hn he15
      have hH14 := hH8.call hn
      clear he13 a13 hH8 hn
      refine lV (Value.bool false) he15 rfl rfl (he15.want rfl rfl rfl rfl rfl) (rn_not (b := true) rfl (he15.op rfl) w14) ?_
      intro a16 he16
      clear he15 a15
      refine lV (Value.bool false) he16 rfl rfl (wanted_plain rfl _) (rn_pk0 rfl (he16.op rfl) (he16.op rfl) w14) ?_
      intro a17 he17
      clear he16 a16
      refine lV (Value.bool false) he17 rfl rfl (wanted_plain rfl _) (rn_mv rfl (he17.op rfl) w14) ?_
      intro a18 he18
      clear he17 a17
      refine lV (Value.agg #[Value.int .i64 q.l, Value.int .i64 q.c]) he18 rfl rfl (he18.want rfl rfl rfl rfl rfl) (rn_ldp [Value.int .i64 q.l, Value.int .i64 q.c] rfl (he18.op rfl) undZ rfl infoZ2 (hH14.at (i := 0) rfl) rfl) ?_
      intro a19 he19
      clear he18 a18
      refine lV (Value.int .i64 c) he19 rfl rfl (he19.want rfl rfl rfl rfl rfl) (rn_mv rfl (he19.op rfl) w14) ?_
      intro a20 he20
      clear he19 a19
      by_cases hb2 : inP q c
      · skip
        refine lC he20 rfl rfl Tryd.func34 (by kernel_rfl) rfl rfl (he20.want rfl rfl rfl rfl rfl) rfl (inside_c q c true (decide_eq_true hb2) w14) ?_
        intro w21 a22 hn he22
        have hH21 := hH14.call hn
        clear he20 a20 hH14 hn
        refine lV (Value.bool false) he22 rfl rfl (he22.want rfl rfl rfl rfl rfl) (rn_not (b := true) rfl (he22.op rfl) w21) ?_
        intro a23 he23
        clear he22 a22
        refine lV (Value.bool false) he23 rfl rfl (wanted_plain rfl _) (rn_pk0 rfl (he23.op rfl) (he23.op rfl) w21) ?_
        intro a24 he24
        clear he23 a23
        refine wpList_nil ?_
        refine then_ok ?_
        refine wp_cond_false (he24.op rfl) ?_
        refine wp_skip ?_
        refine then_ok ?_
        refine wp_seq ?_
        obtain ⟨hm0p, hm1p⟩ := mul_range (l := p.l) (c := c) (by omega) (by omega) (by omega) (by omega)
        obtain ⟨hm0q, hm1q⟩ := mul_range (l := q.l) (c := c) (by omega) (by omega) (by omega) (by omega)
        refine wp_region_held_drew (S := Hp w [⟨p3, 23, #[Value.int .i64 q.l, Value.int .i64 q.c]⟩, ⟨p1, 23, #[Value.int .i64 p.l, Value.int .i64 p.c]⟩]) (by kernel_rfl) (hH21.drew) (fun _ => ?_)
        have hn : New w21 (World.drew w21) := (Fr.refl _ _).drew
        clear hn
        have hH25 := hH21.drew
        clear hH21
        generalize World.drew w21 = w25 at *
        refine hV (fuel := 8) (i := 0) (Value.agg #[Value.int .i64 q.l, Value.int .i64 q.c]) he24 rfl rfl rfl (by kernel_rfl) (by kernel_rfl) (by kernel_rfl) (fun _ _ _ h => h) (wanted_plain rfl _) (fun w' hw' => rn_ldp [Value.int .i64 q.l, Value.int .i64 q.c] rfl (he24.op rfl) undZ rfl infoZ2 (hw'.at (i := 0) rfl) rfl) hH25 ?_
        intro a26 he26
        clear he24 a24
        refine hV (fuel := 7) (i := 1) (Value.int .i64 c) he26 rfl rfl rfl (by kernel_rfl) (by kernel_rfl) (by kernel_rfl) (fun _ _ _ h => h) (wanted_plain rfl _) (fun w' _ => rn_mv rfl (he26.op rfl) w') hH25 ?_
        intro a27 he27
        clear he26 a26
        refine hV (fuel := 6) (i := 3) (Value.agg #[Value.int .i64 p.l, Value.int .i64 p.c]) he27 rfl rfl rfl (by kernel_rfl) (by kernel_rfl) (by kernel_rfl) (fun _ _ _ h => h) (wanted_plain rfl _) (fun w' hw' => rn_ldp [Value.int .i64 p.l, Value.int .i64 p.c] rfl (he27.op rfl) undZ rfl infoZ2 (hw'.at (i := 1) rfl) rfl) hH25 ?_
        intro a28 he28
        clear he27 a27
        refine hV (fuel := 5) (i := 4) (Value.int .i64 c) he28 rfl rfl rfl (by kernel_rfl) (by kernel_rfl) (by kernel_rfl) (fun _ _ _ h => h) (wanted_plain rfl _) (fun w' _ => rn_mv rfl (he28.op rfl) w') hH25 ?_
        intro a29 he29
        clear he28 a28
        refine hC (fuel := 4) (i := 2) he29 (by kernel_rfl) rfl rfl rfl Tryd.func35 (by kernel_rfl) rfl rfl (wanted_plain rfl _) rfl (index_c q c (by dsimp only [okP]; omega) (by omega) w25) ?_
        rintro _ w30 ⟨rfl, hn⟩
        have hH30 := hH25.call hn
        refine ⟨_, rfl, hH30, ?_⟩
        intro a31 he31
        clear he29 a29 hH25 hn
        refine hC (fuel := 3) (i := 5) he31 (by kernel_rfl) rfl rfl rfl Tryd.func35 (by kernel_rfl) rfl rfl (wanted_plain rfl _) rfl (index_c p c (by dsimp only [okP]; omega) (by omega) w30) ?_
        rintro _ w32 ⟨rfl, hn⟩
        have hH32 := hH30.call hn
        refine ⟨_, rfl, hH32, ?_⟩
        intro a33 he33
        clear he31 a31 hH30 hn
        refine hV (fuel := 2) (i := 6) (Value.int .i64 ((q.l * c + q.c) - (p.l * c + p.c))) he33 rfl rfl rfl (by kernel_rfl) (by kernel_rfl) (by kernel_rfl) (fun _ _ _ h => h) (wanted_plain rfl _) (fun w' _ => rn_subI rfl (he33.op rfl) (he33.op rfl) (i64w (by omega) (by omega)) w') hH32 ?_
        intro a34 he34
        clear he33 a33
        refine hV (fuel := 1) (i := 7) (Value.int .i64 ((q.l * c + q.c) - (p.l * c + p.c))) he34 rfl rfl rfl (by kernel_rfl) (by kernel_rfl) (by kernel_rfl) (fun _ _ _ h => h) (wanted_plain rfl _) (fun w' _ => rn_asg rfl (he34.op rfl) w') hH32 ?_
        intro a35 he35
        clear he34 a34
        refine hV (fuel := 0) (i := 8) (Value.int .i64 0) he35 rfl rfl rfl (by kernel_rfl) (by kernel_rfl) (by kernel_rfl) (fun _ _ _ h => h) (wanted_plain rfl _) (fun w' _ => rn_asg rfl (he35.op rfl) w') hH32 ?_
        intro a36 he36
        clear he35 a35
        refine wpAnyH_done (by kernel_rfl) ?_ _
        refine then_ok ?_
        refine wp_ret ?_
        try simp only [Exit.then, Exit.inBlock, Exit.noGoto]
        exact ret_tt rfl he36 rfl rfl ⟨by ((unfold distP idxP at h; first | rw [if_pos (by omega)] at h | rw [if_neg (by omega)] at h); obtain ⟨rfl, rfl⟩ := Prod.mk.inj h; rfl), hH32.new⟩
      · skip
        refine lC he20 rfl rfl Tryd.func34 (by kernel_rfl) rfl rfl (he20.want rfl rfl rfl rfl rfl) rfl (inside_c q c false (decide_eq_false hb2) w14) ?_
        intro w21 a22 hn he22
        have hH21 := hH14.call hn
        clear he20 a20 hH14 hn
        refine lV (Value.bool true) he22 rfl rfl (he22.want rfl rfl rfl rfl rfl) (rn_not (b := false) rfl (he22.op rfl) w21) ?_
        intro a23 he23
        clear he22 a22
        refine lV (Value.bool true) he23 rfl rfl (wanted_plain rfl _) (rn_pk0 rfl (he23.op rfl) (he23.op rfl) w21) ?_
        intro a24 he24
        clear he23 a23
        refine wpList_nil ?_
        refine then_ok ?_
        refine wp_cond_true (he24.op rfl) ?_
        refine wp_seq ?_
        refine wp_region_lit ?_
        refine lV (Value.int .i64 0) he24 rfl rfl (wanted_plain rfl _) (rn_asg rfl (he24.op rfl) w21) ?_
        intro a25 he25
        clear he24 a24
        refine lV (Value.int .i64 2) he25 rfl rfl (wanted_plain rfl _) (rn_asg rfl (he25.op rfl) w21) ?_
        intro a26 he26
        clear he25 a25
        refine wpList_nil ?_
        refine then_ok ?_
        refine wp_ret ?_
        try simp only [Exit.then, Exit.inBlock, Exit.noGoto]
        exact ret_tt rfl he26 rfl rfl ⟨by ((unfold distP idxP at h; first | rw [if_pos (by omega)] at h | rw [if_neg (by omega)] at h); obtain ⟨rfl, rfl⟩ := Prod.mk.inj h; rfl), hH21.new⟩
    · skip
      refine lC he13 rfl rfl Tryd.func34 (by kernel_rfl) rfl rfl (he13.want rfl rfl rfl rfl rfl) rfl (inside_c p c false (decide_eq_false hb1) w8) ?_
      intro w14 a15 hn he15
      have hH14 := hH8.call hn
      clear he13 a13 hH8 hn
      refine lV (Value.bool true) he15 rfl rfl (he15.want rfl rfl rfl rfl rfl) (rn_not (b := false) rfl (he15.op rfl) w14) ?_
      intro a16 he16
      clear he15 a15
      refine lV (Value.bool true) he16 rfl rfl (wanted_plain rfl _) (rn_pk0 rfl (he16.op rfl) (he16.op rfl) w14) ?_
      intro a17 he17
      clear he16 a16
      refine lV (Value.bool true) he17 rfl rfl (wanted_plain rfl _) (rn_mv rfl (he17.op rfl) w14) ?_
      intro a18 he18
      clear he17 a17
      refine lSkip he18 rfl rfl (he18.wantNot rfl rfl rfl rfl rfl rfl) ?_
      intro a19 he19
      clear he18 a18
      refine lSkip he19 rfl rfl (he19.wantNot rfl rfl rfl rfl rfl rfl) ?_
      intro a20 he20
      clear he19 a19
      refine lSkip he20 rfl rfl (he20.wantNot rfl rfl rfl rfl rfl rfl) ?_
      intro a21 he21
      clear he20 a20
      refine lSkip he21 rfl rfl (he21.wantNot rfl rfl rfl rfl rfl rfl) ?_
      intro a22 he22
      clear he21 a21
      refine lV (Value.bool true) he22 rfl rfl (wanted_plain rfl _) (rn_pk rfl (he22.op rfl) (he22.op rfl) w14) ?_
      intro a23 he23
      clear he22 a22
      refine wpList_nil ?_
      refine then_ok ?_
      refine wp_cond_true (he23.op rfl) ?_
      refine wp_seq ?_
      refine wp_region_lit ?_
      refine lV (Value.int .i64 0) he23 rfl rfl (wanted_plain rfl _) (rn_asg rfl (he23.op rfl) w14) ?_
      intro a24 he24
      clear he23 a23
      refine lV (Value.int .i64 2) he24 rfl rfl (wanted_plain rfl _) (rn_asg rfl (he24.op rfl) w14) ?_
      intro a25 he25
      clear he24 a24
      refine wpList_nil ?_
      refine then_ok ?_
      refine wp_ret ?_
      try simp only [Exit.then, Exit.inBlock, Exit.noGoto]
      exact ret_tt rfl he25 rfl rfl ⟨by ((unfold distP idxP at h; first | rw [if_pos (by omega)] at h | rw [if_neg (by omega)] at h); obtain ⟨rfl, rfl⟩ := Prod.mk.inj h; rfl), hH14.new⟩
  · skip
    refine lC he7 rfl rfl Tryd.func33 (by kernel_rfl) rfl rfl (wanted_plain rfl _) rfl (allowed_c c false (decide_eq_false hb0) w3) ?_
    intro w8 a9 hn he9
    have hH8 := hH3.call hn
    clear he7 a7 hH3 hn
    refine lV (Value.bool true) he9 rfl rfl (wanted_plain rfl _) (rn_not (b := false) rfl (he9.op rfl) w8) ?_
    intro a10 he10
    clear he9 a9
    refine lV (Value.bool true) he10 rfl rfl (wanted_plain rfl _) (rn_mv rfl (he10.op rfl) w8) ?_
    intro a11 he11
    clear he10 a10
    refine lSkip he11 rfl rfl (he11.wantNot rfl rfl rfl rfl rfl rfl) ?_
    intro a12 he12
    clear he11 a11
    refine lSkip he12 rfl rfl (he12.wantNot rfl rfl rfl rfl rfl rfl) ?_
    intro a13 he13
    clear he12 a12
    refine lSkip he13 rfl rfl (he13.wantNot rfl rfl rfl rfl rfl rfl) ?_
    intro a14 he14
    clear he13 a13
    refine lSkip he14 rfl rfl (he14.wantNot rfl rfl rfl rfl rfl rfl) ?_
    intro a15 he15
    clear he14 a14
    refine lV (Value.bool true) he15 rfl rfl (wanted_plain rfl _) (rn_pk rfl (he15.op rfl) (he15.op rfl) w8) ?_
    intro a16 he16
    clear he15 a15
    refine lV (Value.bool true) he16 rfl rfl (wanted_plain rfl _) (rn_mv rfl (he16.op rfl) w8) ?_
    intro a17 he17
    clear he16 a16
    refine lSkip he17 rfl rfl (he17.wantNot rfl rfl rfl rfl rfl rfl) ?_
    intro a18 he18
    clear he17 a17
    refine lSkip he18 rfl rfl (he18.wantNot rfl rfl rfl rfl rfl rfl) ?_
    intro a19 he19
    clear he18 a18
    refine lSkip he19 rfl rfl (he19.wantNot rfl rfl rfl rfl rfl rfl) ?_
    intro a20 he20
    clear he19 a19
    refine lSkip he20 rfl rfl (he20.wantNot rfl rfl rfl rfl rfl rfl) ?_
    intro a21 he21
    clear he20 a20
    refine lV (Value.bool true) he21 rfl rfl (wanted_plain rfl _) (rn_pk rfl (he21.op rfl) (he21.op rfl) w8) ?_
    intro a22 he22
    clear he21 a21
    refine wpList_nil ?_
    refine then_ok ?_
    refine wp_cond_true (he22.op rfl) ?_
    refine wp_seq ?_
    refine wp_region_lit ?_
    refine lV (Value.int .i64 0) he22 rfl rfl (wanted_plain rfl _) (rn_asg rfl (he22.op rfl) w8) ?_
    intro a23 he23
    clear he22 a22
    refine lV (Value.int .i64 2) he23 rfl rfl (wanted_plain rfl _) (rn_asg rfl (he23.op rfl) w8) ?_
    intro a24 he24
    clear he23 a23
    refine wpList_nil ?_
    refine then_ok ?_
    refine wp_ret ?_
    try simp only [Exit.then, Exit.inBlock, Exit.noGoto]
    exact ret_tt rfl he24 rfl rfl ⟨by ((unfold distP idxP at h; first | rw [if_pos (by omega)] at h | rw [if_neg (by omega)] at h); obtain ⟨rfl, rfl⟩ := Prod.mk.inj h; rfl), hH8.new⟩
end Go.Proofs.YtijaemfalljdoaaDoor
