/-
  The words of a cell: the specification's and the program's.
  The program's words of a cell.
  The cells of words: the specification's and the program's.
  packed.Cell.
-/
import Derived.Test.YtaiijndldngnkaaDoorKA
import Derived.Test.YtaiijndldngnkaaDoorPRUn
import Derived.Test.YtaiijndldngnkaaDoorDValid
namespace Go.Proofs.YtaiijndldngnkaaDoor
open Go.RowKit

section
variable {ρ : Operand → Value} {o : Oper} {x y : Operand}
theorem rn_ixM0 {a b c : Int} (h : o.op = .index 22 x y) (hx : ρ x = .agg #[.int .i32 a, .int .i32 b, .int .i32 c]) (hy : ρ y = .int .i64 0) (w : World) : (execOp ρ o).run Tryd.prog w = .ok (.value (.int .i32 a)) w := by
  unfold execOp
  simp only [h, hx, hy, Sem.run_bind, ix0 a b c w, Result.andThen_ok, Sem.run_pure]
theorem rn_ixM1 {a b c : Int} (h : o.op = .index 22 x y) (hx : ρ x = .agg #[.int .i32 a, .int .i32 b, .int .i32 c]) (hy : ρ y = .int .i64 1) (w : World) : (execOp ρ o).run Tryd.prog w = .ok (.value (.int .i32 b)) w := by
  unfold execOp
  simp only [h, hx, hy, Sem.run_bind, ix1 a b c w, Result.andThen_ok, Sem.run_pure]
theorem rn_ixM2 {a b c : Int} (h : o.op = .index 22 x y) (hx : ρ x = .agg #[.int .i32 a, .int .i32 b, .int .i32 c]) (hy : ρ y = .int .i64 2) (w : World) : (execOp ρ o).run Tryd.prog w = .ok (.value (.int .i32 c)) w := by
  unfold execOp
  simp only [h, hx, hy, Sem.run_bind, ix2 a b c w, Result.andThen_ok, Sem.run_pure]
end
set_option linter.unusedSimpArgs false in
set_option maxRecDepth 100000 in
set_option maxHeartbeats 1600000 in
theorem RWords_any (c : Ce) (h : cellB c = true) (hp : c.p.Ok) (w : World) :
    Calls Tryd.prog 12 #[c.v] w fun e w' => e = .returned (wordsI c).v ∧ New w w' := by
  obtain ⟨r0, r1, a0, a1, b0, b1, c0, c1, w0, w1⟩ := cell_in h
  clear h
  refine calls_args (vl := [Ce.v c]) 35 Tryd.func12 rfl Tryd.ntmps12 (by kernel_rfl) (fun a he => ?_)
  have he0 : Env 35 [(0, Ce.v c)] a := he
  clear he
  have hH := Hp.start w
  refine wp_seq ?_
  refine wp_region_lit ?_
  refine lNew (fun p => .pointer (some ⟨p, 0, none⟩)) he0 hH rfl rfl (wanted_plain rfl _) (rn_boxC rfl (he0.op rfl) w) ?_
  intro p1 w1 a2 hn hH1 he2
  clear he0 a hH hn
  refine lNew (fun p => .pointer (some ⟨p, 0, none⟩)) he2 hH1 rfl rfl (wanted_plain rfl _) (rn_allocW rfl w1) ?_
  intro p3 w3 a4 hn hH3 he4
  clear he2 a2 hH1 hn
  refine wpList_nil ?_
  refine then_ok ?_
  refine wp_seq ?_
  refine wp_region_lit ?_
  refine lV (Value.pointer (some ⟨p1, 0, none⟩)) he4 rfl rfl (wanted_plain rfl _) (rn_faC0 rfl (he4.op rfl) rfl w3) ?_
  intro a5 he5
  clear he4 a4
  refine lV (Value.int .i32 c.r) he5 rfl rfl (wanted_plain rfl _) (rn_ld1 rfl (he5.op rfl) Tryd.underlying21 (hH3.at (i := 1) rfl) rfl) ?_
  intro a6 he6
  clear he5 a5
  refine lV (Value.int .u64 c.r) he6 rfl rfl (wanted_plain rfl _) (rn_cvIU rfl (he6.op rfl) (u64_wraps _ (by omega) (by omega)) w3) ?_
  intro a7 he7
  clear he6 a6
  refine lV (Value.pointer (some ⟨p1, 4, none⟩)) he7 rfl rfl (wanted_plain rfl _) (rn_faC2 rfl (he7.op rfl) rfl w3) ?_
  intro a8 he8
  clear he7 a7
  refine lV (Value.int .i64 c.wd) he8 rfl rfl (wanted_plain rfl _) (rn_ld1 rfl (he8.op rfl) Tryd.underlying3 (hH3.at (i := 1) rfl) rfl) ?_
  intro a9 he9
  clear he8 a8
  refine lV (Value.int .u64 c.wd) he9 rfl rfl (wanted_plain rfl _) (rn_cvWU rfl (he9.op rfl) (u64_wraps _ (by omega) (by omega)) w3) ?_
  intro a10 he10
  clear he9 a9
  refine lV (Value.int .u64 (2097152 * c.wd)) he10 rfl rfl (wanted_plain rfl _) (rn_mulU rfl (he10.op rfl) (he10.op rfl) (u64_wraps _ (by omega) (by omega)) w3) ?_
  intro a11 he11
  clear he10 a10
  refine lV (Value.int .u64 (c.r + 2097152 * c.wd)) he11 rfl rfl (wanted_plain rfl _) (rn_addU rfl (he11.op rfl) (he11.op rfl) (u64_wraps _ (by omega) (by omega)) w3) ?_
  intro a12 he12
  clear he11 a11
  refine lV (Value.int .u64 (c.r + 2097152 * c.wd)) he12 rfl rfl (wanted_plain rfl _) (rn_asg rfl (he12.op rfl) w3) ?_
  intro a13 he13
  clear he12 a12
  refine wpList_nil ?_
  refine then_ok ?_
  refine wp_seq ?_
  refine wp_region_lit ?_
  refine lV (Value.pointer (some ⟨p1, 1, none⟩)) he13 rfl rfl (wanted_plain rfl _) (rn_faC1 rfl (he13.op rfl) rfl w3) ?_
  intro a14 he14
  clear he13 a13
  refine lV (Value.pointer (some ⟨p1, 1, none⟩)) he14 rfl rfl (wanted_plain rfl _) (rn_iaM0 rfl (he14.op rfl) (fun _ => rfl) rfl w3) ?_
  intro a15 he15
  clear he14 a14
  refine lV (Value.int .i32 c.m0) he15 rfl rfl (wanted_plain rfl _) (rn_ld1 rfl (he15.op rfl) Tryd.underlying21 (hH3.at (i := 1) rfl) rfl) ?_
  intro a16 he16
  clear he15 a15
  refine lV (Value.int .u64 c.m0) he16 rfl rfl (wanted_plain rfl _) (rn_cvIU rfl (he16.op rfl) (u64_wraps _ (by omega) (by omega)) w3) ?_
  intro a17 he17
  clear he16 a16
  refine lV (Value.pointer (some ⟨p1, 1, none⟩)) he17 rfl rfl (wanted_plain rfl _) (rn_faC1 rfl (he17.op rfl) rfl w3) ?_
  intro a18 he18
  clear he17 a17
  refine lV (Value.pointer (some ⟨p1, 2, none⟩)) he18 rfl rfl (wanted_plain rfl _) (rn_iaM1 rfl (he18.op rfl) (fun _ => rfl) rfl w3) ?_
  intro a19 he19
  clear he18 a18
  refine lV (Value.int .i32 c.m1) he19 rfl rfl (wanted_plain rfl _) (rn_ld1 rfl (he19.op rfl) Tryd.underlying21 (hH3.at (i := 1) rfl) rfl) ?_
  intro a20 he20
  clear he19 a19
  refine lV (Value.int .u64 c.m1) he20 rfl rfl (wanted_plain rfl _) (rn_cvIU rfl (he20.op rfl) (u64_wraps _ (by omega) (by omega)) w3) ?_
  intro a21 he21
  clear he20 a20
  refine lV (Value.pointer (some ⟨p1, 1, none⟩)) he21 rfl rfl (wanted_plain rfl _) (rn_faC1 rfl (he21.op rfl) rfl w3) ?_
  intro a22 he22
  clear he21 a21
  refine lV (Value.pointer (some ⟨p1, 3, none⟩)) he22 rfl rfl (wanted_plain rfl _) (rn_iaM2 rfl (he22.op rfl) (fun _ => rfl) rfl w3) ?_
  intro a23 he23
  clear he22 a22
  refine lV (Value.int .i32 c.m2) he23 rfl rfl (wanted_plain rfl _) (rn_ld1 rfl (he23.op rfl) Tryd.underlying21 (hH3.at (i := 1) rfl) rfl) ?_
  intro a24 he24
  clear he23 a23
  refine lV (Value.int .u64 c.m2) he24 rfl rfl (wanted_plain rfl _) (rn_cvIU rfl (he24.op rfl) (u64_wraps _ (by omega) (by omega)) w3) ?_
  intro a25 he25
  clear he24 a24
  refine lV (Value.int .u64 (2097152 * c.m2)) he25 rfl rfl (wanted_plain rfl _) (rn_mulU rfl (he25.op rfl) (he25.op rfl) (u64_wraps _ (by omega) (by omega)) w3) ?_
  intro a26 he26
  clear he25 a25
  refine lV (Value.int .u64 (c.m1 + 2097152 * c.m2)) he26 rfl rfl (wanted_plain rfl _) (rn_addU rfl (he26.op rfl) (he26.op rfl) (u64_wraps _ (by omega) (by omega)) w3) ?_
  intro a27 he27
  clear he26 a26
  refine lV (Value.int .u64 (2097152 * (c.m1 + 2097152 * c.m2))) he27 rfl rfl (wanted_plain rfl _) (rn_mulU rfl (he27.op rfl) (he27.op rfl) (u64_wraps _ (by omega) (by omega)) w3) ?_
  intro a28 he28
  clear he27 a27
  refine lV (Value.int .u64 (c.m0 + 2097152 * (c.m1 + 2097152 * c.m2))) he28 rfl rfl (wanted_plain rfl _) (rn_addU rfl (he28.op rfl) (he28.op rfl) (u64_wraps _ (by omega) (by omega)) w3) ?_
  intro a29 he29
  clear he28 a28
  refine lV (Value.int .u64 (c.m0 + 2097152 * (c.m1 + 2097152 * c.m2))) he29 rfl rfl (wanted_plain rfl _) (rn_asg rfl (he29.op rfl) w3) ?_
  intro a30 he30
  clear he29 a29
  refine wpList_nil ?_
  refine then_ok ?_
  have he31 : Env 35 [(4, Value.int .u64 (c.m0 + 2097152 * (c.m1 + 2097152 * c.m2))), (3, Value.int .u64 (c.r + 2097152 * c.wd)), (2, Value.pointer (some ⟨p3, 0, none⟩)), (1, Value.pointer (some ⟨p1, 0, none⟩)), (0, Ce.v c)] a30 := he30.mem ⟨rfl, rfl, rfl, rfl, rfl, trivial⟩
  clear he30
  refine wp_seq ?_
  refine wp_region_lit ?_
  refine lV (Value.pointer (some ⟨p1, 5, none⟩)) he31 rfl rfl (wanted_plain rfl _) (rn_faC3 rfl (he31.op rfl) rfl w3) ?_
  intro a32 he32
  clear he31 a30
  refine lV (Pn.v c.p) he32 rfl rfl (wanted_plain rfl _) (rn_ldp [Value.int .i64 c.p.fore.k, Value.int .u8 c.p.fore.i, Value.int .u8 c.p.fore.r, Value.int .u8 c.p.fore.g, Value.int .u8 c.p.fore.b, Value.int .i64 c.p.back.k, Value.int .u8 c.p.back.i, Value.int .u8 c.p.back.r, Value.int .u8 c.p.back.g, Value.int .u8 c.p.back.b, Value.int .u8 c.p.fl] rfl (he32.op rfl) und27 rfl infoP11 (hH3.at (i := 1) rfl) rfl) ?_
  intro a33 he33
  clear he32 a32
  refine lC he33 rfl rfl Tryd.func32 (by kernel_rfl) rfl rfl (wanted_plain rfl _) rfl (RPack_any c.p hp w3) ?_
  intro w34 a35 hn he35
  have hH34 := hH3.call hn
  clear he33 a33 hH3 hn
  refine lV (Value.int .u64 (c.r + 2097152 * c.wd)) he35 rfl rfl (wanted_plain rfl _) (rn_mv rfl (he35.op rfl) w34) ?_
  intro a36 he36
  clear he35 a35
  refine lV (Value.int .u64 (c.m0 + 2097152 * (c.m1 + 2097152 * c.m2))) he36 rfl rfl (wanted_plain rfl _) (rn_mv rfl (he36.op rfl) w34) ?_
  intro a37 he37
  clear he36 a36
  refine lV (Wd.v ⟨(wordI c.p), (c.r + 2097152 * c.wd), (c.m0 + 2097152 * (c.m1 + 2097152 * c.m2))⟩) he37 rfl rfl (wanted_plain rfl _) (rn_bW rfl (he37.op rfl) (he37.op rfl) (he37.op rfl) w34) ?_
  intro a38 he38
  clear he37 a37
  refine lSetV 0 (Wd.cs ⟨(wordI c.p), (c.r + 2097152 * c.wd), (c.m0 + 2097152 * (c.m1 + 2097152 * c.m2))⟩) (cs := (Wd.cs ⟨(wordI c.p), (c.r + 2097152 * c.wd), (c.m0 + 2097152 * (c.m1 + 2097152 * c.m2))⟩)) he38 hH34 rfl (wanted_plain rfl _) rfl rfl rfl rfl rfl (by kernel_rfl) (by kernel_rfl) (by kernel_rfl) rfl ?_
  intro w39 a40 hH39 he40
  replace hH39 : Hp w [⟨p3, 34, (Wd.cs ⟨(wordI c.p), (c.r + 2097152 * c.wd), (c.m0 + 2097152 * (c.m1 + 2097152 * c.m2))⟩)⟩, ⟨p1, 30, (Ce.cs c)⟩] w39 := hH39
  clear he38 a38 hH34
  refine wpList_nil ?_
  refine then_ok ?_
  refine wp_ret ?_
  try simp only [Exit.then, Exit.inBlock]
  exact ret_row rfl he40 rfl (hH39.at (i := 0) rfl) Tryd.underlying34 rfl infoW3 ⟨rfl, hH39.new⟩

set_option linter.unusedSimpArgs false in
set_option maxRecDepth 100000 in
set_option maxHeartbeats 1600000 in
theorem marksWord_any (c : Ce) (h : cellB c = true) (w : World) :
    Calls Tryd.prog 56 #[.agg (arM c)] w fun e w' => e = .returned (.int .u64 (wordsI c).c) ∧ New w w' := by
  obtain ⟨r0, r1, a0, a1, b0, b1, c0, c1, w0, w1⟩ := cell_in h
  clear h
  have o1 : bits .or .u64 0 c.m0 = c.m0 := by rw [or64 64 0 c.m0 (by omega) (by omega) (by omega) (by omega) (by omega) (by omega)]; omega
  have o2 : bits .or .u64 c.m0 (c.m1 * 2097152) = c.m0 + 2097152 * c.m1 := by rw [or64' 21 (c.m1 * 2097152) c.m0 (by omega) (by omega) (by omega) (by omega) (by omega) (by omega)]; omega
  have o3 : bits .or .u64 (c.m0 + 2097152 * c.m1) (c.m2 * 4398046511104) = c.m0 + 2097152 * (c.m1 + 2097152 * c.m2) := by rw [or64' 42 (c.m2 * 4398046511104) (c.m0 + 2097152 * c.m1) (by omega) (by omega) (by omega) (by omega) (by omega) (by omega)]; omega
  refine calls_args (vl := [Value.agg (arM c)]) 20 Tryd.func56 rfl Tryd.ntmps56 (by kernel_rfl) (fun a he => ?_)
  have he0 : Env 20 [(0, Value.agg (arM c))] a := he
  clear he
  have hH := Hp.start w
  refine wp_seq ?_
  refine wp_region_lit ?_
  refine lNew (fun p => .pointer (some ⟨p, 0, none⟩)) he0 hH rfl rfl (wanted_plain rfl _) (rn_boxM rfl (he0.op rfl) w) ?_
  intro p1 w1 a2 hn hH1 he2
  clear he0 a hH hn
  refine lV (Value.int .u64 0) he2 rfl rfl (wanted_plain rfl _) (rn_asg rfl (he2.op rfl) w1) ?_
  intro a3 he3
  clear he2 a2
  refine wpList_nil ?_
  refine then_ok ?_
  refine wp_seq ?_
  refine wp_region_lit ?_
  refine lV (Value.int .u64 0) he3 rfl rfl (wanted_plain rfl _) (rn_asg rfl (he3.op rfl) w1) ?_
  intro a4 he4
  clear he3 a3
  refine wpList_nil ?_
  refine then_ok ?_
  refine wp_seq ?_
  refine wp_seq ?_
  refine wp_region_lit ?_
  refine lV (Value.agg #[Value.int .i32 c.m0, Value.int .i32 c.m1, Value.int .i32 c.m2]) he4 rfl rfl (wanted_plain rfl _) (rn_ldp [Value.int .i32 c.m0, Value.int .i32 c.m1, Value.int .i32 c.m2] rfl (he4.op rfl) Tryd.underlying22 rfl infoM3 (hH1.at (i := 0) rfl) rfl) ?_
  intro a5 he5
  clear he4 a4
  refine lV (Value.int .i64 0) he5 rfl rfl (wanted_plain rfl _) (rn_mv rfl (he5.op rfl) w1) ?_
  intro a6 he6
  clear he5 a5
  refine wpList_nil ?_
  refine then_ok ?_
  refine wp_block ?_
  refine wp_loop_rounds 4 ?_
  have he7 : Env 20 [(7, Value.int .i64 0), (6, Value.agg #[Value.int .i32 c.m0, Value.int .i32 c.m1, Value.int .i32 c.m2]), (3, Value.int .u64 0), (0, Value.agg #[Value.int .i32 c.m0, Value.int .i32 c.m1, Value.int .i32 c.m2])] a6 := he6.mem ⟨rfl, rfl, rfl, rfl, trivial⟩
  clear he6
  have hH8 := hH1.tail rfl
  clear hH1
  as_aux_lemma =>
    refine wp_seq ?_
    refine wp_region_lit ?_
    refine lV (Value.bool true) he7 rfl rfl (wanted_plain rfl _) (rn_lss rfl (he7.op rfl) (he7.op rfl) (by decide) w1) ?_
    intro a9 he9
    clear he7 a6
    refine wpList_nil ?_
    refine then_ok ?_
    refine wp_seq ?_
    refine wp_cond_true (he9.op rfl) ?_
    refine wp_skip ?_
    refine then_ok ?_
    refine wp_seq ?_
    refine wp_block ?_
    refine wp_seq ?_
    refine wp_region_lit ?_
    refine lV (Value.int .i64 0) he9 rfl rfl (wanted_plain rfl _) (rn_mv rfl (he9.op rfl) w1) ?_
    intro a10 he10
    clear he9 a9
    refine lV (Value.int .i32 c.m0) he10 rfl rfl (wanted_plain rfl _) (rn_ixM0 rfl (he10.op rfl) (he10.op rfl) w1) ?_
    intro a11 he11
    clear he10 a10
    refine lV (Value.int .i64 0) he11 rfl rfl (wanted_plain rfl _) (rn_asg rfl (he11.op rfl) w1) ?_
    intro a12 he12
    clear he11 a11
    refine lV (Value.int .i32 c.m0) he12 rfl rfl (wanted_plain rfl _) (rn_asg rfl (he12.op rfl) w1) ?_
    intro a13 he13
    clear he12 a12
    refine wpList_nil ?_
    refine then_ok ?_
    refine wp_region_lit ?_
    refine lV (Value.int .u64 0) he13 rfl rfl (wanted_plain rfl _) (rn_mv rfl (he13.op rfl) w1) ?_
    intro a14 he14
    clear he13 a13
    refine lV (Value.int .i32 c.m0) he14 rfl rfl (wanted_plain rfl _) (rn_mv rfl (he14.op rfl) w1) ?_
    intro a15 he15
    clear he14 a14
    refine lV (Value.int .u64 c.m0) he15 rfl rfl (wanted_plain rfl _) (rn_cvIU rfl (he15.op rfl) (u64_wraps _ (by omega) (by omega)) w1) ?_
    intro a16 he16
    clear he15 a15
    refine lV (Value.int .i64 0) he16 rfl rfl (wanted_plain rfl _) (rn_mv rfl (he16.op rfl) w1) ?_
    intro a17 he17
    clear he16 a16
    refine lV (Value.int .i64 0) he17 rfl rfl (wanted_plain rfl _) (rn_mulI rfl (he17.op rfl) (he17.op rfl) (by decide) w1) ?_
    intro a18 he18
    clear he17 a17
    refine lV (Value.int .u64 c.m0) he18 rfl rfl (wanted_plain rfl _) (rn_shlI 0 rfl (he18.op rfl) (he18.op rfl) (by decide) (by rw [u64_wraps _ (by omega) (by omega)]; omega) w1) ?_
    intro a19 he19
    clear he18 a18
    refine lV (Value.int .u64 c.m0) he19 rfl rfl (wanted_plain rfl _) (rn_orU rfl (he19.op rfl) (he19.op rfl) o1 w1) ?_
    intro a20 he20
    clear he19 a19
    refine lV (Value.int .u64 c.m0) he20 rfl rfl (wanted_plain rfl _) (rn_asg rfl (he20.op rfl) w1) ?_
    intro a21 he21
    clear he20 a20
    refine wpList_nil ?_
    refine block_ok ?_
    refine then_ok ?_
    refine wp_region_lit ?_
    refine lV (Value.int .i64 1) he21 rfl rfl (wanted_plain rfl _) (rn_add1 rfl (he21.op rfl) (he21.op rfl) (by decide) w1) ?_
    intro a22 he22
    clear he21 a21
    refine lV (Value.int .i64 1) he22 rfl rfl (wanted_plain rfl _) (rn_mv rfl (he22.op rfl) w1) ?_
    intro a23 he23
    clear he22 a22
    refine wpList_nil ?_
    refine then_ok ?_
    have he24 : Env 20 [(7, Value.int .i64 1), (3, Value.int .u64 c.m0), (6, Value.agg #[Value.int .i32 c.m0, Value.int .i32 c.m1, Value.int .i32 c.m2]), (0, Value.agg #[Value.int .i32 c.m0, Value.int .i32 c.m1, Value.int .i32 c.m2])] a23 := he23.mem ⟨rfl, rfl, rfl, rfl, trivial⟩
    clear he23
    as_aux_lemma =>
      refine wp_seq ?_
      refine wp_region_lit ?_
      refine lV (Value.bool true) he24 rfl rfl (wanted_plain rfl _) (rn_lss rfl (he24.op rfl) (he24.op rfl) (by decide) w1) ?_
      intro a25 he25
      clear he24 a23
      refine wpList_nil ?_
      refine then_ok ?_
      refine wp_seq ?_
      refine wp_cond_true (he25.op rfl) ?_
      refine wp_skip ?_
      refine then_ok ?_
      refine wp_seq ?_
      refine wp_block ?_
      refine wp_seq ?_
      refine wp_region_lit ?_
      refine lV (Value.int .i64 1) he25 rfl rfl (wanted_plain rfl _) (rn_mv rfl (he25.op rfl) w1) ?_
      intro a26 he26
      clear he25 a25
      refine lV (Value.int .i32 c.m1) he26 rfl rfl (wanted_plain rfl _) (rn_ixM1 rfl (he26.op rfl) (he26.op rfl) w1) ?_
      intro a27 he27
      clear he26 a26
      refine lV (Value.int .i64 1) he27 rfl rfl (wanted_plain rfl _) (rn_asg rfl (he27.op rfl) w1) ?_
      intro a28 he28
      clear he27 a27
      refine lV (Value.int .i32 c.m1) he28 rfl rfl (wanted_plain rfl _) (rn_asg rfl (he28.op rfl) w1) ?_
      intro a29 he29
      clear he28 a28
      refine wpList_nil ?_
      refine then_ok ?_
      refine wp_region_lit ?_
      refine lV (Value.int .u64 c.m0) he29 rfl rfl (wanted_plain rfl _) (rn_mv rfl (he29.op rfl) w1) ?_
      intro a30 he30
      clear he29 a29
      refine lV (Value.int .i32 c.m1) he30 rfl rfl (wanted_plain rfl _) (rn_mv rfl (he30.op rfl) w1) ?_
      intro a31 he31
      clear he30 a30
      refine lV (Value.int .u64 c.m1) he31 rfl rfl (wanted_plain rfl _) (rn_cvIU rfl (he31.op rfl) (u64_wraps _ (by omega) (by omega)) w1) ?_
      intro a32 he32
      clear he31 a31
      refine lV (Value.int .i64 1) he32 rfl rfl (wanted_plain rfl _) (rn_mv rfl (he32.op rfl) w1) ?_
      intro a33 he33
      clear he32 a32
      refine lV (Value.int .i64 21) he33 rfl rfl (wanted_plain rfl _) (rn_mulI rfl (he33.op rfl) (he33.op rfl) (by decide) w1) ?_
      intro a34 he34
      clear he33 a33
      refine lV (Value.int .u64 (c.m1 * 2097152)) he34 rfl rfl (wanted_plain rfl _) (rn_shlI 21 rfl (he34.op rfl) (he34.op rfl) (by decide) (by rw [u64_wraps _ (by omega) (by omega)]; rfl) w1) ?_
      intro a35 he35
      clear he34 a34
      refine lV (Value.int .u64 (c.m0 + 2097152 * c.m1)) he35 rfl rfl (wanted_plain rfl _) (rn_orU rfl (he35.op rfl) (he35.op rfl) o2 w1) ?_
      intro a36 he36
      clear he35 a35
      refine lV (Value.int .u64 (c.m0 + 2097152 * c.m1)) he36 rfl rfl (wanted_plain rfl _) (rn_asg rfl (he36.op rfl) w1) ?_
      intro a37 he37
      clear he36 a36
      refine wpList_nil ?_
      refine block_ok ?_
      refine then_ok ?_
      refine wp_region_lit ?_
      refine lV (Value.int .i64 2) he37 rfl rfl (wanted_plain rfl _) (rn_add1 rfl (he37.op rfl) (he37.op rfl) (by decide) w1) ?_
      intro a38 he38
      clear he37 a37
      refine lV (Value.int .i64 2) he38 rfl rfl (wanted_plain rfl _) (rn_mv rfl (he38.op rfl) w1) ?_
      intro a39 he39
      clear he38 a38
      refine wpList_nil ?_
      refine then_ok ?_
      have he40 : Env 20 [(7, Value.int .i64 2), (3, Value.int .u64 (c.m0 + 2097152 * c.m1)), (6, Value.agg #[Value.int .i32 c.m0, Value.int .i32 c.m1, Value.int .i32 c.m2]), (0, Value.agg #[Value.int .i32 c.m0, Value.int .i32 c.m1, Value.int .i32 c.m2])] a39 := he39.mem ⟨rfl, rfl, rfl, rfl, trivial⟩
      clear he39
      as_aux_lemma =>
        refine wp_seq ?_
        refine wp_region_lit ?_
        refine lV (Value.bool true) he40 rfl rfl (wanted_plain rfl _) (rn_lss rfl (he40.op rfl) (he40.op rfl) (by decide) w1) ?_
        intro a41 he41
        clear he40 a39
        refine wpList_nil ?_
        refine then_ok ?_
        refine wp_seq ?_
        refine wp_cond_true (he41.op rfl) ?_
        refine wp_skip ?_
        refine then_ok ?_
        refine wp_seq ?_
        refine wp_block ?_
        refine wp_seq ?_
        refine wp_region_lit ?_
        refine lV (Value.int .i64 2) he41 rfl rfl (wanted_plain rfl _) (rn_mv rfl (he41.op rfl) w1) ?_
        intro a42 he42
        clear he41 a41
        refine lV (Value.int .i32 c.m2) he42 rfl rfl (wanted_plain rfl _) (rn_ixM2 rfl (he42.op rfl) (he42.op rfl) w1) ?_
        intro a43 he43
        clear he42 a42
        refine lV (Value.int .i64 2) he43 rfl rfl (wanted_plain rfl _) (rn_asg rfl (he43.op rfl) w1) ?_
        intro a44 he44
        clear he43 a43
        refine lV (Value.int .i32 c.m2) he44 rfl rfl (wanted_plain rfl _) (rn_asg rfl (he44.op rfl) w1) ?_
        intro a45 he45
        clear he44 a44
        refine wpList_nil ?_
        refine then_ok ?_
        refine wp_region_lit ?_
        refine lV (Value.int .u64 (c.m0 + 2097152 * c.m1)) he45 rfl rfl (wanted_plain rfl _) (rn_mv rfl (he45.op rfl) w1) ?_
        intro a46 he46
        clear he45 a45
        refine lV (Value.int .i32 c.m2) he46 rfl rfl (wanted_plain rfl _) (rn_mv rfl (he46.op rfl) w1) ?_
        intro a47 he47
        clear he46 a46
        refine lV (Value.int .u64 c.m2) he47 rfl rfl (wanted_plain rfl _) (rn_cvIU rfl (he47.op rfl) (u64_wraps _ (by omega) (by omega)) w1) ?_
        intro a48 he48
        clear he47 a47
        refine lV (Value.int .i64 2) he48 rfl rfl (wanted_plain rfl _) (rn_mv rfl (he48.op rfl) w1) ?_
        intro a49 he49
        clear he48 a48
        refine lV (Value.int .i64 42) he49 rfl rfl (wanted_plain rfl _) (rn_mulI rfl (he49.op rfl) (he49.op rfl) (by decide) w1) ?_
        intro a50 he50
        clear he49 a49
        refine lV (Value.int .u64 (c.m2 * 4398046511104)) he50 rfl rfl (wanted_plain rfl _) (rn_shlI 42 rfl (he50.op rfl) (he50.op rfl) (by decide) (by rw [u64_wraps _ (by omega) (by omega)]; rfl) w1) ?_
        intro a51 he51
        clear he50 a50
        refine lV (Value.int .u64 (c.m0 + 2097152 * (c.m1 + 2097152 * c.m2))) he51 rfl rfl (wanted_plain rfl _) (rn_orU rfl (he51.op rfl) (he51.op rfl) o3 w1) ?_
        intro a52 he52
        clear he51 a51
        refine lV (Value.int .u64 (c.m0 + 2097152 * (c.m1 + 2097152 * c.m2))) he52 rfl rfl (wanted_plain rfl _) (rn_asg rfl (he52.op rfl) w1) ?_
        intro a53 he53
        clear he52 a52
        refine wpList_nil ?_
        refine block_ok ?_
        refine then_ok ?_
        refine wp_region_lit ?_
        refine lV (Value.int .i64 3) he53 rfl rfl (wanted_plain rfl _) (rn_add1 rfl (he53.op rfl) (he53.op rfl) (by decide) w1) ?_
        intro a54 he54
        clear he53 a53
        refine lV (Value.int .i64 3) he54 rfl rfl (wanted_plain rfl _) (rn_mv rfl (he54.op rfl) w1) ?_
        intro a55 he55
        clear he54 a54
        refine wpList_nil ?_
        refine then_ok ?_
        have he56 : Env 20 [(7, Value.int .i64 3), (3, Value.int .u64 (c.m0 + 2097152 * (c.m1 + 2097152 * c.m2))), (6, Value.agg #[Value.int .i32 c.m0, Value.int .i32 c.m1, Value.int .i32 c.m2]), (0, Value.agg #[Value.int .i32 c.m0, Value.int .i32 c.m1, Value.int .i32 c.m2])] a55 := he55.mem ⟨rfl, rfl, rfl, rfl, trivial⟩
        clear he55
        as_aux_lemma =>
          refine wp_seq ?_
          refine wp_region_lit ?_
          refine lV (Value.bool false) he56 rfl rfl (wanted_plain rfl _) (rn_lss rfl (he56.op rfl) (he56.op rfl) (by decide) w1) ?_
          intro a57 he57
          clear he56 a55
          refine wpList_nil ?_
          refine then_ok ?_
          refine wp_seq ?_
          refine wp_cond_false (he57.op rfl) ?_
          refine wp_exit ?_
          simp only [Exit.then, Exit.inBlock, if_true]
          refine wp_seq ?_
          refine wp_region_lit ?_
          refine lV (Value.int .u64 (c.m0 + 2097152 * (c.m1 + 2097152 * c.m2))) he57 rfl rfl (wanted_plain rfl _) (rn_mv rfl (he57.op rfl) w1) ?_
          intro a58 he58
          clear he57 a57
          refine lV (Value.int .u64 (c.m0 + 2097152 * (c.m1 + 2097152 * c.m2))) he58 rfl rfl (wanted_plain rfl _) (rn_asg rfl (he58.op rfl) w1) ?_
          intro a59 he59
          clear he58 a58
          refine wpList_nil ?_
          refine then_ok ?_
          refine wp_ret ?_
          try simp only [Exit.then, Exit.inBlock]
          exact ret_env rfl he59 rfl ⟨rfl, hH8.new⟩

end Go.Proofs.YtaiijndldngnkaaDoor
namespace Go.Proofs.YtaiijndldngnkaaDoor
open Go.RowKit

set_option linter.unusedSimpArgs false in
set_option maxRecDepth 100000 in
set_option maxHeartbeats 1600000 in
theorem wordsOf_any (c : Ce) (h : cellB c = true) (hp : c.p.Ok) (w : World) :
    Calls Tryd.prog 40 #[c.v] w fun e w' => e = .returned (wordsI c).v ∧ New w w' := by
  have hc := h
  obtain ⟨r0, r1, a0, a1, b0, b1, c0, c1, w0, w1⟩ := cell_in h
  clear h
  have o1 : bits .or .u64 c.r (c.wd * 2097152) = c.r + 2097152 * c.wd := by rw [or64' 21 (c.wd * 2097152) c.r (by omega) (by omega) (by omega) (by omega) (by omega) (by omega)]; omega
  refine calls_args (vl := [Ce.v c]) 24 Tryd.func40 rfl Tryd.ntmps40 (by kernel_rfl) (fun a he => ?_)
  have he0 : Env 24 [(0, Ce.v c)] a := he
  clear he
  have hH := Hp.start w
  refine wp_seq ?_
  refine wp_region_lit ?_
  refine lNew (fun p => .pointer (some ⟨p, 0, none⟩)) he0 hH rfl rfl (wanted_plain rfl _) (rn_boxC rfl (he0.op rfl) w) ?_
  intro p1 w1 a2 hn hH1 he2
  clear he0 a hH hn
  refine lNew (fun p => .pointer (some ⟨p, 0, none⟩)) he2 hH1 rfl rfl (wanted_plain rfl _) (rn_allocW rfl w1) ?_
  intro p3 w3 a4 hn hH3 he4
  clear he2 a2 hH1 hn
  refine wpList_nil ?_
  refine then_ok ?_
  refine wp_seq ?_
  refine wp_region_lit ?_
  refine lV (Value.pointer (some ⟨p1, 5, none⟩)) he4 rfl rfl (wanted_plain rfl _) (rn_faC3 rfl (he4.op rfl) rfl w3) ?_
  intro a5 he5
  clear he4 a4
  refine lV (Pn.v c.p) he5 rfl rfl (wanted_plain rfl _) (rn_ldp [Value.int .i64 c.p.fore.k, Value.int .u8 c.p.fore.i, Value.int .u8 c.p.fore.r, Value.int .u8 c.p.fore.g, Value.int .u8 c.p.fore.b, Value.int .i64 c.p.back.k, Value.int .u8 c.p.back.i, Value.int .u8 c.p.back.r, Value.int .u8 c.p.back.g, Value.int .u8 c.p.back.b, Value.int .u8 c.p.fl] rfl (he5.op rfl) und27 rfl infoP11 (hH3.at (i := 1) rfl) rfl) ?_
  intro a6 he6
  clear he5 a5
  refine lC he6 rfl rfl Tryd.func55 (by kernel_rfl) rfl rfl (wanted_plain rfl _) rfl (Pack_yes c.p hp (cell_pen hc) w3) ?_
  intro w7 a8 hn he8
  have hH7 := hH3.call hn
  clear he6 a6 hH3 hn
  refine lV (Value.tuple #[Value.int .u64 (wordI c.p), Value.int .i64 0]) he8 rfl rfl (wanted_plain rfl _) (rn_mv rfl (he8.op rfl) w7) ?_
  intro a9 he9
  clear he8 a8
  refine lV (Value.int .u64 (wordI c.p)) he9 rfl rfl (wanted_plain rfl _) (rn_ext rfl (he9.op rfl) rfl w7) ?_
  intro a10 he10
  clear he9 a9
  refine lV (Value.int .i64 0) he10 rfl rfl (wanted_plain rfl _) (rn_ext rfl (he10.op rfl) rfl w7) ?_
  intro a11 he11
  clear he10 a10
  refine lV (Value.int .u64 (wordI c.p)) he11 rfl rfl (wanted_plain rfl _) (rn_asg rfl (he11.op rfl) w7) ?_
  intro a12 he12
  clear he11 a11
  refine lV (Value.int .i64 0) he12 rfl rfl (wanted_plain rfl _) (rn_asg rfl (he12.op rfl) w7) ?_
  intro a13 he13
  clear he12 a12
  refine wpList_nil ?_
  refine then_ok ?_
  have he14 : Env 24 [(3, Value.int .u64 (wordI c.p)), (2, Value.pointer (some ⟨p3, 0, none⟩)), (1, Value.pointer (some ⟨p1, 0, none⟩)), (0, Ce.v c)] a13 := he13.mem ⟨rfl, rfl, rfl, rfl, trivial⟩
  clear he13
  refine wp_seq ?_
  refine wp_region_held_drew (S := Hp w [⟨p1, 30, (Ce.cs c)⟩]) (by kernel_rfl) ((hH7.drew).drop1 0 rfl) (fun _ => ?_)
  have hn : New w7 (World.drew w7) := (Fr.refl _ _).drew
  clear hn
  have hH15 := hH7.drew
  clear hH7
  generalize World.drew w7 = w15 at *
  refine hV (fuel := 13) (i := 0) (Value.int .u64 (wordI c.p)) he14 rfl rfl rfl (by kernel_rfl) (by kernel_rfl) (by kernel_rfl) (fun _ _ _ h => h) (wanted_plain rfl _) (fun w' _ => rn_mv rfl (he14.op rfl) w') (hH15.drop1 0 rfl) ?_
  intro a16 he16
  clear he14 a13
  refine hV (fuel := 12) (i := 1) (Value.pointer (some ⟨p1, 0, none⟩)) he16 rfl rfl rfl (by kernel_rfl) (by kernel_rfl) (by kernel_rfl) (fun _ _ _ h => h) (wanted_plain rfl _) (fun w' _ => rn_faC0 rfl (he16.op rfl) rfl w') (hH15.drop1 0 rfl) ?_
  intro a17 he17
  clear he16 a16
  refine hV (fuel := 11) (i := 2) (Value.int .i32 c.r) he17 rfl rfl rfl (by kernel_rfl) (by kernel_rfl) (by kernel_rfl) (fun _ _ _ h => h) (wanted_plain rfl _) (fun w' hw' => rn_ld1 rfl (he17.op rfl) Tryd.underlying21 (hw'.at (i := 0) rfl) rfl) (hH15.drop1 0 rfl) ?_
  intro a18 he18
  clear he17 a17
  refine hV (fuel := 10) (i := 3) (Value.int .u64 c.r) he18 rfl rfl rfl (by kernel_rfl) (by kernel_rfl) (by kernel_rfl) (fun _ _ _ h => h) (wanted_plain rfl _) (fun w' _ => rn_cvIU rfl (he18.op rfl) (u64_wraps _ (by omega) (by omega)) w') (hH15.drop1 0 rfl) ?_
  intro a19 he19
  clear he18 a18
  refine hV (fuel := 9) (i := 4) (Value.pointer (some ⟨p1, 4, none⟩)) he19 rfl rfl rfl (by kernel_rfl) (by kernel_rfl) (by kernel_rfl) (fun _ _ _ h => h) (wanted_plain rfl _) (fun w' _ => rn_faC2 rfl (he19.op rfl) rfl w') (hH15.drop1 0 rfl) ?_
  intro a20 he20
  clear he19 a19
  refine hV (fuel := 8) (i := 5) (Value.int .i64 c.wd) he20 rfl rfl rfl (by kernel_rfl) (by kernel_rfl) (by kernel_rfl) (fun _ _ _ h => h) (wanted_plain rfl _) (fun w' hw' => rn_ld1 rfl (he20.op rfl) Tryd.underlying3 (hw'.at (i := 0) rfl) rfl) (hH15.drop1 0 rfl) ?_
  intro a21 he21
  clear he20 a20
  refine hV (fuel := 7) (i := 6) (Value.int .u64 c.wd) he21 rfl rfl rfl (by kernel_rfl) (by kernel_rfl) (by kernel_rfl) (fun _ _ _ h => h) (wanted_plain rfl _) (fun w' _ => rn_cvWU rfl (he21.op rfl) (u64_wraps _ (by omega) (by omega)) w') (hH15.drop1 0 rfl) ?_
  intro a22 he22
  clear he21 a21
  refine hV (fuel := 6) (i := 7) (Value.int .u64 (c.wd * 2097152)) he22 rfl rfl rfl (by kernel_rfl) (by kernel_rfl) (by kernel_rfl) (fun _ _ _ h => h) (wanted_plain rfl _) (fun w' _ => rn_shlU 21 rfl (he22.op rfl) (he22.op rfl) (by decide) (by rw [u64_wraps _ (by omega) (by omega)]; rfl) w') (hH15.drop1 0 rfl) ?_
  intro a23 he23
  clear he22 a22
  refine hV (fuel := 5) (i := 8) (Value.int .u64 (c.r + 2097152 * c.wd)) he23 rfl rfl rfl (by kernel_rfl) (by kernel_rfl) (by kernel_rfl) (fun _ _ _ h => h) (wanted_plain rfl _) (fun w' _ => rn_orU rfl (he23.op rfl) (he23.op rfl) o1 w') (hH15.drop1 0 rfl) ?_
  intro a24 he24
  clear he23 a23
  refine hV (fuel := 4) (i := 9) (Value.pointer (some ⟨p1, 1, none⟩)) he24 rfl rfl rfl (by kernel_rfl) (by kernel_rfl) (by kernel_rfl) (fun _ _ _ h => h) (wanted_plain rfl _) (fun w' _ => rn_faC1 rfl (he24.op rfl) rfl w') (hH15.drop1 0 rfl) ?_
  intro a25 he25
  clear he24 a24
  refine hV (fuel := 3) (i := 10) (Value.agg #[Value.int .i32 c.m0, Value.int .i32 c.m1, Value.int .i32 c.m2]) he25 rfl rfl rfl (by kernel_rfl) (by kernel_rfl) (by kernel_rfl) (fun _ _ _ h => h) (wanted_plain rfl _) (fun w' hw' => rn_ldp [Value.int .i32 c.m0, Value.int .i32 c.m1, Value.int .i32 c.m2] rfl (he25.op rfl) Tryd.underlying22 rfl infoM3 (hw'.at (i := 0) rfl) rfl) (hH15.drop1 0 rfl) ?_
  intro a26 he26
  clear he25 a25
  refine hC (fuel := 2) (i := 11) he26 (by kernel_rfl) rfl rfl rfl Tryd.func56 (by kernel_rfl) rfl rfl (wanted_plain rfl _) rfl (marksWord_any c hc w15) ?_
  rintro _ w27 ⟨rfl, hn⟩
  have hH27 := hH15.call hn
  refine ⟨_, rfl, (hH27.drop1 0 rfl), ?_⟩
  intro a28 he28
  clear he26 a26 hH15 hn
  refine hV (fuel := 1) (i := 12) (Wd.v ⟨(wordI c.p), (c.r + 2097152 * c.wd), (wordsI c).c⟩) he28 rfl rfl rfl (by kernel_rfl) (by kernel_rfl) (by kernel_rfl) (fun _ _ _ h => h) (wanted_plain rfl _) (fun w' _ => rn_bW rfl (he28.op rfl) (he28.op rfl) (he28.op rfl) w') (hH27.drop1 0 rfl) ?_
  intro a29 he29
  clear he28 a28
  replace he29 : Env 24 [(23, Wd.v (wordsI c)), (22, Value.int .u64 (wordsI c).c), (21, Value.agg #[Value.int .i32 c.m0, Value.int .i32 c.m1, Value.int .i32 c.m2]), (20, Value.pointer (some ⟨p1, 1, none⟩)), (19, Value.int .u64 (c.r + 2097152 * c.wd)), (18, Value.int .u64 (c.wd * 2097152)), (17, Value.int .u64 c.wd), (16, Value.int .i64 c.wd), (15, Value.pointer (some ⟨p1, 4, none⟩)), (14, Value.int .u64 c.r), (13, Value.int .i32 c.r), (12, Value.pointer (some ⟨p1, 0, none⟩)), (11, Value.int .u64 (wordI c.p)), (3, Value.int .u64 (wordI c.p)), (2, Value.pointer (some ⟨p3, 0, none⟩)), (1, Value.pointer (some ⟨p1, 0, none⟩)), (0, Ce.v c)] a29 := he29
  refine hSetV (fuel := 0) (n := 13) 0 (Wd.cs (wordsI c)) (cs := (Wd.cs (wordsI c))) he29 hH27 (by kernel_rfl) rfl rfl (wanted_plain rfl _) rfl rfl rfl rfl rfl (by kernel_rfl) (by kernel_rfl) (by kernel_rfl) rfl ?_
  intro w30 a31 hH30 hf he31
  replace hH30 : Hp w [⟨p3, 34, (Wd.cs (wordsI c))⟩, ⟨p1, 30, (Ce.cs c)⟩] w30 := hH30
  refine ⟨(hH30.drop1 0 rfl), ?_⟩
  clear hf
  clear he29 a29 hH27
  refine wpAnyH_done (by kernel_rfl) ?_ _
  refine then_ok ?_
  refine wp_ret ?_
  try simp only [Exit.then, Exit.inBlock]
  exact ret_row rfl he31 rfl (hH30.at (i := 0) rfl) Tryd.underlying34 rfl infoW3 ⟨rfl, hH30.new⟩

set_option linter.unusedSimpArgs false in
set_option maxRecDepth 100000 in
set_option maxHeartbeats 1600000 in
theorem Words_yes (c : Ce) (h : cellB c = true) (hp : c.p.Ok) (w : World) (hT : Tab w) :
    Calls Tryd.prog 26 #[c.v] w fun e w' => e = .returned (.tuple #[(wordsI c).v, .int .i64 0]) ∧ New w w' := by
  refine calls_args (vl := [Ce.v c]) 10 Tryd.func26 rfl Tryd.ntmps26 (by kernel_rfl) (fun a he => ?_)
  have he0 : Env 10 [(0, Ce.v c)] a := he
  clear he
  have hH := Hp.start w
  refine wp_seq ?_
  refine wp_region_lit ?_
  refine lNew (fun p => .pointer (some ⟨p, 0, none⟩)) he0 hH rfl rfl (wanted_plain rfl _) (rn_boxC rfl (he0.op rfl) w) ?_
  intro p1 w1 a2 hn hH1 he2
  clear he0 a hH hn
  refine lNew (fun p => .pointer (some ⟨p, 0, none⟩)) he2 hH1 rfl rfl (wanted_plain rfl _) (rn_allocW rfl w1) ?_
  intro p3 w3 a4 hn hH3 he4
  clear he2 a2 hH1 hn
  refine lV (Value.int .i64 0) he4 rfl rfl (wanted_plain rfl _) (rn_asg rfl (he4.op rfl) w3) ?_
  intro a5 he5
  clear he4 a4
  refine wpList_nil ?_
  refine then_ok ?_
  refine wp_seq ?_
  refine wp_seq ?_
  refine wp_region_lit ?_
  refine lV (Ce.v c) he5 rfl rfl (wanted_plain rfl _) (rn_load rfl (he5.op rfl) (hH3.at (i := 1) rfl)) ?_
  intro a6 he6
  clear he5 a5
  refine lC he6 rfl rfl Tryd.func39 (by kernel_rfl) rfl rfl (wanted_plain rfl _) rfl (CValidK c true h w3 (hT.new hH3.new)) ?_
  intro w7 a8 hn he8
  have hH7 := hH3.call hn
  clear he6 a6 hH3 hn
  refine lV (Value.bool false) he8 rfl rfl (wanted_plain rfl _) (rn_not (b := true) rfl (he8.op rfl) w7) ?_
  intro a9 he9
  clear he8 a8
  refine wpList_nil ?_
  refine then_ok ?_
  refine wp_cond_false (he9.op rfl) ?_
  refine wp_skip ?_
  refine then_ok ?_
  refine wp_seq ?_
  refine wp_region_lit ?_
  refine lV (Ce.v c) he9 rfl rfl (wanted_plain rfl _) (rn_load rfl (he9.op rfl) (hH7.at (i := 1) rfl)) ?_
  intro a10 he10
  clear he9 a9
  refine lC he10 rfl rfl Tryd.func40 (by kernel_rfl) rfl rfl (wanted_plain rfl _) rfl (wordsOf_any c h hp w7) ?_
  intro w11 a12 hn he12
  have hH11 := hH7.call hn
  clear he10 a10 hH7 hn
  refine lSetV 0 (Wd.cs (wordsI c)) (cs := (Wd.cs (wordsI c))) he12 hH11 rfl (wanted_plain rfl _) rfl rfl rfl rfl rfl (by kernel_rfl) (by kernel_rfl) (by kernel_rfl) rfl ?_
  intro w13 a14 hH13 he14
  replace hH13 : Hp w [⟨p3, 34, (Wd.cs (wordsI c))⟩, ⟨p1, 30, (Ce.cs c)⟩] w13 := hH13
  clear he12 a12 hH11
  refine lV (Value.int .i64 0) he14 rfl rfl (wanted_plain rfl _) (rn_asg rfl (he14.op rfl) w13) ?_
  intro a15 he15
  clear he14 a14
  refine wpList_nil ?_
  refine then_ok ?_
  refine wp_ret ?_
  try simp only [Exit.then, Exit.inBlock]
  exact ret_rowt rfl he15 rfl rfl (hH13.at (i := 0) rfl) Tryd.underlying34 rfl infoW3 ⟨rfl, hH13.new⟩

set_option linter.unusedSimpArgs false in
set_option maxRecDepth 100000 in
set_option maxHeartbeats 1600000 in
theorem Words_no (c : Ce) (h : cellB c = false) (w : World) (hT : Tab w) :
    Calls Tryd.prog 26 #[c.v] w fun e w' => e = .returned (.tuple #[zeroW.v, .int .i64 2]) ∧ New w w' := by
  refine calls_args (vl := [Ce.v c]) 10 Tryd.func26 rfl Tryd.ntmps26 (by kernel_rfl) (fun a he => ?_)
  have he0 : Env 10 [(0, Ce.v c)] a := he
  clear he
  have hH := Hp.start w
  refine wp_seq ?_
  refine wp_region_lit ?_
  refine lNew (fun p => .pointer (some ⟨p, 0, none⟩)) he0 hH rfl rfl (wanted_plain rfl _) (rn_boxC rfl (he0.op rfl) w) ?_
  intro p1 w1 a2 hn hH1 he2
  clear he0 a hH hn
  refine lNew (fun p => .pointer (some ⟨p, 0, none⟩)) he2 hH1 rfl rfl (wanted_plain rfl _) (rn_allocW rfl w1) ?_
  intro p3 w3 a4 hn hH3 he4
  clear he2 a2 hH1 hn
  refine lV (Value.int .i64 0) he4 rfl rfl (wanted_plain rfl _) (rn_asg rfl (he4.op rfl) w3) ?_
  intro a5 he5
  clear he4 a4
  refine wpList_nil ?_
  refine then_ok ?_
  refine wp_seq ?_
  refine wp_seq ?_
  refine wp_region_lit ?_
  refine lV (Ce.v c) he5 rfl rfl (wanted_plain rfl _) (rn_load rfl (he5.op rfl) (hH3.at (i := 1) rfl)) ?_
  intro a6 he6
  clear he5 a5
  refine lC he6 rfl rfl Tryd.func39 (by kernel_rfl) rfl rfl (wanted_plain rfl _) rfl (CValidK c false h w3 (hT.new hH3.new)) ?_
  intro w7 a8 hn he8
  have hH7 := hH3.call hn
  clear he6 a6 hH3 hn
  refine lV (Value.bool true) he8 rfl rfl (wanted_plain rfl _) (rn_not (b := false) rfl (he8.op rfl) w7) ?_
  intro a9 he9
  clear he8 a8
  refine wpList_nil ?_
  refine then_ok ?_
  refine wp_cond_true (he9.op rfl) ?_
  refine wp_seq ?_
  refine wp_region_lit ?_
  refine lV (Wd.v zeroW) he9 rfl rfl (wanted_plain rfl _) (rn_bW0 rfl w7) ?_
  intro a10 he10
  clear he9 a9
  refine lSetV 0 (Wd.cs zeroW) (cs := (Wd.cs zeroW)) he10 hH7 rfl (wanted_plain rfl _) rfl rfl rfl rfl rfl (by kernel_rfl) (by kernel_rfl) (by kernel_rfl) rfl ?_
  intro w11 a12 hH11 he12
  replace hH11 : Hp w [⟨p3, 34, (Wd.cs zeroW)⟩, ⟨p1, 30, (Ce.cs c)⟩] w11 := hH11
  clear he10 a10 hH7
  refine lV (Value.int .i64 2) he12 rfl rfl (wanted_plain rfl _) (rn_asg rfl (he12.op rfl) w11) ?_
  intro a13 he13
  clear he12 a12
  refine wpList_nil ?_
  refine then_ok ?_
  refine wp_ret ?_
  try simp only [Exit.then, Exit.inBlock]
  exact ret_rowt rfl he13 rfl rfl (hH11.at (i := 0) rfl) Tryd.underlying34 rfl infoW3 ⟨rfl, hH11.new⟩

end Go.Proofs.YtaiijndldngnkaaDoor
namespace Go.Proofs.YtaiijndldngnkaaDoor
open Go.RowKit

theorem i32_wraps (n : Int) (h0 : -2147483648 ≤ n) (h1 : n < 2147483648) : IntKind.i32.wrap n = n := by rw [IntKind.wrap_i32]; omega
theorem i64_wraps (n : Int) (h0 : -9223372036854775808 ≤ n) (h1 : n < 9223372036854775808) : IntKind.i64.wrap n = n := by rw [IntKind.wrap_i64]; omega
theorem fdivp (x : Int) (k : Nat) : x.fdiv (2 ^ k) = x / 2 ^ k := Int.fdiv_eq_ediv_of_nonneg _ (Int.pow_nonneg (by decide))
theorem mask21 (x : Int) (h0 : 0 ≤ x) (h1 : x < 18446744073709551616) : bits .and .u64 x 2097151 = x % 2097152 := and64 21 (by decide) x h0 h1
theorem fd0 (x : Int) (_ : 0 ≤ x) : x.fdiv (2 ^ 0) = x := by rw [fdivp x]; omega
theorem fd21 (x : Int) (_ : 0 ≤ x) : x.fdiv (2 ^ 21) = x / 2097152 := by rw [fdivp x]; rfl
theorem fd42 (x : Int) (_ : 0 ≤ x) : x.fdiv (2 ^ 42) = x / 2097152 / 2097152 := by rw [fdivp x]; omega
section
variable {ρ : Operand → Value} {o : Oper} {x y z u : Operand}
theorem rn_jaM0 {g off : Nat} {p : Value} (h : o.op = .indexAddr 22 x y) (hx : ρ x = .pointer (some ⟨g, off, none⟩)) (hy : ρ y = .int .i64 0) (hp : .pointer (some ⟨g, off + 0, none⟩) = p) (w : World) : (execOp ρ o).run Tryd.prog w = .ok (.value p) w := by
  subst hp
  unfold execOp
  simp only [h, hx, hy]
  kernel_rfl
theorem rn_jaM1 {g off : Nat} {p : Value} (h : o.op = .indexAddr 22 x y) (hx : ρ x = .pointer (some ⟨g, off, none⟩)) (hy : ρ y = .int .i64 1) (hp : .pointer (some ⟨g, off + 1, none⟩) = p) (w : World) : (execOp ρ o).run Tryd.prog w = .ok (.value p) w := by
  subst hp
  unfold execOp
  simp only [h, hx, hy]
  kernel_rfl
theorem rn_jaM2 {g off : Nat} {p : Value} (h : o.op = .indexAddr 22 x y) (hx : ρ x = .pointer (some ⟨g, off, none⟩)) (hy : ρ y = .int .i64 2) (hp : .pointer (some ⟨g, off + 2, none⟩) = p) (w : World) : (execOp ρ o).run Tryd.prog w = .ok (.value p) w := by
  subst hp
  unfold execOp
  simp only [h, hx, hy]
  kernel_rfl
theorem rn_bC023 {r d : Int} {p : Pn} (h : o.op = .build 30 #[(0, x), (2, y), (3, z)]) (hx : ρ x = .int .i32 r) (hy : ρ y = .int .i64 d) (hz : ρ z = p.v) (w : World) : (execOp ρ o).run Tryd.prog w = .ok (.value (Ce.v ⟨r, 0, 0, 0, d, p⟩)) w := by
  unfold execOp
  simp only [h, List.map_toArray, List.map_cons, List.map_nil, hx, hy, hz]
  kernel_rfl
theorem rn_bC0123 {r a b c d : Int} {p : Pn} (h : o.op = .build 30 #[(0, x), (1, y), (2, z), (3, u)]) (hx : ρ x = .int .i32 r) (hy : ρ y = .agg #[.int .i32 a, .int .i32 b, .int .i32 c]) (hz : ρ z = .int .i64 d) (hu : ρ u = p.v) (w : World) : (execOp ρ o).run Tryd.prog w = .ok (.value (Ce.v ⟨r, a, b, c, d, p⟩)) w := by
  unfold execOp
  simp only [h, List.map_toArray, List.map_cons, List.map_nil, hx, hy, hz, hu]
  kernel_rfl
end
theorem good_split (x : Wd) : goodB x = (decide (wordI (penW x.a) = x.a) && (cellB (cellI x) && decide (wordsI (cellI x) = x))) := by
  unfold goodB
  by_cases h : wordI (penW x.a) = x.a
  · simp [h]
  · have : wordsI (cellI x) ≠ x := fun e => h (congrArg Wd.a e)
    simp [h, this]
theorem good_wide (x : Wd) (h : 8388608 ≤ x.b) : goodB x = false := by
  unfold goodB
  cases e : cellB (cellI x) with
  | false => rfl
  | true =>
    have := (cell_in e).w1
    simp only [cellI] at this
    omega

set_option linter.unusedSimpArgs false in
set_option maxRecDepth 100000 in
set_option maxHeartbeats 1600000 in
theorem marksIn_any (x : Int) (h0 : 0 ≤ x) (h1 : x < 18446744073709551616) (w : World) :
    Calls Tryd.prog 48 #[.int .u64 x] w fun e w' => e = .returned (.agg #[.int .i32 (x % 2097152), .int .i32 (x / 2097152 % 2097152), .int .i32 (x / 2097152 / 2097152 % 2097152)]) ∧ New w w' := by
  refine calls_args (vl := [Value.int .u64 x]) 18 Tryd.func48 rfl Tryd.ntmps48 (by kernel_rfl) (fun a he => ?_)
  have he0 : Env 18 [(0, Value.int .u64 x)] a := he
  clear he
  have hH := Hp.start w
  refine wp_seq ?_
  refine wp_region_lit ?_
  refine lNew (fun p => .pointer (some ⟨p, 0, none⟩)) he0 hH rfl rfl (wanted_plain rfl _) (rn_allocM rfl w) ?_
  intro p1 w1 a2 hn hH1 he2
  clear he0 a hH hn
  refine wpList_nil ?_
  refine then_ok ?_
  refine wp_seq ?_
  refine wp_region_lit ?_
  refine lNew (fun p => .pointer (some ⟨p, 0, none⟩)) he2 hH1 rfl rfl (wanted_plain rfl _) (rn_allocM rfl w1) ?_
  intro p3 w3 a4 hn hH3 he4
  clear he2 a2 hH1 hn
  refine wpList_nil ?_
  refine then_ok ?_
  refine wp_seq ?_
  refine wp_seq ?_
  refine wp_region_lit ?_
  refine lV (Value.int .i64 0) he4 rfl rfl (wanted_plain rfl _) (rn_mv rfl (he4.op rfl) w3) ?_
  intro a5 he5
  clear he4 a4
  refine wpList_nil ?_
  refine then_ok ?_
  refine wp_block ?_
  refine wp_loop_rounds 4 ?_
  have he6 : Env 18 [(5, Value.int .i64 0), (3, Value.pointer (some ⟨p3, 0, none⟩)), (2, Value.pointer (some ⟨p1, 0, none⟩)), (0, Value.int .u64 x)] a5 := he5.mem ⟨rfl, rfl, rfl, rfl, trivial⟩
  clear he5
  as_aux_lemma =>
    refine wp_seq ?_
    refine wp_region_lit ?_
    refine lV (Value.bool true) he6 rfl rfl (wanted_plain rfl _) (rn_lss rfl (he6.op rfl) (he6.op rfl) (by decide) w3) ?_
    intro a7 he7
    clear he6 a5
    refine wpList_nil ?_
    refine then_ok ?_
    refine wp_seq ?_
    refine wp_cond_true (he7.op rfl) ?_
    refine wp_skip ?_
    refine then_ok ?_
    refine wp_seq ?_
    refine wp_block ?_
    refine wp_seq ?_
    refine wp_region_lit ?_
    refine lV (Value.int .i64 0) he7 rfl rfl (wanted_plain rfl _) (rn_mv rfl (he7.op rfl) w3) ?_
    intro a8 he8
    clear he7 a7
    refine lV (Value.int .i64 0) he8 rfl rfl (wanted_plain rfl _) (rn_asg rfl (he8.op rfl) w3) ?_
    intro a9 he9
    clear he8 a8
    refine wpList_nil ?_
    refine then_ok ?_
    refine wp_region_lit ?_
    refine lV (Value.int .i64 0) he9 rfl rfl (wanted_plain rfl _) (rn_mv rfl (he9.op rfl) w3) ?_
    intro a10 he10
    clear he9 a9
    refine lV (Value.int .u64 x) he10 rfl rfl (wanted_plain rfl _) (rn_mv rfl (he10.op rfl) w3) ?_
    intro a11 he11
    clear he10 a10
    refine lV (Value.int .i64 0) he11 rfl rfl (wanted_plain rfl _) (rn_mv rfl (he11.op rfl) w3) ?_
    intro a12 he12
    clear he11 a11
    refine lV (Value.int .i64 0) he12 rfl rfl (wanted_plain rfl _) (rn_mulI rfl (he12.op rfl) (he12.op rfl) (by decide) w3) ?_
    intro a13 he13
    clear he12 a12
    refine lV (Value.int .u64 x) he13 rfl rfl (wanted_plain rfl _) (rn_shrI 0 rfl (he13.op rfl) (he13.op rfl) (by decide) (fd0 x h0) w3) ?_
    intro a14 he14
    clear he13 a13
    refine lV (Value.int .u64 (x % 2097152)) he14 rfl rfl (wanted_plain rfl _) (rn_andU rfl (he14.op rfl) (he14.op rfl) (mask21 _ (by omega) (by omega)) w3) ?_
    intro a15 he15
    clear he14 a14
    refine lV (Value.int .i32 (x % 2097152)) he15 rfl rfl (wanted_plain rfl _) (rn_cvUI rfl (he15.op rfl) (i32_wraps _ (by omega) (by omega)) w3) ?_
    intro a16 he16
    clear he15 a15
    refine lV (Value.pointer (some ⟨p3, 0, none⟩)) he16 rfl rfl (wanted_plain rfl _) (rn_jaM0 rfl (he16.op rfl) (he16.op rfl) rfl w3) ?_
    intro a17 he17
    clear he16 a16
    refine lSetV 0 #[Value.int .i32 (x % 2097152)] (cs := #[Value.int .i32 (x % 2097152), Value.int .i32 0, Value.int .i32 0]) he17 hH3 rfl (wanted_plain rfl _) rfl rfl rfl rfl rfl (by kernel_rfl) (by kernel_rfl) (by kernel_rfl) rfl ?_
    intro w18 a19 hH18 he19
    replace hH18 : Hp w [⟨p3, 22, #[Value.int .i32 (x % 2097152), Value.int .i32 0, Value.int .i32 0]⟩, ⟨p1, 22, #[Value.int .i32 0, Value.int .i32 0, Value.int .i32 0]⟩] w18 := hH18
    clear he17 a17 hH3
    refine wpList_nil ?_
    refine block_ok ?_
    refine then_ok ?_
    refine wp_region_lit ?_
    refine lV (Value.int .i64 1) he19 rfl rfl (wanted_plain rfl _) (rn_add1 rfl (he19.op rfl) (he19.op rfl) (by decide) w18) ?_
    intro a20 he20
    clear he19 a19
    refine lV (Value.int .i64 1) he20 rfl rfl (wanted_plain rfl _) (rn_mv rfl (he20.op rfl) w18) ?_
    intro a21 he21
    clear he20 a20
    refine wpList_nil ?_
    refine then_ok ?_
    have he22 : Env 18 [(5, Value.int .i64 1), (3, Value.pointer (some ⟨p3, 0, none⟩)), (2, Value.pointer (some ⟨p1, 0, none⟩)), (0, Value.int .u64 x)] a21 := he21.mem ⟨rfl, rfl, rfl, rfl, trivial⟩
    clear he21
    as_aux_lemma =>
      refine wp_seq ?_
      refine wp_region_lit ?_
      refine lV (Value.bool true) he22 rfl rfl (wanted_plain rfl _) (rn_lss rfl (he22.op rfl) (he22.op rfl) (by decide) w18) ?_
      intro a23 he23
      clear he22 a21
      refine wpList_nil ?_
      refine then_ok ?_
      refine wp_seq ?_
      refine wp_cond_true (he23.op rfl) ?_
      refine wp_skip ?_
      refine then_ok ?_
      refine wp_seq ?_
      refine wp_block ?_
      refine wp_seq ?_
      refine wp_region_lit ?_
      refine lV (Value.int .i64 1) he23 rfl rfl (wanted_plain rfl _) (rn_mv rfl (he23.op rfl) w18) ?_
      intro a24 he24
      clear he23 a23
      refine lV (Value.int .i64 1) he24 rfl rfl (wanted_plain rfl _) (rn_asg rfl (he24.op rfl) w18) ?_
      intro a25 he25
      clear he24 a24
      refine wpList_nil ?_
      refine then_ok ?_
      refine wp_region_lit ?_
      refine lV (Value.int .i64 1) he25 rfl rfl (wanted_plain rfl _) (rn_mv rfl (he25.op rfl) w18) ?_
      intro a26 he26
      clear he25 a25
      refine lV (Value.int .u64 x) he26 rfl rfl (wanted_plain rfl _) (rn_mv rfl (he26.op rfl) w18) ?_
      intro a27 he27
      clear he26 a26
      refine lV (Value.int .i64 1) he27 rfl rfl (wanted_plain rfl _) (rn_mv rfl (he27.op rfl) w18) ?_
      intro a28 he28
      clear he27 a27
      refine lV (Value.int .i64 21) he28 rfl rfl (wanted_plain rfl _) (rn_mulI rfl (he28.op rfl) (he28.op rfl) (by decide) w18) ?_
      intro a29 he29
      clear he28 a28
      refine lV (Value.int .u64 (x / 2097152)) he29 rfl rfl (wanted_plain rfl _) (rn_shrI 21 rfl (he29.op rfl) (he29.op rfl) (by decide) (fd21 x h0) w18) ?_
      intro a30 he30
      clear he29 a29
      refine lV (Value.int .u64 (x / 2097152 % 2097152)) he30 rfl rfl (wanted_plain rfl _) (rn_andU rfl (he30.op rfl) (he30.op rfl) (mask21 _ (by omega) (by omega)) w18) ?_
      intro a31 he31
      clear he30 a30
      refine lV (Value.int .i32 (x / 2097152 % 2097152)) he31 rfl rfl (wanted_plain rfl _) (rn_cvUI rfl (he31.op rfl) (i32_wraps _ (by omega) (by omega)) w18) ?_
      intro a32 he32
      clear he31 a31
      refine lV (Value.pointer (some ⟨p3, 1, none⟩)) he32 rfl rfl (wanted_plain rfl _) (rn_jaM1 rfl (he32.op rfl) (he32.op rfl) rfl w18) ?_
      intro a33 he33
      clear he32 a32
      refine lSetV 0 #[Value.int .i32 (x / 2097152 % 2097152)] (cs := #[Value.int .i32 (x % 2097152), Value.int .i32 (x / 2097152 % 2097152), Value.int .i32 0]) he33 hH18 rfl (wanted_plain rfl _) rfl rfl rfl rfl rfl (by kernel_rfl) (by kernel_rfl) (by kernel_rfl) rfl ?_
      intro w34 a35 hH34 he35
      replace hH34 : Hp w [⟨p3, 22, #[Value.int .i32 (x % 2097152), Value.int .i32 (x / 2097152 % 2097152), Value.int .i32 0]⟩, ⟨p1, 22, #[Value.int .i32 0, Value.int .i32 0, Value.int .i32 0]⟩] w34 := hH34
      clear he33 a33 hH18
      refine wpList_nil ?_
      refine block_ok ?_
      refine then_ok ?_
      refine wp_region_lit ?_
      refine lV (Value.int .i64 2) he35 rfl rfl (wanted_plain rfl _) (rn_add1 rfl (he35.op rfl) (he35.op rfl) (by decide) w34) ?_
      intro a36 he36
      clear he35 a35
      refine lV (Value.int .i64 2) he36 rfl rfl (wanted_plain rfl _) (rn_mv rfl (he36.op rfl) w34) ?_
      intro a37 he37
      clear he36 a36
      refine wpList_nil ?_
      refine then_ok ?_
      have he38 : Env 18 [(5, Value.int .i64 2), (3, Value.pointer (some ⟨p3, 0, none⟩)), (2, Value.pointer (some ⟨p1, 0, none⟩)), (0, Value.int .u64 x)] a37 := he37.mem ⟨rfl, rfl, rfl, rfl, trivial⟩
      clear he37
      as_aux_lemma =>
        refine wp_seq ?_
        refine wp_region_lit ?_
        refine lV (Value.bool true) he38 rfl rfl (wanted_plain rfl _) (rn_lss rfl (he38.op rfl) (he38.op rfl) (by decide) w34) ?_
        intro a39 he39
        clear he38 a37
        refine wpList_nil ?_
        refine then_ok ?_
        refine wp_seq ?_
        refine wp_cond_true (he39.op rfl) ?_
        refine wp_skip ?_
        refine then_ok ?_
        refine wp_seq ?_
        refine wp_block ?_
        refine wp_seq ?_
        refine wp_region_lit ?_
        refine lV (Value.int .i64 2) he39 rfl rfl (wanted_plain rfl _) (rn_mv rfl (he39.op rfl) w34) ?_
        intro a40 he40
        clear he39 a39
        refine lV (Value.int .i64 2) he40 rfl rfl (wanted_plain rfl _) (rn_asg rfl (he40.op rfl) w34) ?_
        intro a41 he41
        clear he40 a40
        refine wpList_nil ?_
        refine then_ok ?_
        refine wp_region_lit ?_
        refine lV (Value.int .i64 2) he41 rfl rfl (wanted_plain rfl _) (rn_mv rfl (he41.op rfl) w34) ?_
        intro a42 he42
        clear he41 a41
        refine lV (Value.int .u64 x) he42 rfl rfl (wanted_plain rfl _) (rn_mv rfl (he42.op rfl) w34) ?_
        intro a43 he43
        clear he42 a42
        refine lV (Value.int .i64 2) he43 rfl rfl (wanted_plain rfl _) (rn_mv rfl (he43.op rfl) w34) ?_
        intro a44 he44
        clear he43 a43
        refine lV (Value.int .i64 42) he44 rfl rfl (wanted_plain rfl _) (rn_mulI rfl (he44.op rfl) (he44.op rfl) (by decide) w34) ?_
        intro a45 he45
        clear he44 a44
        refine lV (Value.int .u64 (x / 2097152 / 2097152)) he45 rfl rfl (wanted_plain rfl _) (rn_shrI 42 rfl (he45.op rfl) (he45.op rfl) (by decide) (fd42 x h0) w34) ?_
        intro a46 he46
        clear he45 a45
        refine lV (Value.int .u64 (x / 2097152 / 2097152 % 2097152)) he46 rfl rfl (wanted_plain rfl _) (rn_andU rfl (he46.op rfl) (he46.op rfl) (mask21 _ (by omega) (by omega)) w34) ?_
        intro a47 he47
        clear he46 a46
        refine lV (Value.int .i32 (x / 2097152 / 2097152 % 2097152)) he47 rfl rfl (wanted_plain rfl _) (rn_cvUI rfl (he47.op rfl) (i32_wraps _ (by omega) (by omega)) w34) ?_
        intro a48 he48
        clear he47 a47
        refine lV (Value.pointer (some ⟨p3, 2, none⟩)) he48 rfl rfl (wanted_plain rfl _) (rn_jaM2 rfl (he48.op rfl) (he48.op rfl) rfl w34) ?_
        intro a49 he49
        clear he48 a48
        refine lSetV 0 #[Value.int .i32 (x / 2097152 / 2097152 % 2097152)] (cs := #[Value.int .i32 (x % 2097152), Value.int .i32 (x / 2097152 % 2097152), Value.int .i32 (x / 2097152 / 2097152 % 2097152)]) he49 hH34 rfl (wanted_plain rfl _) rfl rfl rfl rfl rfl (by kernel_rfl) (by kernel_rfl) (by kernel_rfl) rfl ?_
        intro w50 a51 hH50 he51
        replace hH50 : Hp w [⟨p3, 22, #[Value.int .i32 (x % 2097152), Value.int .i32 (x / 2097152 % 2097152), Value.int .i32 (x / 2097152 / 2097152 % 2097152)]⟩, ⟨p1, 22, #[Value.int .i32 0, Value.int .i32 0, Value.int .i32 0]⟩] w50 := hH50
        clear he49 a49 hH34
        refine wpList_nil ?_
        refine block_ok ?_
        refine then_ok ?_
        refine wp_region_lit ?_
        refine lV (Value.int .i64 3) he51 rfl rfl (wanted_plain rfl _) (rn_add1 rfl (he51.op rfl) (he51.op rfl) (by decide) w50) ?_
        intro a52 he52
        clear he51 a51
        refine lV (Value.int .i64 3) he52 rfl rfl (wanted_plain rfl _) (rn_mv rfl (he52.op rfl) w50) ?_
        intro a53 he53
        clear he52 a52
        refine wpList_nil ?_
        refine then_ok ?_
        have he54 : Env 18 [(5, Value.int .i64 3), (3, Value.pointer (some ⟨p3, 0, none⟩)), (2, Value.pointer (some ⟨p1, 0, none⟩)), (0, Value.int .u64 x)] a53 := he53.mem ⟨rfl, rfl, rfl, rfl, trivial⟩
        clear he53
        as_aux_lemma =>
          refine wp_seq ?_
          refine wp_region_lit ?_
          refine lV (Value.bool false) he54 rfl rfl (wanted_plain rfl _) (rn_lss rfl (he54.op rfl) (he54.op rfl) (by decide) w50) ?_
          intro a55 he55
          clear he54 a53
          refine wpList_nil ?_
          refine then_ok ?_
          refine wp_seq ?_
          refine wp_cond_false (he55.op rfl) ?_
          refine wp_exit ?_
          simp only [Exit.then, Exit.inBlock, if_true]
          refine wp_seq ?_
          refine wp_region_lit ?_
          refine lV (Value.agg #[Value.int .i32 (x % 2097152), Value.int .i32 (x / 2097152 % 2097152), Value.int .i32 (x / 2097152 / 2097152 % 2097152)]) he55 rfl rfl (wanted_plain rfl _) (rn_ldp [Value.int .i32 (x % 2097152), Value.int .i32 (x / 2097152 % 2097152), Value.int .i32 (x / 2097152 / 2097152 % 2097152)] rfl (he55.op rfl) Tryd.underlying22 rfl infoM3 (hH50.at (i := 0) rfl) rfl) ?_
          intro a56 he56
          clear he55 a55
          refine lSetV 1 #[Value.int .i32 (x % 2097152), Value.int .i32 (x / 2097152 % 2097152), Value.int .i32 (x / 2097152 / 2097152 % 2097152)] (cs := #[Value.int .i32 (x % 2097152), Value.int .i32 (x / 2097152 % 2097152), Value.int .i32 (x / 2097152 / 2097152 % 2097152)]) he56 hH50 rfl (wanted_plain rfl _) rfl rfl rfl rfl rfl (by kernel_rfl) (by kernel_rfl) (by kernel_rfl) rfl ?_
          intro w57 a58 hH57 he58
          replace hH57 : Hp w [⟨p3, 22, #[Value.int .i32 (x % 2097152), Value.int .i32 (x / 2097152 % 2097152), Value.int .i32 (x / 2097152 / 2097152 % 2097152)]⟩, ⟨p1, 22, #[Value.int .i32 (x % 2097152), Value.int .i32 (x / 2097152 % 2097152), Value.int .i32 (x / 2097152 / 2097152 % 2097152)]⟩] w57 := hH57
          clear he56 a56 hH50
          refine wpList_nil ?_
          refine then_ok ?_
          refine wp_ret ?_
          try simp only [Exit.then, Exit.inBlock]
          exact ret_row rfl he58 rfl (hH57.at (i := 1) rfl) Tryd.underlying22 rfl infoM3 ⟨rfl, hH57.new⟩

set_option linter.unusedSimpArgs false in
set_option maxRecDepth 100000 in
set_option maxHeartbeats 1600000 in
theorem RCell_any (x : Wd) (hx : x.Ok) (w : World) :
    Calls Tryd.prog 14 #[x.v] w fun e w' => (∃ d : Ce, e = .returned (.tuple #[d.v, .bool (goodB x)]) ∧ (goodB x = true → d = cellI x)) ∧ New w w' := by
  obtain ⟨a0, a1, b0, b1, c0, c1⟩ := hx
  obtain ⟨pb, hpb⟩ : ∃ pb, (wordI (penW x.a) == x.a) = pb := ⟨_, rfl⟩
  refine calls_args (vl := [Wd.v x]) 70 Tryd.func14 rfl Tryd.ntmps14 (by kernel_rfl) (fun a he => ?_)
  have he0 : Env 70 [(0, Wd.v x)] a := he
  clear he
  have hH := Hp.start w
  refine wp_seq ?_
  refine wp_region_lit ?_
  refine lNew (fun p => .pointer (some ⟨p, 0, none⟩)) he0 hH rfl rfl (wanted_plain rfl _) (rn_boxW rfl (he0.op rfl) w) ?_
  intro p1 w1 a2 hn hH1 he2
  clear he0 a hH hn
  refine lNew (fun p => .pointer (some ⟨p, 0, none⟩)) he2 hH1 rfl rfl (wanted_plain rfl _) (rn_alloc rfl w1) ?_
  intro p3 w3 a4 hn hH3 he4
  clear he2 a2 hH1 hn
  refine lV (Value.bool false) he4 rfl rfl (wanted_plain rfl _) (rn_asg rfl (he4.op rfl) w3) ?_
  intro a5 he5
  clear he4 a4
  refine wpList_nil ?_
  refine then_ok ?_
  refine wp_seq ?_
  refine wp_region_lit ?_
  refine lV (Value.pointer (some ⟨p1, 0, none⟩)) he5 rfl rfl (wanted_plain rfl _) (rn_iaW0 rfl (he5.op rfl) (fun _ => rfl) rfl w3) ?_
  intro a6 he6
  clear he5 a5
  refine lV (Value.int .u64 x.a) he6 rfl rfl (wanted_plain rfl _) (rn_ld1 rfl (he6.op rfl) Tryd.underlying33 (hH3.at (i := 1) rfl) rfl) ?_
  intro a7 he7
  clear he6 a6
  refine lC he7 rfl rfl Tryd.func34 (by kernel_rfl) rfl rfl (wanted_plain rfl _) rfl (hpb ▸ RUnpack_any x.a a0 a1 w3) ?_
  intro w8 a9 hn he9
  have hH8 := hH3.call hn
  clear he7 a7 hH3 hn
  refine lV (Value.tuple #[Pn.v (penW x.a), Value.bool pb]) he9 rfl rfl (wanted_plain rfl _) (rn_mv rfl (he9.op rfl) w8) ?_
  intro a10 he10
  clear he9 a9
  refine lV (Pn.v (penW x.a)) he10 rfl rfl (wanted_plain rfl _) (rn_ext rfl (he10.op rfl) rfl w8) ?_
  intro a11 he11
  clear he10 a10
  refine lV (Value.bool pb) he11 rfl rfl (wanted_plain rfl _) (rn_ext rfl (he11.op rfl) rfl w8) ?_
  intro a12 he12
  clear he11 a11
  refine lNew (fun p => .pointer (some ⟨p, 0, none⟩)) he12 hH8 rfl rfl (wanted_plain rfl _) (rn_allocP rfl w8) ?_
  intro p13 w13 a14 hn hH13 he14
  clear he12 a12 hH8 hn
  refine lSetV 0 (Pn.cs (penW x.a)) (cs := (Pn.cs (penW x.a))) he14 hH13 rfl (wanted_plain rfl _) rfl rfl rfl rfl rfl (by kernel_rfl) (by kernel_rfl) (by kernel_rfl) rfl ?_
  intro w15 a16 hH15 he16
  replace hH15 : Hp w [⟨p13, 28, (Pn.cs (penW x.a))⟩, ⟨p3, 30, (Ce.cs zeroCe)⟩, ⟨p1, 34, (Wd.cs x)⟩] w15 := hH15
  clear he14 a14 hH13
  refine lV (Value.bool pb) he16 rfl rfl (wanted_plain rfl _) (rn_asg rfl (he16.op rfl) w15) ?_
  intro a17 he17
  clear he16 a16
  refine wpList_nil ?_
  refine then_ok ?_
  have he18 : Env 70 [(5, Value.bool pb), (4, Value.pointer (some ⟨p13, 0, none⟩)), (3, Value.bool false), (2, Value.pointer (some ⟨p3, 0, none⟩)), (1, Value.pointer (some ⟨p1, 0, none⟩)), (0, Wd.v x)] a17 := he17.mem ⟨rfl, rfl, rfl, rfl, rfl, rfl, trivial⟩
  clear he17
  cases pb with
  | false =>
    have hg : goodB x = false := by rw [good_split]; simp only [beq_eq_false_iff_ne, ne_eq] at hpb; simp [hpb]
    refine wp_seq ?_
    refine wp_seq ?_
    refine wp_region_lit ?_
    refine lV (Value.bool false) he18 rfl rfl (wanted_plain rfl _) (rn_mv rfl (he18.op rfl) w15) ?_
    intro a19 he19
    clear he18 a17
    refine lV (Value.bool true) he19 rfl rfl (wanted_plain rfl _) (rn_not (b := false) rfl (he19.op rfl) w15) ?_
    intro a20 he20
    clear he19 a19
    refine lV (Value.bool true) he20 rfl rfl (wanted_plain rfl _) (rn_mv rfl (he20.op rfl) w15) ?_
    intro a21 he21
    clear he20 a20
    refine lSkip he21 rfl rfl (he21.wantNot rfl rfl rfl rfl rfl rfl) ?_
    intro a22 he22
    clear he21 a21
    refine lSkip he22 rfl rfl (he22.wantNot rfl rfl rfl rfl rfl rfl) ?_
    intro a23 he23
    clear he22 a22
    refine lSkip he23 rfl rfl (he23.wantNot rfl rfl rfl rfl rfl rfl) ?_
    intro a24 he24
    clear he23 a23
    refine lV (Value.bool true) he24 rfl rfl (wanted_plain rfl _) (rn_pk rfl (he24.op rfl) (he24.op rfl) w15) ?_
    intro a25 he25
    clear he24 a24
    refine wpList_nil ?_
    refine then_ok ?_
    refine wp_cond_true (he25.op rfl) ?_
    refine wp_seq ?_
    refine wp_region_lit ?_
    refine lV (Ce.v zeroCe) he25 rfl rfl (wanted_plain rfl _) (rn_bC0 rfl w15) ?_
    intro a26 he26
    clear he25 a25
    refine lSetV 1 (Ce.cs zeroCe) (cs := (Ce.cs zeroCe)) he26 hH15 rfl (wanted_plain rfl _) rfl rfl rfl rfl rfl (by kernel_rfl) (by kernel_rfl) (by kernel_rfl) rfl ?_
    intro w27 a28 hH27 he28
    replace hH27 : Hp w [⟨p13, 28, (Pn.cs (penW x.a))⟩, ⟨p3, 30, (Ce.cs zeroCe)⟩, ⟨p1, 34, (Wd.cs x)⟩] w27 := hH27
    clear he26 a26 hH15
    refine lV (Value.bool false) he28 rfl rfl (wanted_plain rfl _) (rn_asg rfl (he28.op rfl) w27) ?_
    intro a29 he29
    clear he28 a28
    refine wpList_nil ?_
    refine then_ok ?_
    refine wp_ret ?_
    try simp only [Exit.then, Exit.inBlock]
    exact ret_rowt rfl he29 rfl rfl (hH27.at (i := 1) rfl) undC rfl infoC16 ⟨⟨_, by rw [hg], fun h => by rw [hg] at h; cases h⟩, hH27.new⟩
  | true =>
    by_cases hb : 8388608 ≤ x.b
    · have hg := good_wide x hb
      refine wp_seq ?_
      refine wp_seq ?_
      refine wp_region_lit ?_
      refine lV (Value.bool true) he18 rfl rfl (wanted_plain rfl _) (rn_mv rfl (he18.op rfl) w15) ?_
      intro a30 he30
      clear he18 a17
      refine lV (Value.bool false) he30 rfl rfl (wanted_plain rfl _) (rn_not (b := true) rfl (he30.op rfl) w15) ?_
      intro a31 he31
      clear he30 a30
      refine lV (Value.bool false) he31 rfl rfl (wanted_plain rfl _) (rn_mv rfl (he31.op rfl) w15) ?_
      intro a32 he32
      clear he31 a31
      refine lV (Value.pointer (some ⟨p1, 1, none⟩)) he32 rfl rfl (he32.want rfl rfl rfl rfl rfl) (rn_iaW1 rfl (he32.op rfl) (fun _ => rfl) rfl w15) ?_
      intro a33 he33
      clear he32 a32
      refine lV (Value.int .u64 x.b) he33 rfl rfl (he33.want rfl rfl rfl rfl rfl) (rn_ld1 rfl (he33.op rfl) Tryd.underlying33 (hH15.at (i := 2) rfl) rfl) ?_
      intro a34 he34
      clear he33 a33
      refine lV (Value.bool true) he34 rfl rfl (he34.want rfl rfl rfl rfl rfl) (rn_geqU rfl (he34.op rfl) (he34.op rfl) (decide_eq_true (by omega)) w15) ?_
      intro a35 he35
      clear he34 a34
      refine lV (Value.bool true) he35 rfl rfl (wanted_plain rfl _) (rn_pk0 rfl (he35.op rfl) (he35.op rfl) w15) ?_
      intro a36 he36
      clear he35 a35
      refine wpList_nil ?_
      refine then_ok ?_
      refine wp_cond_true (he36.op rfl) ?_
      refine wp_seq ?_
      refine wp_region_lit ?_
      refine lV (Ce.v zeroCe) he36 rfl rfl (wanted_plain rfl _) (rn_bC0 rfl w15) ?_
      intro a37 he37
      clear he36 a36
      refine lSetV 1 (Ce.cs zeroCe) (cs := (Ce.cs zeroCe)) he37 hH15 rfl (wanted_plain rfl _) rfl rfl rfl rfl rfl (by kernel_rfl) (by kernel_rfl) (by kernel_rfl) rfl ?_
      intro w38 a39 hH38 he39
      replace hH38 : Hp w [⟨p13, 28, (Pn.cs (penW x.a))⟩, ⟨p3, 30, (Ce.cs zeroCe)⟩, ⟨p1, 34, (Wd.cs x)⟩] w38 := hH38
      clear he37 a37 hH15
      refine lV (Value.bool false) he39 rfl rfl (wanted_plain rfl _) (rn_asg rfl (he39.op rfl) w38) ?_
      intro a40 he40
      clear he39 a39
      refine wpList_nil ?_
      refine then_ok ?_
      refine wp_ret ?_
      try simp only [Exit.then, Exit.inBlock]
      exact ret_rowt rfl he40 rfl rfl (hH38.at (i := 1) rfl) undC rfl infoC16 ⟨⟨_, by rw [hg], fun h => by rw [hg] at h; cases h⟩, hH38.new⟩
    · skip
      refine wp_seq ?_
      refine wp_seq ?_
      refine wp_region_lit ?_
      refine lV (Value.bool true) he18 rfl rfl (wanted_plain rfl _) (rn_mv rfl (he18.op rfl) w15) ?_
      intro a41 he41
      clear he18 a17
      refine lV (Value.bool false) he41 rfl rfl (wanted_plain rfl _) (rn_not (b := true) rfl (he41.op rfl) w15) ?_
      intro a42 he42
      clear he41 a41
      refine lV (Value.bool false) he42 rfl rfl (wanted_plain rfl _) (rn_mv rfl (he42.op rfl) w15) ?_
      intro a43 he43
      clear he42 a42
      refine lV (Value.pointer (some ⟨p1, 1, none⟩)) he43 rfl rfl (he43.want rfl rfl rfl rfl rfl) (rn_iaW1 rfl (he43.op rfl) (fun _ => rfl) rfl w15) ?_
      intro a44 he44
      clear he43 a43
      refine lV (Value.int .u64 x.b) he44 rfl rfl (he44.want rfl rfl rfl rfl rfl) (rn_ld1 rfl (he44.op rfl) Tryd.underlying33 (hH15.at (i := 2) rfl) rfl) ?_
      intro a45 he45
      clear he44 a44
      refine lV (Value.bool false) he45 rfl rfl (he45.want rfl rfl rfl rfl rfl) (rn_geqU rfl (he45.op rfl) (he45.op rfl) (decide_eq_false (by omega)) w15) ?_
      intro a46 he46
      clear he45 a45
      refine lV (Value.bool false) he46 rfl rfl (wanted_plain rfl _) (rn_pk0 rfl (he46.op rfl) (he46.op rfl) w15) ?_
      intro a47 he47
      clear he46 a46
      refine wpList_nil ?_
      refine then_ok ?_
      refine wp_cond_false (he47.op rfl) ?_
      refine wp_skip ?_
      refine then_ok ?_
      refine wp_seq ?_
      refine wp_region_lit ?_
      refine lV (Value.int .u64 2097152) he47 rfl rfl (wanted_plain rfl _) (rn_asg rfl (he47.op rfl) w15) ?_
      intro a48 he48
      clear he47 a47
      refine wpList_nil ?_
      refine then_ok ?_
      have he49 : Env 70 [(6, Value.int .u64 2097152), (4, Value.pointer (some ⟨p13, 0, none⟩)), (3, Value.bool false), (2, Value.pointer (some ⟨p3, 0, none⟩)), (1, Value.pointer (some ⟨p1, 0, none⟩)), (0, Wd.v x)] a48 := he48.mem ⟨rfl, rfl, rfl, rfl, rfl, rfl, trivial⟩
      clear he48
      as_aux_lemma =>
        refine wp_seq ?_
        refine wp_region_held_drew (S := Hp w [⟨p13, 28, (Pn.cs (penW x.a))⟩, ⟨p3, 30, (Ce.cs zeroCe)⟩, ⟨p1, 34, (Wd.cs x)⟩]) (by kernel_rfl) (hH15.drew) (fun _ => ?_)
        have hn : New w15 (World.drew w15) := (Fr.refl _ _).drew
        clear hn
        have hH50 := hH15.drew
        clear hH15
        generalize World.drew w15 = w50 at *
        refine hV (fuel := 13) (i := 0) (Value.pointer (some ⟨p1, 1, none⟩)) he49 rfl rfl rfl (by kernel_rfl) (by kernel_rfl) (by kernel_rfl) (fun _ _ _ h => h) (wanted_plain rfl _) (fun w' _ => rn_iaW1 rfl (he49.op rfl) (fun _ => rfl) rfl w') hH50 ?_
        intro a51 he51
        clear he49 a48
        refine hV (fuel := 12) (i := 1) (Value.int .u64 x.b) he51 rfl rfl rfl (by kernel_rfl) (by kernel_rfl) (by kernel_rfl) (fun _ _ _ h => h) (wanted_plain rfl _) (fun w' hw' => rn_ld1 rfl (he51.op rfl) Tryd.underlying33 (hw'.at (i := 2) rfl) rfl) hH50 ?_
        intro a52 he52
        clear he51 a51
        refine hV (fuel := 11) (i := 2) (Value.int .u64 2097152) he52 rfl rfl rfl (by kernel_rfl) (by kernel_rfl) (by kernel_rfl) (fun _ _ _ h => h) (wanted_plain rfl _) (fun w' _ => rn_mv rfl (he52.op rfl) w') hH50 ?_
        intro a53 he53
        clear he52 a52
        refine hV (fuel := 10) (i := 3) (Value.int .u64 (x.b % 2097152)) he53 rfl rfl rfl (by kernel_rfl) (by kernel_rfl) (by kernel_rfl) (fun _ _ _ h => h) (wanted_plain rfl _) (fun w' _ => rn_remU rfl (he53.op rfl) (he53.op rfl) (by omega) (by decide) rfl w') hH50 ?_
        intro a54 he54
        clear he53 a53
        refine hV (fuel := 9) (i := 4) (Value.int .i32 (x.b % 2097152)) he54 rfl rfl rfl (by kernel_rfl) (by kernel_rfl) (by kernel_rfl) (fun _ _ _ h => h) (wanted_plain rfl _) (fun w' _ => rn_cvUI rfl (he54.op rfl) (i32_wraps _ (by omega) (by omega)) w') hH50 ?_
        intro a55 he55
        clear he54 a54
        refine hV (fuel := 8) (i := 5) (Value.pointer (some ⟨p1, 1, none⟩)) he55 rfl rfl rfl (by kernel_rfl) (by kernel_rfl) (by kernel_rfl) (fun _ _ _ h => h) (wanted_plain rfl _) (fun w' _ => rn_iaW1 rfl (he55.op rfl) (fun _ => rfl) rfl w') hH50 ?_
        intro a56 he56
        clear he55 a55
        refine hV (fuel := 7) (i := 6) (Value.int .u64 x.b) he56 rfl rfl rfl (by kernel_rfl) (by kernel_rfl) (by kernel_rfl) (fun _ _ _ h => h) (wanted_plain rfl _) (fun w' hw' => rn_ld1 rfl (he56.op rfl) Tryd.underlying33 (hw'.at (i := 2) rfl) rfl) hH50 ?_
        intro a57 he57
        clear he56 a56
        refine hV (fuel := 6) (i := 7) (Value.int .u64 2097152) he57 rfl rfl rfl (by kernel_rfl) (by kernel_rfl) (by kernel_rfl) (fun _ _ _ h => h) (wanted_plain rfl _) (fun w' _ => rn_mv rfl (he57.op rfl) w') hH50 ?_
        intro a58 he58
        clear he57 a57
        refine hV (fuel := 5) (i := 8) (Value.int .u64 (x.b / 2097152)) he58 rfl rfl rfl (by kernel_rfl) (by kernel_rfl) (by kernel_rfl) (fun _ _ _ h => h) (wanted_plain rfl _) (fun w' _ => rn_quoU rfl (he58.op rfl) (he58.op rfl) (by omega) (by decide) (by omega) rfl w') hH50 ?_
        intro a59 he59
        clear he58 a58
        refine hV (fuel := 4) (i := 9) (Value.int .i64 (x.b / 2097152)) he59 rfl rfl rfl (by kernel_rfl) (by kernel_rfl) (by kernel_rfl) (fun _ _ _ h => h) (wanted_plain rfl _) (fun w' _ => rn_cvUW rfl (he59.op rfl) (i64_wraps _ (by omega) (by omega)) w') hH50 ?_
        intro a60 he60
        clear he59 a59
        refine hV (fuel := 3) (i := 10) (Pn.v (penW x.a)) he60 rfl rfl rfl (by kernel_rfl) (by kernel_rfl) (by kernel_rfl) (fun _ _ _ h => h) (wanted_plain rfl _) (fun w' hw' => rn_loadP rfl (he60.op rfl) (hw'.at (i := 0) rfl)) hH50 ?_
        intro a61 he61
        clear he60 a60
        refine hV (fuel := 2) (i := 11) (Ce.v (⟨(x.b % 2097152), 0, 0, 0, (x.b / 2097152), (penW x.a)⟩ : Ce)) he61 rfl rfl rfl (by kernel_rfl) (by kernel_rfl) (by kernel_rfl) (fun _ _ _ h => h) (wanted_plain rfl _) (fun w' _ => rn_bC023 rfl (he61.op rfl) (he61.op rfl) (he61.op rfl) w') hH50 ?_
        intro a62 he62
        clear he61 a61
        refine hNew (fuel := 1) (i := 12) (fun p => .pointer (some ⟨p, 0, none⟩)) he62 hH50 (by kernel_rfl) rfl rfl rfl (wanted_plain rfl _) (rn_alloc rfl w50) ?_
        intro p63 w63 a64 hn hH63 he64
        refine ⟨(hH63.drop1 0 rfl), ?_⟩
        clear he62 a62 hH50 hn
        refine hSetV (fuel := 0) (n := 13) 0 (Ce.cs (⟨(x.b % 2097152), 0, 0, 0, (x.b / 2097152), (penW x.a)⟩ : Ce)) (cs := (Ce.cs (⟨(x.b % 2097152), 0, 0, 0, (x.b / 2097152), (penW x.a)⟩ : Ce))) he64 hH63 (by kernel_rfl) rfl rfl (wanted_plain rfl _) rfl rfl rfl rfl rfl (by kernel_rfl) (by kernel_rfl) (by kernel_rfl) rfl ?_
        intro w65 a66 hH65 hf he66
        replace hH65 : Hp w [⟨p63, 30, (Ce.cs (⟨(x.b % 2097152), 0, 0, 0, (x.b / 2097152), (penW x.a)⟩ : Ce))⟩, ⟨p13, 28, (Pn.cs (penW x.a))⟩, ⟨p3, 30, (Ce.cs zeroCe)⟩, ⟨p1, 34, (Wd.cs x)⟩] w65 := hH65
        refine ⟨(hH65.drop1 0 rfl), ?_⟩
        clear hf
        clear he64 a64 hH63
        refine wpAnyH_done (by kernel_rfl) ?_ _
        refine then_ok ?_
        have he67 : Env 70 [(7, Value.pointer (some ⟨p63, 0, none⟩)), (6, Value.int .u64 2097152), (3, Value.bool false), (2, Value.pointer (some ⟨p3, 0, none⟩)), (1, Value.pointer (some ⟨p1, 0, none⟩)), (0, Wd.v x)] a66 := he66.mem ⟨rfl, rfl, rfl, rfl, rfl, rfl, trivial⟩
        clear he66
        as_aux_lemma =>
          refine wp_seq ?_
          refine wp_region_held_drew (S := Hp w [⟨p13, 28, (Pn.cs (penW x.a))⟩, ⟨p3, 30, (Ce.cs zeroCe)⟩, ⟨p1, 34, (Wd.cs x)⟩]) (by kernel_rfl) ((hH65.drew).drop1 0 rfl) (fun _ => ?_)
          have hn : New w65 (World.drew w65) := (Fr.refl _ _).drew
          clear hn
          have hH68 := hH65.drew
          clear hH65
          generalize World.drew w65 = w68 at *
          refine hV (fuel := 29) (i := 0) (Value.pointer (some ⟨p1, 2, none⟩)) he67 rfl rfl rfl (by kernel_rfl) (by kernel_rfl) (by kernel_rfl) (fun _ _ _ h => h) (wanted_plain rfl _) (fun w' _ => rn_iaW2 rfl (he67.op rfl) (fun _ => rfl) rfl w') (hH68.drop1 0 rfl) ?_
          intro a69 he69
          clear he67 a66
          refine hV (fuel := 28) (i := 1) (Value.int .u64 x.c) he69 rfl rfl rfl (by kernel_rfl) (by kernel_rfl) (by kernel_rfl) (fun _ _ _ h => h) (wanted_plain rfl _) (fun w' hw' => rn_ld1 rfl (he69.op rfl) Tryd.underlying33 (hw'.at (i := 2) rfl) rfl) (hH68.drop1 0 rfl) ?_
          intro a70 he70
          clear he69 a69
          refine hV (fuel := 27) (i := 2) (Value.int .u64 2097152) he70 rfl rfl rfl (by kernel_rfl) (by kernel_rfl) (by kernel_rfl) (fun _ _ _ h => h) (wanted_plain rfl _) (fun w' _ => rn_mv rfl (he70.op rfl) w') (hH68.drop1 0 rfl) ?_
          intro a71 he71
          clear he70 a70
          refine hV (fuel := 26) (i := 3) (Value.int .u64 (x.c % 2097152)) he71 rfl rfl rfl (by kernel_rfl) (by kernel_rfl) (by kernel_rfl) (fun _ _ _ h => h) (wanted_plain rfl _) (fun w' _ => rn_remU rfl (he71.op rfl) (he71.op rfl) (by omega) (by decide) rfl w') (hH68.drop1 0 rfl) ?_
          intro a72 he72
          clear he71 a71
          refine hV (fuel := 25) (i := 4) (Value.int .i32 (x.c % 2097152)) he72 rfl rfl rfl (by kernel_rfl) (by kernel_rfl) (by kernel_rfl) (fun _ _ _ h => h) (wanted_plain rfl _) (fun w' _ => rn_cvUI rfl (he72.op rfl) (i32_wraps _ (by omega) (by omega)) w') (hH68.drop1 0 rfl) ?_
          intro a73 he73
          clear he72 a72
          refine hV (fuel := 24) (i := 5) (Value.pointer (some ⟨p1, 2, none⟩)) he73 rfl rfl rfl (by kernel_rfl) (by kernel_rfl) (by kernel_rfl) (fun _ _ _ h => h) (wanted_plain rfl _) (fun w' _ => rn_iaW2 rfl (he73.op rfl) (fun _ => rfl) rfl w') (hH68.drop1 0 rfl) ?_
          intro a74 he74
          clear he73 a73
          refine hV (fuel := 23) (i := 6) (Value.int .u64 x.c) he74 rfl rfl rfl (by kernel_rfl) (by kernel_rfl) (by kernel_rfl) (fun _ _ _ h => h) (wanted_plain rfl _) (fun w' hw' => rn_ld1 rfl (he74.op rfl) Tryd.underlying33 (hw'.at (i := 2) rfl) rfl) (hH68.drop1 0 rfl) ?_
          intro a75 he75
          clear he74 a74
          refine hV (fuel := 22) (i := 7) (Value.int .u64 2097152) he75 rfl rfl rfl (by kernel_rfl) (by kernel_rfl) (by kernel_rfl) (fun _ _ _ h => h) (wanted_plain rfl _) (fun w' _ => rn_mv rfl (he75.op rfl) w') (hH68.drop1 0 rfl) ?_
          intro a76 he76
          clear he75 a75
          refine hV (fuel := 21) (i := 8) (Value.int .u64 (x.c / 2097152)) he76 rfl rfl rfl (by kernel_rfl) (by kernel_rfl) (by kernel_rfl) (fun _ _ _ h => h) (wanted_plain rfl _) (fun w' _ => rn_quoU rfl (he76.op rfl) (he76.op rfl) (by omega) (by decide) (by omega) rfl w') (hH68.drop1 0 rfl) ?_
          intro a77 he77
          clear he76 a76
          refine hV (fuel := 20) (i := 9) (Value.int .u64 2097152) he77 rfl rfl rfl (by kernel_rfl) (by kernel_rfl) (by kernel_rfl) (fun _ _ _ h => h) (wanted_plain rfl _) (fun w' _ => rn_mv rfl (he77.op rfl) w') (hH68.drop1 0 rfl) ?_
          intro a78 he78
          clear he77 a77
          refine hV (fuel := 19) (i := 10) (Value.int .u64 (x.c / 2097152 % 2097152)) he78 rfl rfl rfl (by kernel_rfl) (by kernel_rfl) (by kernel_rfl) (fun _ _ _ h => h) (wanted_plain rfl _) (fun w' _ => rn_remU rfl (he78.op rfl) (he78.op rfl) (by omega) (by decide) rfl w') (hH68.drop1 0 rfl) ?_
          intro a79 he79
          clear he78 a78
          refine hV (fuel := 18) (i := 11) (Value.int .i32 (x.c / 2097152 % 2097152)) he79 rfl rfl rfl (by kernel_rfl) (by kernel_rfl) (by kernel_rfl) (fun _ _ _ h => h) (wanted_plain rfl _) (fun w' _ => rn_cvUI rfl (he79.op rfl) (i32_wraps _ (by omega) (by omega)) w') (hH68.drop1 0 rfl) ?_
          intro a80 he80
          clear he79 a79
          refine hV (fuel := 17) (i := 12) (Value.pointer (some ⟨p1, 2, none⟩)) he80 rfl rfl rfl (by kernel_rfl) (by kernel_rfl) (by kernel_rfl) (fun _ _ _ h => h) (wanted_plain rfl _) (fun w' _ => rn_iaW2 rfl (he80.op rfl) (fun _ => rfl) rfl w') (hH68.drop1 0 rfl) ?_
          intro a81 he81
          clear he80 a80
          refine hV (fuel := 16) (i := 13) (Value.int .u64 x.c) he81 rfl rfl rfl (by kernel_rfl) (by kernel_rfl) (by kernel_rfl) (fun _ _ _ h => h) (wanted_plain rfl _) (fun w' hw' => rn_ld1 rfl (he81.op rfl) Tryd.underlying33 (hw'.at (i := 2) rfl) rfl) (hH68.drop1 0 rfl) ?_
          intro a82 he82
          clear he81 a81
          refine hV (fuel := 15) (i := 14) (Value.int .u64 2097152) he82 rfl rfl rfl (by kernel_rfl) (by kernel_rfl) (by kernel_rfl) (fun _ _ _ h => h) (wanted_plain rfl _) (fun w' _ => rn_mv rfl (he82.op rfl) w') (hH68.drop1 0 rfl) ?_
          intro a83 he83
          clear he82 a82
          refine hV (fuel := 14) (i := 15) (Value.int .u64 (x.c / 2097152)) he83 rfl rfl rfl (by kernel_rfl) (by kernel_rfl) (by kernel_rfl) (fun _ _ _ h => h) (wanted_plain rfl _) (fun w' _ => rn_quoU rfl (he83.op rfl) (he83.op rfl) (by omega) (by decide) (by omega) rfl w') (hH68.drop1 0 rfl) ?_
          intro a84 he84
          clear he83 a83
          refine hV (fuel := 13) (i := 16) (Value.int .u64 2097152) he84 rfl rfl rfl (by kernel_rfl) (by kernel_rfl) (by kernel_rfl) (fun _ _ _ h => h) (wanted_plain rfl _) (fun w' _ => rn_mv rfl (he84.op rfl) w') (hH68.drop1 0 rfl) ?_
          intro a85 he85
          clear he84 a84
          refine hV (fuel := 12) (i := 17) (Value.int .u64 (x.c / 2097152 / 2097152)) he85 rfl rfl rfl (by kernel_rfl) (by kernel_rfl) (by kernel_rfl) (fun _ _ _ h => h) (wanted_plain rfl _) (fun w' _ => rn_quoU rfl (he85.op rfl) (he85.op rfl) (by omega) (by decide) (by omega) rfl w') (hH68.drop1 0 rfl) ?_
          intro a86 he86
          clear he85 a85
          refine hV (fuel := 11) (i := 18) (Value.int .u64 2097152) he86 rfl rfl rfl (by kernel_rfl) (by kernel_rfl) (by kernel_rfl) (fun _ _ _ h => h) (wanted_plain rfl _) (fun w' _ => rn_mv rfl (he86.op rfl) w') (hH68.drop1 0 rfl) ?_
          intro a87 he87
          clear he86 a86
          refine hV (fuel := 10) (i := 19) (Value.int .u64 (x.c / 2097152 / 2097152 % 2097152)) he87 rfl rfl rfl (by kernel_rfl) (by kernel_rfl) (by kernel_rfl) (fun _ _ _ h => h) (wanted_plain rfl _) (fun w' _ => rn_remU rfl (he87.op rfl) (he87.op rfl) (by omega) (by decide) rfl w') (hH68.drop1 0 rfl) ?_
          intro a88 he88
          clear he87 a87
          refine hV (fuel := 9) (i := 20) (Value.int .i32 (x.c / 2097152 / 2097152 % 2097152)) he88 rfl rfl rfl (by kernel_rfl) (by kernel_rfl) (by kernel_rfl) (fun _ _ _ h => h) (wanted_plain rfl _) (fun w' _ => rn_cvUI rfl (he88.op rfl) (i32_wraps _ (by omega) (by omega)) w') (hH68.drop1 0 rfl) ?_
          intro a89 he89
          clear he88 a88
          refine hV (fuel := 8) (i := 21) (Value.pointer (some ⟨p63, 1, none⟩)) he89 rfl rfl rfl (by kernel_rfl) (by kernel_rfl) (by kernel_rfl) (fun _ _ _ h => h) (wanted_plain rfl _) (fun w' _ => rn_faC1 rfl (he89.op rfl) rfl w') (hH68.drop1 0 rfl) ?_
          intro a90 he90
          clear he89 a89
          refine hV (fuel := 7) (i := 22) (Value.pointer (some ⟨p63, 1, none⟩)) he90 rfl rfl rfl (by kernel_rfl) (by kernel_rfl) (by kernel_rfl) (fun _ _ _ h => h) (wanted_plain rfl _) (fun w' _ => rn_iaM0 rfl (he90.op rfl) (fun _ => rfl) rfl w') (hH68.drop1 0 rfl) ?_
          intro a91 he91
          clear he90 a90
          refine hV (fuel := 6) (i := 24) (Value.pointer (some ⟨p63, 1, none⟩)) he91 rfl rfl rfl (by kernel_rfl) (by kernel_rfl) (by kernel_rfl) (fun _ _ _ h => h) (wanted_plain rfl _) (fun w' _ => rn_faC1 rfl (he91.op rfl) rfl w') (hH68.drop1 0 rfl) ?_
          intro a92 he92
          clear he91 a91
          refine hV (fuel := 5) (i := 27) (Value.pointer (some ⟨p63, 1, none⟩)) he92 rfl rfl rfl (by kernel_rfl) (by kernel_rfl) (by kernel_rfl) (fun _ _ _ h => h) (wanted_plain rfl _) (fun w' _ => rn_faC1 rfl (he92.op rfl) rfl w') (hH68.drop1 0 rfl) ?_
          intro a93 he93
          clear he92 a92
          refine hSetV (fuel := 4) (n := 23) 0 #[Value.int .i32 (x.c % 2097152)] (cs := (Ce.cs (⟨(x.b % 2097152), (x.c % 2097152), 0, 0, (x.b / 2097152), (penW x.a)⟩ : Ce))) he93 hH68 (by kernel_rfl) rfl rfl (wanted_plain rfl _) rfl rfl rfl rfl rfl (by kernel_rfl) (by kernel_rfl) (by kernel_rfl) rfl ?_
          intro w94 a95 hH94 hf he95
          replace hH94 : Hp w [⟨p63, 30, (Ce.cs (⟨(x.b % 2097152), (x.c % 2097152), 0, 0, (x.b / 2097152), (penW x.a)⟩ : Ce))⟩, ⟨p13, 28, (Pn.cs (penW x.a))⟩, ⟨p3, 30, (Ce.cs zeroCe)⟩, ⟨p1, 34, (Wd.cs x)⟩] w94 := hH94
          refine ⟨(hH94.drop1 0 rfl), ?_⟩
          clear hf
          clear he93 a93 hH68
          refine hV (fuel := 3) (i := 25) (Value.pointer (some ⟨p63, 2, none⟩)) he95 rfl rfl rfl (by kernel_rfl) (by kernel_rfl) (by kernel_rfl) (fun _ _ _ h => h) (wanted_plain rfl _) (fun w' _ => rn_iaM1 rfl (he95.op rfl) (fun _ => rfl) rfl w') (hH94.drop1 0 rfl) ?_
          intro a96 he96
          clear he95 a95
          refine hSetV (fuel := 2) (n := 26) 0 #[Value.int .i32 (x.c / 2097152 % 2097152)] (cs := (Ce.cs (⟨(x.b % 2097152), (x.c % 2097152), (x.c / 2097152 % 2097152), 0, (x.b / 2097152), (penW x.a)⟩ : Ce))) he96 hH94 (by kernel_rfl) rfl rfl (wanted_plain rfl _) rfl rfl rfl rfl rfl (by kernel_rfl) (by kernel_rfl) (by kernel_rfl) rfl ?_
          intro w97 a98 hH97 hf he98
          replace hH97 : Hp w [⟨p63, 30, (Ce.cs (⟨(x.b % 2097152), (x.c % 2097152), (x.c / 2097152 % 2097152), 0, (x.b / 2097152), (penW x.a)⟩ : Ce))⟩, ⟨p13, 28, (Pn.cs (penW x.a))⟩, ⟨p3, 30, (Ce.cs zeroCe)⟩, ⟨p1, 34, (Wd.cs x)⟩] w97 := hH97
          refine ⟨(hH97.drop1 0 rfl), ?_⟩
          clear hf
          clear he96 a96 hH94
          refine hV (fuel := 1) (i := 28) (Value.pointer (some ⟨p63, 3, none⟩)) he98 rfl rfl rfl (by kernel_rfl) (by kernel_rfl) (by kernel_rfl) (fun _ _ _ h => h) (wanted_plain rfl _) (fun w' _ => rn_iaM2 rfl (he98.op rfl) (fun _ => rfl) rfl w') (hH97.drop1 0 rfl) ?_
          intro a99 he99
          clear he98 a98
          refine hSetV (fuel := 0) (n := 29) 0 #[Value.int .i32 (x.c / 2097152 / 2097152 % 2097152)] (cs := (Ce.cs (⟨(x.b % 2097152), (x.c % 2097152), (x.c / 2097152 % 2097152), (x.c / 2097152 / 2097152 % 2097152), (x.b / 2097152), (penW x.a)⟩ : Ce))) he99 hH97 (by kernel_rfl) rfl rfl (wanted_plain rfl _) rfl rfl rfl rfl rfl (by kernel_rfl) (by kernel_rfl) (by kernel_rfl) rfl ?_
          intro w100 a101 hH100 hf he101
          replace hH100 : Hp w [⟨p63, 30, (Ce.cs (⟨(x.b % 2097152), (x.c % 2097152), (x.c / 2097152 % 2097152), (x.c / 2097152 / 2097152 % 2097152), (x.b / 2097152), (penW x.a)⟩ : Ce))⟩, ⟨p13, 28, (Pn.cs (penW x.a))⟩, ⟨p3, 30, (Ce.cs zeroCe)⟩, ⟨p1, 34, (Wd.cs x)⟩] w100 := hH100
          refine ⟨(hH100.drop1 0 rfl), ?_⟩
          clear hf
          clear he99 a99 hH97
          refine wpAnyH_done (by kernel_rfl) ?_ _
          refine then_ok ?_
          replace hH100 : Hp w [⟨p63, 30, (Ce.cs (cellI x))⟩, ⟨p13, 28, (Pn.cs (penW x.a))⟩, ⟨p3, 30, (Ce.cs zeroCe)⟩, ⟨p1, 34, (Wd.cs x)⟩] w100 := hH100
          have he102 : Env 70 [(7, Value.pointer (some ⟨p63, 0, none⟩)), (3, Value.bool false), (2, Value.pointer (some ⟨p3, 0, none⟩)), (1, Value.pointer (some ⟨p1, 0, none⟩)), (0, Wd.v x)] a101 := he101.mem ⟨rfl, rfl, rfl, rfl, rfl, trivial⟩
          clear he101
          as_aux_lemma =>
            obtain ⟨vb, hvb⟩ : ∃ vb, cellB (cellI x) = vb := ⟨_, rfl⟩
            have hps : decide (wordI (penW x.a) = x.a) = true := by simpa using hpb
            cases vb
            · skip
              refine wp_seq ?_
              refine wp_region_held_drew (S := Hp w [⟨p63, 30, (Ce.cs (cellI x))⟩, ⟨p13, 28, (Pn.cs (penW x.a))⟩, ⟨p1, 34, (Wd.cs x)⟩]) (by kernel_rfl) ((hH100.drew).drop1 2 rfl) (fun _ => ?_)
              have hn : New w100 (World.drew w100) := (Fr.refl _ _).drew
              clear hn
              have hH103 := hH100.drew
              clear hH100
              generalize World.drew w100 = w103 at *
              refine hV (fuel := 10) (i := 0) (Ce.v (cellI x)) he102 rfl rfl rfl (by kernel_rfl) (by kernel_rfl) (by kernel_rfl) (fun _ _ _ h => h) (wanted_plain rfl _) (fun w' hw' => rn_load rfl (he102.op rfl) (hw'.at (i := 0) rfl)) (hH103.drop1 2 rfl) ?_
              intro a104 he104
              clear he102 a101
              refine hV (fuel := 9) (i := 1) (Ce.v (cellI x)) he104 rfl rfl rfl (by kernel_rfl) (by kernel_rfl) (by kernel_rfl) (fun _ _ _ h => h) (wanted_plain rfl _) (fun w' hw' => rn_load rfl (he104.op rfl) (hw'.at (i := 0) rfl)) (hH103.drop1 2 rfl) ?_
              intro a105 he105
              clear he104 a104
              refine hC (fuel := 8) (i := 2) he105 (by kernel_rfl) rfl rfl rfl Tryd.func9 (by kernel_rfl) rfl rfl (wanted_plain rfl _) rfl (said_of (RValidC_any (cellI x) w103) hvb) ?_
              rintro _ w106 ⟨rfl, hn⟩
              have hH106 := hH103.call hn
              refine ⟨_, rfl, (hH106.drop1 2 rfl), ?_⟩
              intro a107 he107
              clear he105 a105 hH103 hn
              refine hV (fuel := 7) (i := 3) (Value.bool false) he107 rfl rfl rfl (by kernel_rfl) (by kernel_rfl) (by kernel_rfl) (fun _ _ _ h => h) (wanted_plain rfl _) (fun w' _ => rn_mv rfl (he107.op rfl) w') (hH106.drop1 2 rfl) ?_
              intro a108 he108
              clear he107 a107
              refine hSkip (fuel := 6) (i := 4) he108 rfl rfl rfl (by kernel_rfl) (by kernel_rfl) (by kernel_rfl) (fun _ _ _ h => h) (he108.wantNot rfl rfl rfl rfl rfl rfl) (hH106.drop1 2 rfl) ?_
              intro a109 he109
              clear he108 a108
              refine hSkip (fuel := 5) (i := 6) he109 rfl rfl rfl (by kernel_rfl) (by kernel_rfl) (by kernel_rfl) (fun _ _ _ h => h) (he109.wantNot rfl rfl rfl rfl rfl rfl) (hH106.drop1 2 rfl) ?_
              intro a110 he110
              clear he109 a109
              refine hSkip (fuel := 4) (i := 5) he110 rfl rfl rfl (by kernel_rfl) (by kernel_rfl) (by kernel_rfl) (fun _ _ _ h => h) (he110.wantNot rfl rfl rfl rfl rfl rfl) (hH106.drop1 2 rfl) ?_
              intro a111 he111
              clear he110 a110
              refine hSkip (fuel := 3) (i := 7) he111 rfl rfl rfl (by kernel_rfl) (by kernel_rfl) (by kernel_rfl) (fun _ _ _ h => h) (he111.wantNot rfl rfl rfl rfl rfl rfl) (hH106.drop1 2 rfl) ?_
              intro a112 he112
              clear he111 a111
              refine hV (fuel := 2) (i := 8) (Value.bool false) he112 rfl rfl rfl (by kernel_rfl) (by kernel_rfl) (by kernel_rfl) (fun _ _ _ h => h) (wanted_plain rfl _) (fun w' _ => rn_pk0 rfl (he112.op rfl) (he112.op rfl) w') (hH106.drop1 2 rfl) ?_
              intro a113 he113
              clear he112 a112
              refine hSetV (fuel := 1) (n := 9) 2 (Ce.cs (cellI x)) (cs := (Ce.cs (cellI x))) he113 hH106 (by kernel_rfl) rfl rfl (wanted_plain rfl _) rfl rfl rfl rfl rfl (by kernel_rfl) (by kernel_rfl) (by kernel_rfl) rfl ?_
              intro w114 a115 hH114 hf he115
              replace hH114 : Hp w [⟨p63, 30, (Ce.cs (cellI x))⟩, ⟨p13, 28, (Pn.cs (penW x.a))⟩, ⟨p3, 30, (Ce.cs (cellI x))⟩, ⟨p1, 34, (Wd.cs x)⟩] w114 := hH114
              refine ⟨(hH114.drop1 2 rfl), ?_⟩
              clear hf
              clear he113 a113 hH106
              refine hV (fuel := 0) (i := 10) (Value.bool false) he115 rfl rfl rfl (by kernel_rfl) (by kernel_rfl) (by kernel_rfl) (fun _ _ _ h => h) (wanted_plain rfl _) (fun w' _ => rn_asg rfl (he115.op rfl) w') (hH114.drop1 2 rfl) ?_
              intro a116 he116
              clear he115 a115
              refine wpAnyH_done (by kernel_rfl) ?_ _
              refine then_ok ?_
              have hg : goodB x = false := by rw [good_split, hps, hvb]; simp
              refine wp_ret ?_
              try simp only [Exit.then, Exit.inBlock]
              exact ret_rowt rfl he116 rfl rfl (hH114.at (i := 2) rfl) undC rfl infoC16 ⟨⟨_, by rw [hg], fun _ => rfl⟩, hH114.new⟩
            · skip
              obtain ⟨eb, heb⟩ : ∃ eb, decide (wordsI (cellI x) = x) = eb := ⟨_, rfl⟩
              refine wp_seq ?_
              refine wp_region_held_drew (S := Hp w [⟨p63, 30, (Ce.cs (cellI x))⟩, ⟨p13, 28, (Pn.cs (penW x.a))⟩, ⟨p1, 34, (Wd.cs x)⟩]) (by kernel_rfl) ((hH100.drew).drop1 2 rfl) (fun _ => ?_)
              have hn : New w100 (World.drew w100) := (Fr.refl _ _).drew
              clear hn
              have hH117 := hH100.drew
              clear hH100
              generalize World.drew w100 = w117 at *
              refine hV (fuel := 10) (i := 0) (Ce.v (cellI x)) he102 rfl rfl rfl (by kernel_rfl) (by kernel_rfl) (by kernel_rfl) (fun _ _ _ h => h) (wanted_plain rfl _) (fun w' hw' => rn_load rfl (he102.op rfl) (hw'.at (i := 0) rfl)) (hH117.drop1 2 rfl) ?_
              intro a118 he118
              clear he102 a101
              refine hV (fuel := 9) (i := 1) (Ce.v (cellI x)) he118 rfl rfl rfl (by kernel_rfl) (by kernel_rfl) (by kernel_rfl) (fun _ _ _ h => h) (wanted_plain rfl _) (fun w' hw' => rn_load rfl (he118.op rfl) (hw'.at (i := 0) rfl)) (hH117.drop1 2 rfl) ?_
              intro a119 he119
              clear he118 a118
              refine hC (fuel := 8) (i := 2) he119 (by kernel_rfl) rfl rfl rfl Tryd.func9 (by kernel_rfl) rfl rfl (wanted_plain rfl _) rfl (said_of (RValidC_any (cellI x) w117) hvb) ?_
              rintro _ w120 ⟨rfl, hn⟩
              have hH120 := hH117.call hn
              refine ⟨_, rfl, (hH120.drop1 2 rfl), ?_⟩
              intro a121 he121
              clear he119 a119 hH117 hn
              refine hV (fuel := 7) (i := 3) (Value.bool true) he121 rfl rfl rfl (by kernel_rfl) (by kernel_rfl) (by kernel_rfl) (fun _ _ _ h => h) (wanted_plain rfl _) (fun w' _ => rn_mv rfl (he121.op rfl) w') (hH120.drop1 2 rfl) ?_
              intro a122 he122
              clear he121 a121
              refine hV (fuel := 6) (i := 4) (Ce.v (cellI x)) he122 rfl rfl rfl (by kernel_rfl) (by kernel_rfl) (by kernel_rfl) (fun _ _ _ h => h) (he122.want rfl rfl rfl rfl rfl) (fun w' hw' => rn_load rfl (he122.op rfl) (hw'.at (i := 0) rfl)) (hH120.drop1 2 rfl) ?_
              intro a123 he123
              clear he122 a122
              refine hV (fuel := 5) (i := 6) (Wd.v x) he123 rfl rfl rfl (by kernel_rfl) (by kernel_rfl) (by kernel_rfl) (fun _ _ _ h => h) (he123.want rfl rfl rfl rfl rfl) (fun w' hw' => rn_loadW rfl (he123.op rfl) (hw'.at (i := 2) rfl)) (hH120.drop1 2 rfl) ?_
              intro a124 he124
              clear he123 a123
              refine hC (fuel := 4) (i := 5) he124 (by kernel_rfl) rfl rfl rfl Tryd.func12 (by kernel_rfl) rfl rfl (he124.want rfl rfl rfl rfl rfl) rfl (RWords_any (cellI x) hvb (cellI_p x) w120) ?_
              rintro _ w125 ⟨rfl, hn⟩
              have hH125 := hH120.call hn
              refine ⟨_, rfl, (hH125.drop1 2 rfl), ?_⟩
              intro a126 he126
              clear he124 a124 hH120 hn
              refine hV (fuel := 3) (i := 7) (Value.bool eb) he126 rfl rfl rfl (by kernel_rfl) (by kernel_rfl) (by kernel_rfl) (fun _ _ _ h => h) (he126.want rfl rfl rfl rfl rfl) (fun w' _ => rn_eqW rfl (he126.op rfl) (he126.op rfl) heb w') (hH125.drop1 2 rfl) ?_
              intro a127 he127
              clear he126 a126
              refine hV (fuel := 2) (i := 8) (Value.bool eb) he127 rfl rfl rfl (by kernel_rfl) (by kernel_rfl) (by kernel_rfl) (fun _ _ _ h => h) (wanted_plain rfl _) (fun w' _ => rn_pk rfl (he127.op rfl) (he127.op rfl) w') (hH125.drop1 2 rfl) ?_
              intro a128 he128
              clear he127 a127
              refine hSetV (fuel := 1) (n := 9) 2 (Ce.cs (cellI x)) (cs := (Ce.cs (cellI x))) he128 hH125 (by kernel_rfl) rfl rfl (wanted_plain rfl _) rfl rfl rfl rfl rfl (by kernel_rfl) (by kernel_rfl) (by kernel_rfl) rfl ?_
              intro w129 a130 hH129 hf he130
              replace hH129 : Hp w [⟨p63, 30, (Ce.cs (cellI x))⟩, ⟨p13, 28, (Pn.cs (penW x.a))⟩, ⟨p3, 30, (Ce.cs (cellI x))⟩, ⟨p1, 34, (Wd.cs x)⟩] w129 := hH129
              refine ⟨(hH129.drop1 2 rfl), ?_⟩
              clear hf
              clear he128 a128 hH125
              refine hV (fuel := 0) (i := 10) (Value.bool eb) he130 rfl rfl rfl (by kernel_rfl) (by kernel_rfl) (by kernel_rfl) (fun _ _ _ h => h) (wanted_plain rfl _) (fun w' _ => rn_asg rfl (he130.op rfl) w') (hH129.drop1 2 rfl) ?_
              intro a131 he131
              clear he130 a130
              refine wpAnyH_done (by kernel_rfl) ?_ _
              refine then_ok ?_
              have hg : goodB x = eb := by rw [good_split, hps, hvb, heb]; simp
              refine wp_ret ?_
              try simp only [Exit.then, Exit.inBlock]
              exact ret_rowt rfl he131 rfl rfl (hH129.at (i := 2) rfl) undC rfl infoC16 ⟨⟨_, by rw [hg], fun _ => rfl⟩, hH129.new⟩

end Go.Proofs.YtaiijndldngnkaaDoor
namespace Go.Proofs.YtaiijndldngnkaaDoor
open Go.RowKit

set_option linter.unusedSimpArgs false in
set_option maxRecDepth 100000 in
set_option maxHeartbeats 1600000 in
theorem PCell_yes (x : Wd) (hx : x.Ok) (h : goodB x = true) (w : World) (hT : Tab w) :
    Calls Tryd.prog 33 #[x.v] w fun e w' => e = .returned (.tuple #[(cellI x).v, .int .i64 0]) ∧ New w w' := by
  obtain ⟨a0, a1, b0, b1, c0, c1⟩ := hx
  obtain ⟨hv, hq⟩ := good_cell h
  have hps : wordI (penW x.a) = x.a := congrArg Wd.a hq
  refine calls_args (vl := [Wd.v x]) 40 Tryd.func33 rfl Tryd.ntmps33 (by kernel_rfl) (fun a he => ?_)
  have he0 : Env 40 [(0, Wd.v x)] a := he
  clear he
  have hH := Hp.start w
  refine wp_seq ?_
  refine wp_region_lit ?_
  refine lNew (fun p => .pointer (some ⟨p, 0, none⟩)) he0 hH rfl rfl (wanted_plain rfl _) (rn_boxW rfl (he0.op rfl) w) ?_
  intro p1 w1 a2 hn hH1 he2
  clear he0 a hH hn
  refine lNew (fun p => .pointer (some ⟨p, 0, none⟩)) he2 hH1 rfl rfl (wanted_plain rfl _) (rn_alloc rfl w1) ?_
  intro p3 w3 a4 hn hH3 he4
  clear he2 a2 hH1 hn
  refine lV (Value.int .i64 0) he4 rfl rfl (wanted_plain rfl _) (rn_asg rfl (he4.op rfl) w3) ?_
  intro a5 he5
  clear he4 a4
  refine wpList_nil ?_
  refine then_ok ?_
  refine wp_seq ?_
  refine wp_region_lit ?_
  refine lV (Value.pointer (some ⟨p1, 0, none⟩)) he5 rfl rfl (wanted_plain rfl _) (rn_iaW0 rfl (he5.op rfl) (fun _ => rfl) rfl w3) ?_
  intro a6 he6
  clear he5 a5
  refine lV (Value.int .u64 x.a) he6 rfl rfl (wanted_plain rfl _) (rn_ld1 rfl (he6.op rfl) Tryd.underlying33 (hH3.at (i := 1) rfl) rfl) ?_
  intro a7 he7
  clear he6 a6
  refine lC he7 rfl rfl Tryd.func47 (by kernel_rfl) rfl rfl (wanted_plain rfl _) rfl (Unpack_yes x.a a0 a1 hps w3) ?_
  intro w8 a9 hn he9
  have hH8 := hH3.call hn
  clear he7 a7 hH3 hn
  refine lV (Value.tuple #[Pn.v (penW x.a), Value.int .i64 0]) he9 rfl rfl (wanted_plain rfl _) (rn_mv rfl (he9.op rfl) w8) ?_
  intro a10 he10
  clear he9 a9
  refine lV (Pn.v (penW x.a)) he10 rfl rfl (wanted_plain rfl _) (rn_ext rfl (he10.op rfl) rfl w8) ?_
  intro a11 he11
  clear he10 a10
  refine lV (Value.int .i64 0) he11 rfl rfl (wanted_plain rfl _) (rn_ext rfl (he11.op rfl) rfl w8) ?_
  intro a12 he12
  clear he11 a11
  refine lNew (fun p => .pointer (some ⟨p, 0, none⟩)) he12 hH8 rfl rfl (wanted_plain rfl _) (rn_allocP rfl w8) ?_
  intro p13 w13 a14 hn hH13 he14
  clear he12 a12 hH8 hn
  refine lSetV 0 (Pn.cs (penW x.a)) (cs := (Pn.cs (penW x.a))) he14 hH13 rfl (wanted_plain rfl _) rfl rfl rfl rfl rfl (by kernel_rfl) (by kernel_rfl) (by kernel_rfl) rfl ?_
  intro w15 a16 hH15 he16
  replace hH15 : Hp w [⟨p13, 28, (Pn.cs (penW x.a))⟩, ⟨p3, 30, (Ce.cs zeroCe)⟩, ⟨p1, 34, (Wd.cs x)⟩] w15 := hH15
  clear he14 a14 hH13
  refine lV (Value.int .i64 0) he16 rfl rfl (wanted_plain rfl _) (rn_asg rfl (he16.op rfl) w15) ?_
  intro a17 he17
  clear he16 a16
  refine wpList_nil ?_
  refine then_ok ?_
  refine wp_seq ?_
  refine wp_seq ?_
  refine wp_region_lit ?_
  refine lV (Value.int .i64 0) he17 rfl rfl (wanted_plain rfl _) (rn_mv rfl (he17.op rfl) w15) ?_
  intro a18 he18
  clear he17 a17
  refine lV (Value.bool false) he18 rfl rfl (wanted_plain rfl _) (rn_neE rfl (he18.op rfl) (he18.op rfl) (by decide) w15) ?_
  intro a19 he19
  clear he18 a18
  refine wpList_nil ?_
  refine then_ok ?_
  refine wp_cond_false (he19.op rfl) ?_
  refine wp_skip ?_
  refine then_ok ?_
  have he20 : Env 40 [(4, Value.pointer (some ⟨p13, 0, none⟩)), (3, Value.int .i64 0), (2, Value.pointer (some ⟨p3, 0, none⟩)), (1, Value.pointer (some ⟨p1, 0, none⟩)), (0, Wd.v x)] a19 := he19.mem ⟨rfl, rfl, rfl, rfl, rfl, trivial⟩
  clear he19
  as_aux_lemma =>
    refine wp_seq ?_
    refine reg_cut (fun a w' => ∃ pc, Env 40 [(6, Value.pointer (some ⟨pc, 0, none⟩)), (3, Value.int .i64 0), (2, Value.pointer (some ⟨p3, 0, none⟩)), (1, Value.pointer (some ⟨p1, 0, none⟩)), (0, Wd.v x)] a ∧ Hp w [⟨pc, 30, (Ce.cs (cellI x))⟩, ⟨p13, 28, (Pn.cs (penW x.a))⟩, ⟨p3, 30, (Ce.cs zeroCe)⟩, ⟨p1, 34, (Wd.cs x)⟩] w') ?_ ?_
    · skip
      refine wp_region_held_drew (S := Hp w [⟨p13, 28, (Pn.cs (penW x.a))⟩, ⟨p3, 30, (Ce.cs zeroCe)⟩, ⟨p1, 34, (Wd.cs x)⟩]) (by kernel_rfl) (hH15.drew) (fun _ => ?_)
      have hn : New w15 (World.drew w15) := (Fr.refl _ _).drew
      clear hn
      have hH21 := hH15.drew
      clear hH15
      generalize World.drew w15 = w21 at *
      refine hV (fuel := 14) (i := 0) (Value.pointer (some ⟨p1, 1, none⟩)) he20 rfl rfl rfl (by kernel_rfl) (by kernel_rfl) (by kernel_rfl) (fun _ _ _ h => h) (wanted_plain rfl _) (fun w' _ => rn_iaW1 rfl (he20.op rfl) (fun _ => rfl) rfl w') hH21 ?_
      intro a22 he22
      clear he20 a19
      refine hV (fuel := 13) (i := 1) (Value.int .u64 x.b) he22 rfl rfl rfl (by kernel_rfl) (by kernel_rfl) (by kernel_rfl) (fun _ _ _ h => h) (wanted_plain rfl _) (fun w' hw' => rn_ld1 rfl (he22.op rfl) Tryd.underlying33 (hw'.at (i := 2) rfl) rfl) hH21 ?_
      intro a23 he23
      clear he22 a22
      refine hV (fuel := 12) (i := 2) (Value.int .u64 (x.b % 2097152)) he23 rfl rfl rfl (by kernel_rfl) (by kernel_rfl) (by kernel_rfl) (fun _ _ _ h => h) (wanted_plain rfl _) (fun w' _ => rn_andU rfl (he23.op rfl) (he23.op rfl) (mask21 _ b0 b1) w') hH21 ?_
      intro a24 he24
      clear he23 a23
      refine hV (fuel := 11) (i := 3) (Value.int .i32 (x.b % 2097152)) he24 rfl rfl rfl (by kernel_rfl) (by kernel_rfl) (by kernel_rfl) (fun _ _ _ h => h) (wanted_plain rfl _) (fun w' _ => rn_cvUI rfl (he24.op rfl) (i32_wraps _ (by omega) (by omega)) w') hH21 ?_
      intro a25 he25
      clear he24 a24
      refine hV (fuel := 10) (i := 4) (Value.pointer (some ⟨p1, 2, none⟩)) he25 rfl rfl rfl (by kernel_rfl) (by kernel_rfl) (by kernel_rfl) (fun _ _ _ h => h) (wanted_plain rfl _) (fun w' _ => rn_iaW2 rfl (he25.op rfl) (fun _ => rfl) rfl w') hH21 ?_
      intro a26 he26
      clear he25 a25
      refine hV (fuel := 9) (i := 5) (Value.int .u64 x.c) he26 rfl rfl rfl (by kernel_rfl) (by kernel_rfl) (by kernel_rfl) (fun _ _ _ h => h) (wanted_plain rfl _) (fun w' hw' => rn_ld1 rfl (he26.op rfl) Tryd.underlying33 (hw'.at (i := 2) rfl) rfl) hH21 ?_
      intro a27 he27
      clear he26 a26
      refine hV (fuel := 8) (i := 7) (Value.pointer (some ⟨p1, 1, none⟩)) he27 rfl rfl rfl (by kernel_rfl) (by kernel_rfl) (by kernel_rfl) (fun _ _ _ h => h) (wanted_plain rfl _) (fun w' _ => rn_iaW1 rfl (he27.op rfl) (fun _ => rfl) rfl w') hH21 ?_
      intro a28 he28
      clear he27 a27
      refine hV (fuel := 7) (i := 8) (Value.int .u64 x.b) he28 rfl rfl rfl (by kernel_rfl) (by kernel_rfl) (by kernel_rfl) (fun _ _ _ h => h) (wanted_plain rfl _) (fun w' hw' => rn_ld1 rfl (he28.op rfl) Tryd.underlying33 (hw'.at (i := 2) rfl) rfl) hH21 ?_
      intro a29 he29
      clear he28 a28
      refine hV (fuel := 6) (i := 9) (Value.int .u64 (x.b / 2097152)) he29 rfl rfl rfl (by kernel_rfl) (by kernel_rfl) (by kernel_rfl) (fun _ _ _ h => h) (wanted_plain rfl _) (fun w' _ => rn_shrU 21 rfl (he29.op rfl) (he29.op rfl) (by decide) (fd21 _ b0) w') hH21 ?_
      intro a30 he30
      clear he29 a29
      refine hV (fuel := 5) (i := 10) (Value.int .i64 (x.b / 2097152)) he30 rfl rfl rfl (by kernel_rfl) (by kernel_rfl) (by kernel_rfl) (fun _ _ _ h => h) (wanted_plain rfl _) (fun w' _ => rn_cvUW rfl (he30.op rfl) (i64_wraps _ (by omega) (by omega)) w') hH21 ?_
      intro a31 he31
      clear he30 a30
      refine hV (fuel := 4) (i := 11) (Pn.v (penW x.a)) he31 rfl rfl rfl (by kernel_rfl) (by kernel_rfl) (by kernel_rfl) (fun _ _ _ h => h) (wanted_plain rfl _) (fun w' hw' => rn_loadP rfl (he31.op rfl) (hw'.at (i := 0) rfl)) hH21 ?_
      intro a32 he32
      clear he31 a31
      refine hCA (fuel := 2) (i := 6) (j := 13) (x := 22) (y := 6) (fun p => .pointer (some ⟨p, 0, none⟩)) he32 hH21 rfl rfl (by kernel_rfl) (by kernel_rfl) rfl rfl rfl rfl rfl rfl Tryd.func48 (by kernel_rfl) rfl rfl (fun _ => rfl) rfl (fun w0_ hn_ => marksIn_any x.c c0 c1 w0_) (fun a w => rn_alloc rfl w) (fun w1_ h1_ => h1_) ?_ ?_
      · skip
        intro w33 a33 hH33 he33
        clear he32 a32 hH21
        refine hV (fuel := 2) (i := 12) (Ce.v (⟨(x.b % 2097152), (x.c % 2097152), (x.c / 2097152 % 2097152), (x.c / 2097152 / 2097152 % 2097152), (x.b / 2097152), (penW x.a)⟩ : Ce)) he33 rfl rfl rfl (by kernel_rfl) (by kernel_rfl) (by kernel_rfl) (fun _ _ _ h => h) (wanted_plain rfl _) (fun w' _ => rn_bC0123 rfl (he33.op rfl) (he33.op rfl) (he33.op rfl) (he33.op rfl) w') hH33 ?_
        intro a34 he34
        clear he33 a33
        replace he34 : Env 40 [(28, Ce.v (cellI x)), (22, Value.agg #[Value.int .i32 (x.c % 2097152), Value.int .i32 (x.c / 2097152 % 2097152), Value.int .i32 (x.c / 2097152 / 2097152 % 2097152)]), (27, Pn.v (penW x.a)), (26, Value.int .i64 (x.b / 2097152)), (25, Value.int .u64 (x.b / 2097152)), (24, Value.int .u64 x.b), (23, Value.pointer (some ⟨p1, 1, none⟩)), (21, Value.int .u64 x.c), (20, Value.pointer (some ⟨p1, 2, none⟩)), (19, Value.int .i32 (x.b % 2097152)), (18, Value.int .u64 (x.b % 2097152)), (17, Value.int .u64 x.b), (16, Value.pointer (some ⟨p1, 1, none⟩)), (4, Value.pointer (some ⟨p13, 0, none⟩)), (3, Value.int .i64 0), (2, Value.pointer (some ⟨p3, 0, none⟩)), (1, Value.pointer (some ⟨p1, 0, none⟩)), (0, Wd.v x)] a34 := he34
        refine hNew (fuel := 1) (i := 13) (fun p => .pointer (some ⟨p, 0, none⟩)) he34 hH33 (by kernel_rfl) rfl rfl rfl (wanted_plain rfl _) (rn_alloc rfl w33) ?_
        intro p35 w35 a36 hn hH35 he36
        refine ⟨(hH35.drop1 0 rfl), ?_⟩
        clear he34 a34 hH33 hn
        refine hSetV (fuel := 0) (n := 14) 0 (Ce.cs (cellI x)) (cs := (Ce.cs (cellI x))) he36 hH35 (by kernel_rfl) rfl rfl (wanted_plain rfl _) rfl rfl rfl rfl rfl (by kernel_rfl) (by kernel_rfl) (by kernel_rfl) rfl ?_
        intro w37 a38 hH37 hf he38
        replace hH37 : Hp w [⟨p35, 30, (Ce.cs (cellI x))⟩, ⟨p13, 28, (Pn.cs (penW x.a))⟩, ⟨p3, 30, (Ce.cs zeroCe)⟩, ⟨p1, 34, (Wd.cs x)⟩] w37 := hH37
        refine ⟨(hH37.drop1 0 rfl), ?_⟩
        clear hf
        clear he36 a36 hH35
        refine wpAnyH_done (by kernel_rfl) ?_ _
        refine then_ok ?_
        exact ⟨p35, he38.mem ⟨rfl, rfl, rfl, rfl, rfl, trivial⟩, hH37⟩
      · skip
        intro p33 w33 a33 hH33 he33
        clear he32 a32 hH21
        refine hV (fuel := 1) (i := 12) (Ce.v (⟨(x.b % 2097152), (x.c % 2097152), (x.c / 2097152 % 2097152), (x.c / 2097152 / 2097152 % 2097152), (x.b / 2097152), (penW x.a)⟩ : Ce)) he33 rfl rfl rfl (by kernel_rfl) (by kernel_rfl) (by kernel_rfl) (fun _ _ _ h => h) (wanted_plain rfl _) (fun w' _ => rn_bC0123 rfl (he33.op rfl) (he33.op rfl) (he33.op rfl) (he33.op rfl) w') (hH33.drop1 0 rfl) ?_
        intro a39 he39
        clear he33 a33
        replace he39 : Env 40 [(28, Ce.v (cellI x)), (22, Value.agg #[Value.int .i32 (x.c % 2097152), Value.int .i32 (x.c / 2097152 % 2097152), Value.int .i32 (x.c / 2097152 / 2097152 % 2097152)]), (6, Value.pointer (some ⟨p33, 0, none⟩)), (27, Pn.v (penW x.a)), (26, Value.int .i64 (x.b / 2097152)), (25, Value.int .u64 (x.b / 2097152)), (24, Value.int .u64 x.b), (23, Value.pointer (some ⟨p1, 1, none⟩)), (21, Value.int .u64 x.c), (20, Value.pointer (some ⟨p1, 2, none⟩)), (19, Value.int .i32 (x.b % 2097152)), (18, Value.int .u64 (x.b % 2097152)), (17, Value.int .u64 x.b), (16, Value.pointer (some ⟨p1, 1, none⟩)), (4, Value.pointer (some ⟨p13, 0, none⟩)), (3, Value.int .i64 0), (2, Value.pointer (some ⟨p3, 0, none⟩)), (1, Value.pointer (some ⟨p1, 0, none⟩)), (0, Wd.v x)] a39 := he39
        refine hSetV (fuel := 0) (n := 14) 0 (Ce.cs (cellI x)) (cs := (Ce.cs (cellI x))) he39 hH33 (by kernel_rfl) rfl rfl (wanted_plain rfl _) rfl rfl rfl rfl rfl (by kernel_rfl) (by kernel_rfl) (by kernel_rfl) rfl ?_
        intro w40 a41 hH40 hf he41
        replace hH40 : Hp w [⟨p33, 30, (Ce.cs (cellI x))⟩, ⟨p13, 28, (Pn.cs (penW x.a))⟩, ⟨p3, 30, (Ce.cs zeroCe)⟩, ⟨p1, 34, (Wd.cs x)⟩] w40 := hH40
        refine ⟨(hH40.drop1 0 rfl), ?_⟩
        clear hf
        clear he39 a39 hH33
        refine wpAnyH_done (by kernel_rfl) ?_ _
        refine then_ok ?_
        exact ⟨p33, he41.mem ⟨rfl, rfl, rfl, rfl, rfl, trivial⟩, hH40⟩
    · skip
      rintro ac wc ⟨pc, hec, hHc⟩
      have he42 : Env 40 [(6, Value.pointer (some ⟨pc, 0, none⟩)), (3, Value.int .i64 0), (2, Value.pointer (some ⟨p3, 0, none⟩)), (1, Value.pointer (some ⟨p1, 0, none⟩)), (0, Wd.v x)] ac := hec.mem ⟨rfl, rfl, rfl, rfl, rfl, trivial⟩
      clear hec
      as_aux_lemma =>
        refine wp_seq ?_
        refine wp_seq ?_
        refine wp_region_held_drew (S := Hp w [⟨pc, 30, (Ce.cs (cellI x))⟩, ⟨p13, 28, (Pn.cs (penW x.a))⟩, ⟨p3, 30, (Ce.cs zeroCe)⟩, ⟨p1, 34, (Wd.cs x)⟩]) (by kernel_rfl) (hHc.drew) (fun _ => ?_)
        have hn : New wc (World.drew wc) := (Fr.refl _ _).drew
        clear hn
        have hH43 := hHc.drew
        clear hHc
        generalize World.drew wc = w43 at *
        refine hV (fuel := 8) (i := 0) (Ce.v (cellI x)) he42 rfl rfl rfl (by kernel_rfl) (by kernel_rfl) (by kernel_rfl) (fun _ _ _ h => h) (wanted_plain rfl _) (fun w' hw' => rn_load rfl (he42.op rfl) (hw'.at (i := 0) rfl)) hH43 ?_
        intro a44 he44
        clear he42 ac
        refine hC (fuel := 7) (i := 1) he44 (by kernel_rfl) rfl rfl rfl Tryd.func39 (by kernel_rfl) rfl rfl (wanted_plain rfl _) rfl (CValidK (cellI x) true hv w43 (hT.new hH43.new)) ?_
        rintro _ w45 ⟨rfl, hn⟩
        have hH45 := hH43.call hn
        refine ⟨_, rfl, hH45, ?_⟩
        intro a46 he46
        clear he44 a44 hH43 hn
        refine hV (fuel := 6) (i := 2) (Value.bool false) he46 rfl rfl rfl (by kernel_rfl) (by kernel_rfl) (by kernel_rfl) (fun _ _ _ h => h) (wanted_plain rfl _) (fun w' _ => rn_not (b := true) rfl (he46.op rfl) w') hH45 ?_
        intro a47 he47
        clear he46 a46
        refine hV (fuel := 5) (i := 3) (Value.bool false) he47 rfl rfl rfl (by kernel_rfl) (by kernel_rfl) (by kernel_rfl) (fun _ _ _ h => h) (wanted_plain rfl _) (fun w' _ => rn_mv rfl (he47.op rfl) w') hH45 ?_
        intro a48 he48
        clear he47 a47
        refine hV (fuel := 4) (i := 4) (Ce.v (cellI x)) he48 rfl rfl rfl (by kernel_rfl) (by kernel_rfl) (by kernel_rfl) (fun _ _ _ h => h) (he48.want rfl rfl rfl rfl rfl) (fun w' hw' => rn_load rfl (he48.op rfl) (hw'.at (i := 0) rfl)) hH45 ?_
        intro a49 he49
        clear he48 a48
        refine hV (fuel := 3) (i := 6) (Wd.v x) he49 rfl rfl rfl (by kernel_rfl) (by kernel_rfl) (by kernel_rfl) (fun _ _ _ h => h) (he49.want rfl rfl rfl rfl rfl) (fun w' hw' => rn_loadW rfl (he49.op rfl) (hw'.at (i := 3) rfl)) hH45 ?_
        intro a50 he50
        clear he49 a49
        refine hC (fuel := 2) (i := 5) he50 (by kernel_rfl) rfl rfl rfl Tryd.func40 (by kernel_rfl) rfl rfl (he50.want rfl rfl rfl rfl rfl) rfl (wordsOf_any (cellI x) hv (cellI_p x) w45) ?_
        rintro _ w51 ⟨rfl, hn⟩
        have hH51 := hH45.call hn
        refine ⟨_, rfl, hH51, ?_⟩
        intro a52 he52
        clear he50 a50 hH45 hn
        refine hV (fuel := 1) (i := 7) (Value.bool false) he52 rfl rfl rfl (by kernel_rfl) (by kernel_rfl) (by kernel_rfl) (fun _ _ _ h => h) (he52.want rfl rfl rfl rfl rfl) (fun w' _ => rn_neW rfl (he52.op rfl) (he52.op rfl) (by simp [hq]) w') hH51 ?_
        intro a53 he53
        clear he52 a52
        refine hV (fuel := 0) (i := 8) (Value.bool false) he53 rfl rfl rfl (by kernel_rfl) (by kernel_rfl) (by kernel_rfl) (fun _ _ _ h => h) (wanted_plain rfl _) (fun w' _ => rn_pk0 rfl (he53.op rfl) (he53.op rfl) w') hH51 ?_
        intro a54 he54
        clear he53 a53
        refine wpAnyH_done (by kernel_rfl) ?_ _
        refine then_ok ?_
        refine wp_cond_false (he54.op rfl) ?_
        refine wp_skip ?_
        refine then_ok ?_
        refine wp_seq ?_
        refine wp_region_lit ?_
        refine lV (Ce.v (cellI x)) he54 rfl rfl (wanted_plain rfl _) (rn_load rfl (he54.op rfl) (hH51.at (i := 0) rfl)) ?_
        intro a55 he55
        clear he54 a54
        refine lSetV 2 (Ce.cs (cellI x)) (cs := (Ce.cs (cellI x))) he55 hH51 rfl (wanted_plain rfl _) rfl rfl rfl rfl rfl (by kernel_rfl) (by kernel_rfl) (by kernel_rfl) rfl ?_
        intro w56 a57 hH56 he57
        replace hH56 : Hp w [⟨pc, 30, (Ce.cs (cellI x))⟩, ⟨p13, 28, (Pn.cs (penW x.a))⟩, ⟨p3, 30, (Ce.cs (cellI x))⟩, ⟨p1, 34, (Wd.cs x)⟩] w56 := hH56
        clear he55 a55 hH51
        refine lV (Value.int .i64 0) he57 rfl rfl (wanted_plain rfl _) (rn_asg rfl (he57.op rfl) w56) ?_
        intro a58 he58
        clear he57 a57
        refine wpList_nil ?_
        refine then_ok ?_
        refine wp_ret ?_
        try simp only [Exit.then, Exit.inBlock]
        exact ret_rowt rfl he58 rfl rfl (hH56.at (i := 2) rfl) undC rfl infoC16 ⟨rfl, hH56.new⟩

set_option linter.unusedSimpArgs false in
set_option maxRecDepth 100000 in
set_option maxHeartbeats 1600000 in
theorem PCell_pen (x : Wd) (hx : x.Ok) (hpn : wordI (penW x.a) ≠ x.a) (w : World) (_ : Tab w) :
    Calls Tryd.prog 33 #[x.v] w fun e w' => e = .returned (.tuple #[zeroCe.v, .int .i64 12]) ∧ New w w' := by
  obtain ⟨a0, a1, b0, b1, c0, c1⟩ := hx
  refine calls_args (vl := [Wd.v x]) 40 Tryd.func33 rfl Tryd.ntmps33 (by kernel_rfl) (fun a he => ?_)
  have he0 : Env 40 [(0, Wd.v x)] a := he
  clear he
  have hH := Hp.start w
  refine wp_seq ?_
  refine wp_region_lit ?_
  refine lNew (fun p => .pointer (some ⟨p, 0, none⟩)) he0 hH rfl rfl (wanted_plain rfl _) (rn_boxW rfl (he0.op rfl) w) ?_
  intro p1 w1 a2 hn hH1 he2
  clear he0 a hH hn
  refine lNew (fun p => .pointer (some ⟨p, 0, none⟩)) he2 hH1 rfl rfl (wanted_plain rfl _) (rn_alloc rfl w1) ?_
  intro p3 w3 a4 hn hH3 he4
  clear he2 a2 hH1 hn
  refine lV (Value.int .i64 0) he4 rfl rfl (wanted_plain rfl _) (rn_asg rfl (he4.op rfl) w3) ?_
  intro a5 he5
  clear he4 a4
  refine wpList_nil ?_
  refine then_ok ?_
  refine wp_seq ?_
  refine wp_region_lit ?_
  refine lV (Value.pointer (some ⟨p1, 0, none⟩)) he5 rfl rfl (wanted_plain rfl _) (rn_iaW0 rfl (he5.op rfl) (fun _ => rfl) rfl w3) ?_
  intro a6 he6
  clear he5 a5
  refine lV (Value.int .u64 x.a) he6 rfl rfl (wanted_plain rfl _) (rn_ld1 rfl (he6.op rfl) Tryd.underlying33 (hH3.at (i := 1) rfl) rfl) ?_
  intro a7 he7
  clear he6 a6
  refine lC he7 rfl rfl Tryd.func47 (by kernel_rfl) rfl rfl (wanted_plain rfl _) rfl (Unpack_no x.a a0 a1 hpn w3) ?_
  intro w8 a9 hn he9
  have hH8 := hH3.call hn
  clear he7 a7 hH3 hn
  refine lV (Value.tuple #[Pn.v zeroP, Value.int .i64 12]) he9 rfl rfl (wanted_plain rfl _) (rn_mv rfl (he9.op rfl) w8) ?_
  intro a10 he10
  clear he9 a9
  refine lV (Pn.v zeroP) he10 rfl rfl (wanted_plain rfl _) (rn_ext rfl (he10.op rfl) rfl w8) ?_
  intro a11 he11
  clear he10 a10
  refine lV (Value.int .i64 12) he11 rfl rfl (wanted_plain rfl _) (rn_ext rfl (he11.op rfl) rfl w8) ?_
  intro a12 he12
  clear he11 a11
  refine lNew (fun p => .pointer (some ⟨p, 0, none⟩)) he12 hH8 rfl rfl (wanted_plain rfl _) (rn_allocP rfl w8) ?_
  intro p13 w13 a14 hn hH13 he14
  clear he12 a12 hH8 hn
  refine lSetV 0 (Pn.cs zeroP) (cs := (Pn.cs zeroP)) he14 hH13 rfl (wanted_plain rfl _) rfl rfl rfl rfl rfl (by kernel_rfl) (by kernel_rfl) (by kernel_rfl) rfl ?_
  intro w15 a16 hH15 he16
  replace hH15 : Hp w [⟨p13, 28, (Pn.cs zeroP)⟩, ⟨p3, 30, (Ce.cs zeroCe)⟩, ⟨p1, 34, (Wd.cs x)⟩] w15 := hH15
  clear he14 a14 hH13
  refine lV (Value.int .i64 12) he16 rfl rfl (wanted_plain rfl _) (rn_asg rfl (he16.op rfl) w15) ?_
  intro a17 he17
  clear he16 a16
  refine wpList_nil ?_
  refine then_ok ?_
  refine wp_seq ?_
  refine wp_seq ?_
  refine wp_region_lit ?_
  refine lV (Value.int .i64 12) he17 rfl rfl (wanted_plain rfl _) (rn_mv rfl (he17.op rfl) w15) ?_
  intro a18 he18
  clear he17 a17
  refine lV (Value.bool true) he18 rfl rfl (wanted_plain rfl _) (rn_neE rfl (he18.op rfl) (he18.op rfl) (by decide) w15) ?_
  intro a19 he19
  clear he18 a18
  refine wpList_nil ?_
  refine then_ok ?_
  refine wp_cond_true (he19.op rfl) ?_
  refine wp_seq ?_
  refine wp_region_lit ?_
  refine lV (Ce.v zeroCe) he19 rfl rfl (wanted_plain rfl _) (rn_bC0 rfl w15) ?_
  intro a20 he20
  clear he19 a19
  refine lSetV 1 (Ce.cs zeroCe) (cs := (Ce.cs zeroCe)) he20 hH15 rfl (wanted_plain rfl _) rfl rfl rfl rfl rfl (by kernel_rfl) (by kernel_rfl) (by kernel_rfl) rfl ?_
  intro w21 a22 hH21 he22
  replace hH21 : Hp w [⟨p13, 28, (Pn.cs zeroP)⟩, ⟨p3, 30, (Ce.cs zeroCe)⟩, ⟨p1, 34, (Wd.cs x)⟩] w21 := hH21
  clear he20 a20 hH15
  refine lV (Value.int .i64 12) he22 rfl rfl (wanted_plain rfl _) (rn_asg rfl (he22.op rfl) w21) ?_
  intro a23 he23
  clear he22 a22
  refine wpList_nil ?_
  refine then_ok ?_
  refine wp_ret ?_
  try simp only [Exit.then, Exit.inBlock]
  exact ret_rowt rfl he23 rfl rfl (hH21.at (i := 1) rfl) undC rfl infoC16 ⟨rfl, hH21.new⟩

set_option linter.unusedSimpArgs false in
set_option maxRecDepth 100000 in
set_option maxHeartbeats 1600000 in
theorem PCell_inv (x : Wd) (hx : x.Ok) (hps : wordI (penW x.a) = x.a) (hv : cellB (cellI x) = false) (w : World) (hT : Tab w) :
    Calls Tryd.prog 33 #[x.v] w fun e w' => e = .returned (.tuple #[zeroCe.v, .int .i64 12]) ∧ New w w' := by
  obtain ⟨a0, a1, b0, b1, c0, c1⟩ := hx
  refine calls_args (vl := [Wd.v x]) 40 Tryd.func33 rfl Tryd.ntmps33 (by kernel_rfl) (fun a he => ?_)
  have he0 : Env 40 [(0, Wd.v x)] a := he
  clear he
  have hH := Hp.start w
  refine wp_seq ?_
  refine wp_region_lit ?_
  refine lNew (fun p => .pointer (some ⟨p, 0, none⟩)) he0 hH rfl rfl (wanted_plain rfl _) (rn_boxW rfl (he0.op rfl) w) ?_
  intro p1 w1 a2 hn hH1 he2
  clear he0 a hH hn
  refine lNew (fun p => .pointer (some ⟨p, 0, none⟩)) he2 hH1 rfl rfl (wanted_plain rfl _) (rn_alloc rfl w1) ?_
  intro p3 w3 a4 hn hH3 he4
  clear he2 a2 hH1 hn
  refine lV (Value.int .i64 0) he4 rfl rfl (wanted_plain rfl _) (rn_asg rfl (he4.op rfl) w3) ?_
  intro a5 he5
  clear he4 a4
  refine wpList_nil ?_
  refine then_ok ?_
  refine wp_seq ?_
  refine wp_region_lit ?_
  refine lV (Value.pointer (some ⟨p1, 0, none⟩)) he5 rfl rfl (wanted_plain rfl _) (rn_iaW0 rfl (he5.op rfl) (fun _ => rfl) rfl w3) ?_
  intro a6 he6
  clear he5 a5
  refine lV (Value.int .u64 x.a) he6 rfl rfl (wanted_plain rfl _) (rn_ld1 rfl (he6.op rfl) Tryd.underlying33 (hH3.at (i := 1) rfl) rfl) ?_
  intro a7 he7
  clear he6 a6
  refine lC he7 rfl rfl Tryd.func47 (by kernel_rfl) rfl rfl (wanted_plain rfl _) rfl (Unpack_yes x.a a0 a1 hps w3) ?_
  intro w8 a9 hn he9
  have hH8 := hH3.call hn
  clear he7 a7 hH3 hn
  refine lV (Value.tuple #[Pn.v (penW x.a), Value.int .i64 0]) he9 rfl rfl (wanted_plain rfl _) (rn_mv rfl (he9.op rfl) w8) ?_
  intro a10 he10
  clear he9 a9
  refine lV (Pn.v (penW x.a)) he10 rfl rfl (wanted_plain rfl _) (rn_ext rfl (he10.op rfl) rfl w8) ?_
  intro a11 he11
  clear he10 a10
  refine lV (Value.int .i64 0) he11 rfl rfl (wanted_plain rfl _) (rn_ext rfl (he11.op rfl) rfl w8) ?_
  intro a12 he12
  clear he11 a11
  refine lNew (fun p => .pointer (some ⟨p, 0, none⟩)) he12 hH8 rfl rfl (wanted_plain rfl _) (rn_allocP rfl w8) ?_
  intro p13 w13 a14 hn hH13 he14
  clear he12 a12 hH8 hn
  refine lSetV 0 (Pn.cs (penW x.a)) (cs := (Pn.cs (penW x.a))) he14 hH13 rfl (wanted_plain rfl _) rfl rfl rfl rfl rfl (by kernel_rfl) (by kernel_rfl) (by kernel_rfl) rfl ?_
  intro w15 a16 hH15 he16
  replace hH15 : Hp w [⟨p13, 28, (Pn.cs (penW x.a))⟩, ⟨p3, 30, (Ce.cs zeroCe)⟩, ⟨p1, 34, (Wd.cs x)⟩] w15 := hH15
  clear he14 a14 hH13
  refine lV (Value.int .i64 0) he16 rfl rfl (wanted_plain rfl _) (rn_asg rfl (he16.op rfl) w15) ?_
  intro a17 he17
  clear he16 a16
  refine wpList_nil ?_
  refine then_ok ?_
  refine wp_seq ?_
  refine wp_seq ?_
  refine wp_region_lit ?_
  refine lV (Value.int .i64 0) he17 rfl rfl (wanted_plain rfl _) (rn_mv rfl (he17.op rfl) w15) ?_
  intro a18 he18
  clear he17 a17
  refine lV (Value.bool false) he18 rfl rfl (wanted_plain rfl _) (rn_neE rfl (he18.op rfl) (he18.op rfl) (by decide) w15) ?_
  intro a19 he19
  clear he18 a18
  refine wpList_nil ?_
  refine then_ok ?_
  refine wp_cond_false (he19.op rfl) ?_
  refine wp_skip ?_
  refine then_ok ?_
  have he20 : Env 40 [(4, Value.pointer (some ⟨p13, 0, none⟩)), (3, Value.int .i64 0), (2, Value.pointer (some ⟨p3, 0, none⟩)), (1, Value.pointer (some ⟨p1, 0, none⟩)), (0, Wd.v x)] a19 := he19.mem ⟨rfl, rfl, rfl, rfl, rfl, trivial⟩
  clear he19
  as_aux_lemma =>
    refine wp_seq ?_
    refine reg_cut (fun a w' => ∃ pc, Env 40 [(6, Value.pointer (some ⟨pc, 0, none⟩)), (3, Value.int .i64 0), (2, Value.pointer (some ⟨p3, 0, none⟩)), (1, Value.pointer (some ⟨p1, 0, none⟩)), (0, Wd.v x)] a ∧ Hp w [⟨pc, 30, (Ce.cs (cellI x))⟩, ⟨p13, 28, (Pn.cs (penW x.a))⟩, ⟨p3, 30, (Ce.cs zeroCe)⟩, ⟨p1, 34, (Wd.cs x)⟩] w') ?_ ?_
    · skip
      refine wp_region_held_drew (S := Hp w [⟨p13, 28, (Pn.cs (penW x.a))⟩, ⟨p3, 30, (Ce.cs zeroCe)⟩, ⟨p1, 34, (Wd.cs x)⟩]) (by kernel_rfl) (hH15.drew) (fun _ => ?_)
      have hn : New w15 (World.drew w15) := (Fr.refl _ _).drew
      clear hn
      have hH21 := hH15.drew
      clear hH15
      generalize World.drew w15 = w21 at *
      refine hV (fuel := 14) (i := 0) (Value.pointer (some ⟨p1, 1, none⟩)) he20 rfl rfl rfl (by kernel_rfl) (by kernel_rfl) (by kernel_rfl) (fun _ _ _ h => h) (wanted_plain rfl _) (fun w' _ => rn_iaW1 rfl (he20.op rfl) (fun _ => rfl) rfl w') hH21 ?_
      intro a22 he22
      clear he20 a19
      refine hV (fuel := 13) (i := 1) (Value.int .u64 x.b) he22 rfl rfl rfl (by kernel_rfl) (by kernel_rfl) (by kernel_rfl) (fun _ _ _ h => h) (wanted_plain rfl _) (fun w' hw' => rn_ld1 rfl (he22.op rfl) Tryd.underlying33 (hw'.at (i := 2) rfl) rfl) hH21 ?_
      intro a23 he23
      clear he22 a22
      refine hV (fuel := 12) (i := 2) (Value.int .u64 (x.b % 2097152)) he23 rfl rfl rfl (by kernel_rfl) (by kernel_rfl) (by kernel_rfl) (fun _ _ _ h => h) (wanted_plain rfl _) (fun w' _ => rn_andU rfl (he23.op rfl) (he23.op rfl) (mask21 _ b0 b1) w') hH21 ?_
      intro a24 he24
      clear he23 a23
      refine hV (fuel := 11) (i := 3) (Value.int .i32 (x.b % 2097152)) he24 rfl rfl rfl (by kernel_rfl) (by kernel_rfl) (by kernel_rfl) (fun _ _ _ h => h) (wanted_plain rfl _) (fun w' _ => rn_cvUI rfl (he24.op rfl) (i32_wraps _ (by omega) (by omega)) w') hH21 ?_
      intro a25 he25
      clear he24 a24
      refine hV (fuel := 10) (i := 4) (Value.pointer (some ⟨p1, 2, none⟩)) he25 rfl rfl rfl (by kernel_rfl) (by kernel_rfl) (by kernel_rfl) (fun _ _ _ h => h) (wanted_plain rfl _) (fun w' _ => rn_iaW2 rfl (he25.op rfl) (fun _ => rfl) rfl w') hH21 ?_
      intro a26 he26
      clear he25 a25
      refine hV (fuel := 9) (i := 5) (Value.int .u64 x.c) he26 rfl rfl rfl (by kernel_rfl) (by kernel_rfl) (by kernel_rfl) (fun _ _ _ h => h) (wanted_plain rfl _) (fun w' hw' => rn_ld1 rfl (he26.op rfl) Tryd.underlying33 (hw'.at (i := 2) rfl) rfl) hH21 ?_
      intro a27 he27
      clear he26 a26
      refine hV (fuel := 8) (i := 7) (Value.pointer (some ⟨p1, 1, none⟩)) he27 rfl rfl rfl (by kernel_rfl) (by kernel_rfl) (by kernel_rfl) (fun _ _ _ h => h) (wanted_plain rfl _) (fun w' _ => rn_iaW1 rfl (he27.op rfl) (fun _ => rfl) rfl w') hH21 ?_
      intro a28 he28
      clear he27 a27
      refine hV (fuel := 7) (i := 8) (Value.int .u64 x.b) he28 rfl rfl rfl (by kernel_rfl) (by kernel_rfl) (by kernel_rfl) (fun _ _ _ h => h) (wanted_plain rfl _) (fun w' hw' => rn_ld1 rfl (he28.op rfl) Tryd.underlying33 (hw'.at (i := 2) rfl) rfl) hH21 ?_
      intro a29 he29
      clear he28 a28
      refine hV (fuel := 6) (i := 9) (Value.int .u64 (x.b / 2097152)) he29 rfl rfl rfl (by kernel_rfl) (by kernel_rfl) (by kernel_rfl) (fun _ _ _ h => h) (wanted_plain rfl _) (fun w' _ => rn_shrU 21 rfl (he29.op rfl) (he29.op rfl) (by decide) (fd21 _ b0) w') hH21 ?_
      intro a30 he30
      clear he29 a29
      refine hV (fuel := 5) (i := 10) (Value.int .i64 (x.b / 2097152)) he30 rfl rfl rfl (by kernel_rfl) (by kernel_rfl) (by kernel_rfl) (fun _ _ _ h => h) (wanted_plain rfl _) (fun w' _ => rn_cvUW rfl (he30.op rfl) (i64_wraps _ (by omega) (by omega)) w') hH21 ?_
      intro a31 he31
      clear he30 a30
      refine hV (fuel := 4) (i := 11) (Pn.v (penW x.a)) he31 rfl rfl rfl (by kernel_rfl) (by kernel_rfl) (by kernel_rfl) (fun _ _ _ h => h) (wanted_plain rfl _) (fun w' hw' => rn_loadP rfl (he31.op rfl) (hw'.at (i := 0) rfl)) hH21 ?_
      intro a32 he32
      clear he31 a31
      refine hCA (fuel := 2) (i := 6) (j := 13) (x := 22) (y := 6) (fun p => .pointer (some ⟨p, 0, none⟩)) he32 hH21 rfl rfl (by kernel_rfl) (by kernel_rfl) rfl rfl rfl rfl rfl rfl Tryd.func48 (by kernel_rfl) rfl rfl (fun _ => rfl) rfl (fun w0_ hn_ => marksIn_any x.c c0 c1 w0_) (fun a w => rn_alloc rfl w) (fun w1_ h1_ => h1_) ?_ ?_
      · skip
        intro w33 a33 hH33 he33
        clear he32 a32 hH21
        refine hV (fuel := 2) (i := 12) (Ce.v (⟨(x.b % 2097152), (x.c % 2097152), (x.c / 2097152 % 2097152), (x.c / 2097152 / 2097152 % 2097152), (x.b / 2097152), (penW x.a)⟩ : Ce)) he33 rfl rfl rfl (by kernel_rfl) (by kernel_rfl) (by kernel_rfl) (fun _ _ _ h => h) (wanted_plain rfl _) (fun w' _ => rn_bC0123 rfl (he33.op rfl) (he33.op rfl) (he33.op rfl) (he33.op rfl) w') hH33 ?_
        intro a34 he34
        clear he33 a33
        replace he34 : Env 40 [(28, Ce.v (cellI x)), (22, Value.agg #[Value.int .i32 (x.c % 2097152), Value.int .i32 (x.c / 2097152 % 2097152), Value.int .i32 (x.c / 2097152 / 2097152 % 2097152)]), (27, Pn.v (penW x.a)), (26, Value.int .i64 (x.b / 2097152)), (25, Value.int .u64 (x.b / 2097152)), (24, Value.int .u64 x.b), (23, Value.pointer (some ⟨p1, 1, none⟩)), (21, Value.int .u64 x.c), (20, Value.pointer (some ⟨p1, 2, none⟩)), (19, Value.int .i32 (x.b % 2097152)), (18, Value.int .u64 (x.b % 2097152)), (17, Value.int .u64 x.b), (16, Value.pointer (some ⟨p1, 1, none⟩)), (4, Value.pointer (some ⟨p13, 0, none⟩)), (3, Value.int .i64 0), (2, Value.pointer (some ⟨p3, 0, none⟩)), (1, Value.pointer (some ⟨p1, 0, none⟩)), (0, Wd.v x)] a34 := he34
        refine hNew (fuel := 1) (i := 13) (fun p => .pointer (some ⟨p, 0, none⟩)) he34 hH33 (by kernel_rfl) rfl rfl rfl (wanted_plain rfl _) (rn_alloc rfl w33) ?_
        intro p35 w35 a36 hn hH35 he36
        refine ⟨(hH35.drop1 0 rfl), ?_⟩
        clear he34 a34 hH33 hn
        refine hSetV (fuel := 0) (n := 14) 0 (Ce.cs (cellI x)) (cs := (Ce.cs (cellI x))) he36 hH35 (by kernel_rfl) rfl rfl (wanted_plain rfl _) rfl rfl rfl rfl rfl (by kernel_rfl) (by kernel_rfl) (by kernel_rfl) rfl ?_
        intro w37 a38 hH37 hf he38
        replace hH37 : Hp w [⟨p35, 30, (Ce.cs (cellI x))⟩, ⟨p13, 28, (Pn.cs (penW x.a))⟩, ⟨p3, 30, (Ce.cs zeroCe)⟩, ⟨p1, 34, (Wd.cs x)⟩] w37 := hH37
        refine ⟨(hH37.drop1 0 rfl), ?_⟩
        clear hf
        clear he36 a36 hH35
        refine wpAnyH_done (by kernel_rfl) ?_ _
        refine then_ok ?_
        exact ⟨p35, he38.mem ⟨rfl, rfl, rfl, rfl, rfl, trivial⟩, hH37⟩
      · skip
        intro p33 w33 a33 hH33 he33
        clear he32 a32 hH21
        refine hV (fuel := 1) (i := 12) (Ce.v (⟨(x.b % 2097152), (x.c % 2097152), (x.c / 2097152 % 2097152), (x.c / 2097152 / 2097152 % 2097152), (x.b / 2097152), (penW x.a)⟩ : Ce)) he33 rfl rfl rfl (by kernel_rfl) (by kernel_rfl) (by kernel_rfl) (fun _ _ _ h => h) (wanted_plain rfl _) (fun w' _ => rn_bC0123 rfl (he33.op rfl) (he33.op rfl) (he33.op rfl) (he33.op rfl) w') (hH33.drop1 0 rfl) ?_
        intro a39 he39
        clear he33 a33
        replace he39 : Env 40 [(28, Ce.v (cellI x)), (22, Value.agg #[Value.int .i32 (x.c % 2097152), Value.int .i32 (x.c / 2097152 % 2097152), Value.int .i32 (x.c / 2097152 / 2097152 % 2097152)]), (6, Value.pointer (some ⟨p33, 0, none⟩)), (27, Pn.v (penW x.a)), (26, Value.int .i64 (x.b / 2097152)), (25, Value.int .u64 (x.b / 2097152)), (24, Value.int .u64 x.b), (23, Value.pointer (some ⟨p1, 1, none⟩)), (21, Value.int .u64 x.c), (20, Value.pointer (some ⟨p1, 2, none⟩)), (19, Value.int .i32 (x.b % 2097152)), (18, Value.int .u64 (x.b % 2097152)), (17, Value.int .u64 x.b), (16, Value.pointer (some ⟨p1, 1, none⟩)), (4, Value.pointer (some ⟨p13, 0, none⟩)), (3, Value.int .i64 0), (2, Value.pointer (some ⟨p3, 0, none⟩)), (1, Value.pointer (some ⟨p1, 0, none⟩)), (0, Wd.v x)] a39 := he39
        refine hSetV (fuel := 0) (n := 14) 0 (Ce.cs (cellI x)) (cs := (Ce.cs (cellI x))) he39 hH33 (by kernel_rfl) rfl rfl (wanted_plain rfl _) rfl rfl rfl rfl rfl (by kernel_rfl) (by kernel_rfl) (by kernel_rfl) rfl ?_
        intro w40 a41 hH40 hf he41
        replace hH40 : Hp w [⟨p33, 30, (Ce.cs (cellI x))⟩, ⟨p13, 28, (Pn.cs (penW x.a))⟩, ⟨p3, 30, (Ce.cs zeroCe)⟩, ⟨p1, 34, (Wd.cs x)⟩] w40 := hH40
        refine ⟨(hH40.drop1 0 rfl), ?_⟩
        clear hf
        clear he39 a39 hH33
        refine wpAnyH_done (by kernel_rfl) ?_ _
        refine then_ok ?_
        exact ⟨p33, he41.mem ⟨rfl, rfl, rfl, rfl, rfl, trivial⟩, hH40⟩
    · skip
      rintro ac wc ⟨pc, hec, hHc⟩
      have he42 : Env 40 [(6, Value.pointer (some ⟨pc, 0, none⟩)), (3, Value.int .i64 0), (2, Value.pointer (some ⟨p3, 0, none⟩)), (1, Value.pointer (some ⟨p1, 0, none⟩)), (0, Wd.v x)] ac := hec.mem ⟨rfl, rfl, rfl, rfl, rfl, trivial⟩
      clear hec
      as_aux_lemma =>
        refine wp_seq ?_
        refine wp_seq ?_
        refine wp_region_held_drew (S := Hp w [⟨pc, 30, (Ce.cs (cellI x))⟩, ⟨p13, 28, (Pn.cs (penW x.a))⟩, ⟨p3, 30, (Ce.cs zeroCe)⟩, ⟨p1, 34, (Wd.cs x)⟩]) (by kernel_rfl) (hHc.drew) (fun _ => ?_)
        have hn : New wc (World.drew wc) := (Fr.refl _ _).drew
        clear hn
        have hH43 := hHc.drew
        clear hHc
        generalize World.drew wc = w43 at *
        refine hV (fuel := 8) (i := 0) (Ce.v (cellI x)) he42 rfl rfl rfl (by kernel_rfl) (by kernel_rfl) (by kernel_rfl) (fun _ _ _ h => h) (wanted_plain rfl _) (fun w' hw' => rn_load rfl (he42.op rfl) (hw'.at (i := 0) rfl)) hH43 ?_
        intro a44 he44
        clear he42 ac
        refine hC (fuel := 7) (i := 1) he44 (by kernel_rfl) rfl rfl rfl Tryd.func39 (by kernel_rfl) rfl rfl (wanted_plain rfl _) rfl (CValidK (cellI x) false hv w43 (hT.new hH43.new)) ?_
        rintro _ w45 ⟨rfl, hn⟩
        have hH45 := hH43.call hn
        refine ⟨_, rfl, hH45, ?_⟩
        intro a46 he46
        clear he44 a44 hH43 hn
        refine hV (fuel := 6) (i := 2) (Value.bool true) he46 rfl rfl rfl (by kernel_rfl) (by kernel_rfl) (by kernel_rfl) (fun _ _ _ h => h) (wanted_plain rfl _) (fun w' _ => rn_not (b := false) rfl (he46.op rfl) w') hH45 ?_
        intro a47 he47
        clear he46 a46
        refine hV (fuel := 5) (i := 3) (Value.bool true) he47 rfl rfl rfl (by kernel_rfl) (by kernel_rfl) (by kernel_rfl) (fun _ _ _ h => h) (wanted_plain rfl _) (fun w' _ => rn_mv rfl (he47.op rfl) w') hH45 ?_
        intro a48 he48
        clear he47 a47
        refine hSkip (fuel := 4) (i := 4) he48 rfl rfl rfl (by kernel_rfl) (by kernel_rfl) (by kernel_rfl) (fun _ _ _ h => h) (he48.wantNot rfl rfl rfl rfl rfl rfl) hH45 ?_
        intro a49 he49
        clear he48 a48
        refine hSkip (fuel := 3) (i := 6) he49 rfl rfl rfl (by kernel_rfl) (by kernel_rfl) (by kernel_rfl) (fun _ _ _ h => h) (he49.wantNot rfl rfl rfl rfl rfl rfl) hH45 ?_
        intro a50 he50
        clear he49 a49
        refine hSkip (fuel := 2) (i := 5) he50 rfl rfl rfl (by kernel_rfl) (by kernel_rfl) (by kernel_rfl) (fun _ _ _ h => h) (he50.wantNot rfl rfl rfl rfl rfl rfl) hH45 ?_
        intro a51 he51
        clear he50 a50
        refine hSkip (fuel := 1) (i := 7) he51 rfl rfl rfl (by kernel_rfl) (by kernel_rfl) (by kernel_rfl) (fun _ _ _ h => h) (he51.wantNot rfl rfl rfl rfl rfl rfl) hH45 ?_
        intro a52 he52
        clear he51 a51
        refine hV (fuel := 0) (i := 8) (Value.bool true) he52 rfl rfl rfl (by kernel_rfl) (by kernel_rfl) (by kernel_rfl) (fun _ _ _ h => h) (wanted_plain rfl _) (fun w' _ => rn_pk rfl (he52.op rfl) (he52.op rfl) w') hH45 ?_
        intro a53 he53
        clear he52 a52
        refine wpAnyH_done (by kernel_rfl) ?_ _
        refine then_ok ?_
        refine wp_cond_true (he53.op rfl) ?_
        refine wp_seq ?_
        refine wp_region_lit ?_
        refine lV (Ce.v zeroCe) he53 rfl rfl (wanted_plain rfl _) (rn_bC0 rfl w45) ?_
        intro a54 he54
        clear he53 a53
        refine lSetV 2 (Ce.cs zeroCe) (cs := (Ce.cs zeroCe)) he54 hH45 rfl (wanted_plain rfl _) rfl rfl rfl rfl rfl (by kernel_rfl) (by kernel_rfl) (by kernel_rfl) rfl ?_
        intro w55 a56 hH55 he56
        replace hH55 : Hp w [⟨pc, 30, (Ce.cs (cellI x))⟩, ⟨p13, 28, (Pn.cs (penW x.a))⟩, ⟨p3, 30, (Ce.cs zeroCe)⟩, ⟨p1, 34, (Wd.cs x)⟩] w55 := hH55
        clear he54 a54 hH45
        refine lV (Value.int .i64 12) he56 rfl rfl (wanted_plain rfl _) (rn_asg rfl (he56.op rfl) w55) ?_
        intro a57 he57
        clear he56 a56
        refine wpList_nil ?_
        refine then_ok ?_
        refine wp_ret ?_
        try simp only [Exit.then, Exit.inBlock]
        exact ret_rowt rfl he57 rfl rfl (hH55.at (i := 2) rfl) undC rfl infoC16 ⟨rfl, hH55.new⟩

set_option linter.unusedSimpArgs false in
set_option maxRecDepth 100000 in
set_option maxHeartbeats 1600000 in
theorem PCell_diff (x : Wd) (hx : x.Ok) (hps : wordI (penW x.a) = x.a) (hv : cellB (cellI x) = true) (hd : wordsI (cellI x) ≠ x) (w : World) (hT : Tab w) :
    Calls Tryd.prog 33 #[x.v] w fun e w' => e = .returned (.tuple #[zeroCe.v, .int .i64 12]) ∧ New w w' := by
  obtain ⟨a0, a1, b0, b1, c0, c1⟩ := hx
  refine calls_args (vl := [Wd.v x]) 40 Tryd.func33 rfl Tryd.ntmps33 (by kernel_rfl) (fun a he => ?_)
  have he0 : Env 40 [(0, Wd.v x)] a := he
  clear he
  have hH := Hp.start w
  refine wp_seq ?_
  refine wp_region_lit ?_
  refine lNew (fun p => .pointer (some ⟨p, 0, none⟩)) he0 hH rfl rfl (wanted_plain rfl _) (rn_boxW rfl (he0.op rfl) w) ?_
  intro p1 w1 a2 hn hH1 he2
  clear he0 a hH hn
  refine lNew (fun p => .pointer (some ⟨p, 0, none⟩)) he2 hH1 rfl rfl (wanted_plain rfl _) (rn_alloc rfl w1) ?_
  intro p3 w3 a4 hn hH3 he4
  clear he2 a2 hH1 hn
  refine lV (Value.int .i64 0) he4 rfl rfl (wanted_plain rfl _) (rn_asg rfl (he4.op rfl) w3) ?_
  intro a5 he5
  clear he4 a4
  refine wpList_nil ?_
  refine then_ok ?_
  refine wp_seq ?_
  refine wp_region_lit ?_
  refine lV (Value.pointer (some ⟨p1, 0, none⟩)) he5 rfl rfl (wanted_plain rfl _) (rn_iaW0 rfl (he5.op rfl) (fun _ => rfl) rfl w3) ?_
  intro a6 he6
  clear he5 a5
  refine lV (Value.int .u64 x.a) he6 rfl rfl (wanted_plain rfl _) (rn_ld1 rfl (he6.op rfl) Tryd.underlying33 (hH3.at (i := 1) rfl) rfl) ?_
  intro a7 he7
  clear he6 a6
  refine lC he7 rfl rfl Tryd.func47 (by kernel_rfl) rfl rfl (wanted_plain rfl _) rfl (Unpack_yes x.a a0 a1 hps w3) ?_
  intro w8 a9 hn he9
  have hH8 := hH3.call hn
  clear he7 a7 hH3 hn
  refine lV (Value.tuple #[Pn.v (penW x.a), Value.int .i64 0]) he9 rfl rfl (wanted_plain rfl _) (rn_mv rfl (he9.op rfl) w8) ?_
  intro a10 he10
  clear he9 a9
  refine lV (Pn.v (penW x.a)) he10 rfl rfl (wanted_plain rfl _) (rn_ext rfl (he10.op rfl) rfl w8) ?_
  intro a11 he11
  clear he10 a10
  refine lV (Value.int .i64 0) he11 rfl rfl (wanted_plain rfl _) (rn_ext rfl (he11.op rfl) rfl w8) ?_
  intro a12 he12
  clear he11 a11
  refine lNew (fun p => .pointer (some ⟨p, 0, none⟩)) he12 hH8 rfl rfl (wanted_plain rfl _) (rn_allocP rfl w8) ?_
  intro p13 w13 a14 hn hH13 he14
  clear he12 a12 hH8 hn
  refine lSetV 0 (Pn.cs (penW x.a)) (cs := (Pn.cs (penW x.a))) he14 hH13 rfl (wanted_plain rfl _) rfl rfl rfl rfl rfl (by kernel_rfl) (by kernel_rfl) (by kernel_rfl) rfl ?_
  intro w15 a16 hH15 he16
  replace hH15 : Hp w [⟨p13, 28, (Pn.cs (penW x.a))⟩, ⟨p3, 30, (Ce.cs zeroCe)⟩, ⟨p1, 34, (Wd.cs x)⟩] w15 := hH15
  clear he14 a14 hH13
  refine lV (Value.int .i64 0) he16 rfl rfl (wanted_plain rfl _) (rn_asg rfl (he16.op rfl) w15) ?_
  intro a17 he17
  clear he16 a16
  refine wpList_nil ?_
  refine then_ok ?_
  refine wp_seq ?_
  refine wp_seq ?_
  refine wp_region_lit ?_
  refine lV (Value.int .i64 0) he17 rfl rfl (wanted_plain rfl _) (rn_mv rfl (he17.op rfl) w15) ?_
  intro a18 he18
  clear he17 a17
  refine lV (Value.bool false) he18 rfl rfl (wanted_plain rfl _) (rn_neE rfl (he18.op rfl) (he18.op rfl) (by decide) w15) ?_
  intro a19 he19
  clear he18 a18
  refine wpList_nil ?_
  refine then_ok ?_
  refine wp_cond_false (he19.op rfl) ?_
  refine wp_skip ?_
  refine then_ok ?_
  have he20 : Env 40 [(4, Value.pointer (some ⟨p13, 0, none⟩)), (3, Value.int .i64 0), (2, Value.pointer (some ⟨p3, 0, none⟩)), (1, Value.pointer (some ⟨p1, 0, none⟩)), (0, Wd.v x)] a19 := he19.mem ⟨rfl, rfl, rfl, rfl, rfl, trivial⟩
  clear he19
  as_aux_lemma =>
    refine wp_seq ?_
    refine reg_cut (fun a w' => ∃ pc, Env 40 [(6, Value.pointer (some ⟨pc, 0, none⟩)), (3, Value.int .i64 0), (2, Value.pointer (some ⟨p3, 0, none⟩)), (1, Value.pointer (some ⟨p1, 0, none⟩)), (0, Wd.v x)] a ∧ Hp w [⟨pc, 30, (Ce.cs (cellI x))⟩, ⟨p13, 28, (Pn.cs (penW x.a))⟩, ⟨p3, 30, (Ce.cs zeroCe)⟩, ⟨p1, 34, (Wd.cs x)⟩] w') ?_ ?_
    · skip
      refine wp_region_held_drew (S := Hp w [⟨p13, 28, (Pn.cs (penW x.a))⟩, ⟨p3, 30, (Ce.cs zeroCe)⟩, ⟨p1, 34, (Wd.cs x)⟩]) (by kernel_rfl) (hH15.drew) (fun _ => ?_)
      have hn : New w15 (World.drew w15) := (Fr.refl _ _).drew
      clear hn
      have hH21 := hH15.drew
      clear hH15
      generalize World.drew w15 = w21 at *
      refine hV (fuel := 14) (i := 0) (Value.pointer (some ⟨p1, 1, none⟩)) he20 rfl rfl rfl (by kernel_rfl) (by kernel_rfl) (by kernel_rfl) (fun _ _ _ h => h) (wanted_plain rfl _) (fun w' _ => rn_iaW1 rfl (he20.op rfl) (fun _ => rfl) rfl w') hH21 ?_
      intro a22 he22
      clear he20 a19
      refine hV (fuel := 13) (i := 1) (Value.int .u64 x.b) he22 rfl rfl rfl (by kernel_rfl) (by kernel_rfl) (by kernel_rfl) (fun _ _ _ h => h) (wanted_plain rfl _) (fun w' hw' => rn_ld1 rfl (he22.op rfl) Tryd.underlying33 (hw'.at (i := 2) rfl) rfl) hH21 ?_
      intro a23 he23
      clear he22 a22
      refine hV (fuel := 12) (i := 2) (Value.int .u64 (x.b % 2097152)) he23 rfl rfl rfl (by kernel_rfl) (by kernel_rfl) (by kernel_rfl) (fun _ _ _ h => h) (wanted_plain rfl _) (fun w' _ => rn_andU rfl (he23.op rfl) (he23.op rfl) (mask21 _ b0 b1) w') hH21 ?_
      intro a24 he24
      clear he23 a23
      refine hV (fuel := 11) (i := 3) (Value.int .i32 (x.b % 2097152)) he24 rfl rfl rfl (by kernel_rfl) (by kernel_rfl) (by kernel_rfl) (fun _ _ _ h => h) (wanted_plain rfl _) (fun w' _ => rn_cvUI rfl (he24.op rfl) (i32_wraps _ (by omega) (by omega)) w') hH21 ?_
      intro a25 he25
      clear he24 a24
      refine hV (fuel := 10) (i := 4) (Value.pointer (some ⟨p1, 2, none⟩)) he25 rfl rfl rfl (by kernel_rfl) (by kernel_rfl) (by kernel_rfl) (fun _ _ _ h => h) (wanted_plain rfl _) (fun w' _ => rn_iaW2 rfl (he25.op rfl) (fun _ => rfl) rfl w') hH21 ?_
      intro a26 he26
      clear he25 a25
      refine hV (fuel := 9) (i := 5) (Value.int .u64 x.c) he26 rfl rfl rfl (by kernel_rfl) (by kernel_rfl) (by kernel_rfl) (fun _ _ _ h => h) (wanted_plain rfl _) (fun w' hw' => rn_ld1 rfl (he26.op rfl) Tryd.underlying33 (hw'.at (i := 2) rfl) rfl) hH21 ?_
      intro a27 he27
      clear he26 a26
      refine hV (fuel := 8) (i := 7) (Value.pointer (some ⟨p1, 1, none⟩)) he27 rfl rfl rfl (by kernel_rfl) (by kernel_rfl) (by kernel_rfl) (fun _ _ _ h => h) (wanted_plain rfl _) (fun w' _ => rn_iaW1 rfl (he27.op rfl) (fun _ => rfl) rfl w') hH21 ?_
      intro a28 he28
      clear he27 a27
      refine hV (fuel := 7) (i := 8) (Value.int .u64 x.b) he28 rfl rfl rfl (by kernel_rfl) (by kernel_rfl) (by kernel_rfl) (fun _ _ _ h => h) (wanted_plain rfl _) (fun w' hw' => rn_ld1 rfl (he28.op rfl) Tryd.underlying33 (hw'.at (i := 2) rfl) rfl) hH21 ?_
      intro a29 he29
      clear he28 a28
      refine hV (fuel := 6) (i := 9) (Value.int .u64 (x.b / 2097152)) he29 rfl rfl rfl (by kernel_rfl) (by kernel_rfl) (by kernel_rfl) (fun _ _ _ h => h) (wanted_plain rfl _) (fun w' _ => rn_shrU 21 rfl (he29.op rfl) (he29.op rfl) (by decide) (fd21 _ b0) w') hH21 ?_
      intro a30 he30
      clear he29 a29
      refine hV (fuel := 5) (i := 10) (Value.int .i64 (x.b / 2097152)) he30 rfl rfl rfl (by kernel_rfl) (by kernel_rfl) (by kernel_rfl) (fun _ _ _ h => h) (wanted_plain rfl _) (fun w' _ => rn_cvUW rfl (he30.op rfl) (i64_wraps _ (by omega) (by omega)) w') hH21 ?_
      intro a31 he31
      clear he30 a30
      refine hV (fuel := 4) (i := 11) (Pn.v (penW x.a)) he31 rfl rfl rfl (by kernel_rfl) (by kernel_rfl) (by kernel_rfl) (fun _ _ _ h => h) (wanted_plain rfl _) (fun w' hw' => rn_loadP rfl (he31.op rfl) (hw'.at (i := 0) rfl)) hH21 ?_
      intro a32 he32
      clear he31 a31
      refine hCA (fuel := 2) (i := 6) (j := 13) (x := 22) (y := 6) (fun p => .pointer (some ⟨p, 0, none⟩)) he32 hH21 rfl rfl (by kernel_rfl) (by kernel_rfl) rfl rfl rfl rfl rfl rfl Tryd.func48 (by kernel_rfl) rfl rfl (fun _ => rfl) rfl (fun w0_ hn_ => marksIn_any x.c c0 c1 w0_) (fun a w => rn_alloc rfl w) (fun w1_ h1_ => h1_) ?_ ?_
      · skip
        intro w33 a33 hH33 he33
        clear he32 a32 hH21
        refine hV (fuel := 2) (i := 12) (Ce.v (⟨(x.b % 2097152), (x.c % 2097152), (x.c / 2097152 % 2097152), (x.c / 2097152 / 2097152 % 2097152), (x.b / 2097152), (penW x.a)⟩ : Ce)) he33 rfl rfl rfl (by kernel_rfl) (by kernel_rfl) (by kernel_rfl) (fun _ _ _ h => h) (wanted_plain rfl _) (fun w' _ => rn_bC0123 rfl (he33.op rfl) (he33.op rfl) (he33.op rfl) (he33.op rfl) w') hH33 ?_
        intro a34 he34
        clear he33 a33
        replace he34 : Env 40 [(28, Ce.v (cellI x)), (22, Value.agg #[Value.int .i32 (x.c % 2097152), Value.int .i32 (x.c / 2097152 % 2097152), Value.int .i32 (x.c / 2097152 / 2097152 % 2097152)]), (27, Pn.v (penW x.a)), (26, Value.int .i64 (x.b / 2097152)), (25, Value.int .u64 (x.b / 2097152)), (24, Value.int .u64 x.b), (23, Value.pointer (some ⟨p1, 1, none⟩)), (21, Value.int .u64 x.c), (20, Value.pointer (some ⟨p1, 2, none⟩)), (19, Value.int .i32 (x.b % 2097152)), (18, Value.int .u64 (x.b % 2097152)), (17, Value.int .u64 x.b), (16, Value.pointer (some ⟨p1, 1, none⟩)), (4, Value.pointer (some ⟨p13, 0, none⟩)), (3, Value.int .i64 0), (2, Value.pointer (some ⟨p3, 0, none⟩)), (1, Value.pointer (some ⟨p1, 0, none⟩)), (0, Wd.v x)] a34 := he34
        refine hNew (fuel := 1) (i := 13) (fun p => .pointer (some ⟨p, 0, none⟩)) he34 hH33 (by kernel_rfl) rfl rfl rfl (wanted_plain rfl _) (rn_alloc rfl w33) ?_
        intro p35 w35 a36 hn hH35 he36
        refine ⟨(hH35.drop1 0 rfl), ?_⟩
        clear he34 a34 hH33 hn
        refine hSetV (fuel := 0) (n := 14) 0 (Ce.cs (cellI x)) (cs := (Ce.cs (cellI x))) he36 hH35 (by kernel_rfl) rfl rfl (wanted_plain rfl _) rfl rfl rfl rfl rfl (by kernel_rfl) (by kernel_rfl) (by kernel_rfl) rfl ?_
        intro w37 a38 hH37 hf he38
        replace hH37 : Hp w [⟨p35, 30, (Ce.cs (cellI x))⟩, ⟨p13, 28, (Pn.cs (penW x.a))⟩, ⟨p3, 30, (Ce.cs zeroCe)⟩, ⟨p1, 34, (Wd.cs x)⟩] w37 := hH37
        refine ⟨(hH37.drop1 0 rfl), ?_⟩
        clear hf
        clear he36 a36 hH35
        refine wpAnyH_done (by kernel_rfl) ?_ _
        refine then_ok ?_
        exact ⟨p35, he38.mem ⟨rfl, rfl, rfl, rfl, rfl, trivial⟩, hH37⟩
      · skip
        intro p33 w33 a33 hH33 he33
        clear he32 a32 hH21
        refine hV (fuel := 1) (i := 12) (Ce.v (⟨(x.b % 2097152), (x.c % 2097152), (x.c / 2097152 % 2097152), (x.c / 2097152 / 2097152 % 2097152), (x.b / 2097152), (penW x.a)⟩ : Ce)) he33 rfl rfl rfl (by kernel_rfl) (by kernel_rfl) (by kernel_rfl) (fun _ _ _ h => h) (wanted_plain rfl _) (fun w' _ => rn_bC0123 rfl (he33.op rfl) (he33.op rfl) (he33.op rfl) (he33.op rfl) w') (hH33.drop1 0 rfl) ?_
        intro a39 he39
        clear he33 a33
        replace he39 : Env 40 [(28, Ce.v (cellI x)), (22, Value.agg #[Value.int .i32 (x.c % 2097152), Value.int .i32 (x.c / 2097152 % 2097152), Value.int .i32 (x.c / 2097152 / 2097152 % 2097152)]), (6, Value.pointer (some ⟨p33, 0, none⟩)), (27, Pn.v (penW x.a)), (26, Value.int .i64 (x.b / 2097152)), (25, Value.int .u64 (x.b / 2097152)), (24, Value.int .u64 x.b), (23, Value.pointer (some ⟨p1, 1, none⟩)), (21, Value.int .u64 x.c), (20, Value.pointer (some ⟨p1, 2, none⟩)), (19, Value.int .i32 (x.b % 2097152)), (18, Value.int .u64 (x.b % 2097152)), (17, Value.int .u64 x.b), (16, Value.pointer (some ⟨p1, 1, none⟩)), (4, Value.pointer (some ⟨p13, 0, none⟩)), (3, Value.int .i64 0), (2, Value.pointer (some ⟨p3, 0, none⟩)), (1, Value.pointer (some ⟨p1, 0, none⟩)), (0, Wd.v x)] a39 := he39
        refine hSetV (fuel := 0) (n := 14) 0 (Ce.cs (cellI x)) (cs := (Ce.cs (cellI x))) he39 hH33 (by kernel_rfl) rfl rfl (wanted_plain rfl _) rfl rfl rfl rfl rfl (by kernel_rfl) (by kernel_rfl) (by kernel_rfl) rfl ?_
        intro w40 a41 hH40 hf he41
        replace hH40 : Hp w [⟨p33, 30, (Ce.cs (cellI x))⟩, ⟨p13, 28, (Pn.cs (penW x.a))⟩, ⟨p3, 30, (Ce.cs zeroCe)⟩, ⟨p1, 34, (Wd.cs x)⟩] w40 := hH40
        refine ⟨(hH40.drop1 0 rfl), ?_⟩
        clear hf
        clear he39 a39 hH33
        refine wpAnyH_done (by kernel_rfl) ?_ _
        refine then_ok ?_
        exact ⟨p33, he41.mem ⟨rfl, rfl, rfl, rfl, rfl, trivial⟩, hH40⟩
    · skip
      rintro ac wc ⟨pc, hec, hHc⟩
      have he42 : Env 40 [(6, Value.pointer (some ⟨pc, 0, none⟩)), (3, Value.int .i64 0), (2, Value.pointer (some ⟨p3, 0, none⟩)), (1, Value.pointer (some ⟨p1, 0, none⟩)), (0, Wd.v x)] ac := hec.mem ⟨rfl, rfl, rfl, rfl, rfl, trivial⟩
      clear hec
      as_aux_lemma =>
        refine wp_seq ?_
        refine wp_seq ?_
        refine wp_region_held_drew (S := Hp w [⟨pc, 30, (Ce.cs (cellI x))⟩, ⟨p13, 28, (Pn.cs (penW x.a))⟩, ⟨p3, 30, (Ce.cs zeroCe)⟩, ⟨p1, 34, (Wd.cs x)⟩]) (by kernel_rfl) (hHc.drew) (fun _ => ?_)
        have hn : New wc (World.drew wc) := (Fr.refl _ _).drew
        clear hn
        have hH43 := hHc.drew
        clear hHc
        generalize World.drew wc = w43 at *
        refine hV (fuel := 8) (i := 0) (Ce.v (cellI x)) he42 rfl rfl rfl (by kernel_rfl) (by kernel_rfl) (by kernel_rfl) (fun _ _ _ h => h) (wanted_plain rfl _) (fun w' hw' => rn_load rfl (he42.op rfl) (hw'.at (i := 0) rfl)) hH43 ?_
        intro a44 he44
        clear he42 ac
        refine hC (fuel := 7) (i := 1) he44 (by kernel_rfl) rfl rfl rfl Tryd.func39 (by kernel_rfl) rfl rfl (wanted_plain rfl _) rfl (CValidK (cellI x) true hv w43 (hT.new hH43.new)) ?_
        rintro _ w45 ⟨rfl, hn⟩
        have hH45 := hH43.call hn
        refine ⟨_, rfl, hH45, ?_⟩
        intro a46 he46
        clear he44 a44 hH43 hn
        refine hV (fuel := 6) (i := 2) (Value.bool false) he46 rfl rfl rfl (by kernel_rfl) (by kernel_rfl) (by kernel_rfl) (fun _ _ _ h => h) (wanted_plain rfl _) (fun w' _ => rn_not (b := true) rfl (he46.op rfl) w') hH45 ?_
        intro a47 he47
        clear he46 a46
        refine hV (fuel := 5) (i := 3) (Value.bool false) he47 rfl rfl rfl (by kernel_rfl) (by kernel_rfl) (by kernel_rfl) (fun _ _ _ h => h) (wanted_plain rfl _) (fun w' _ => rn_mv rfl (he47.op rfl) w') hH45 ?_
        intro a48 he48
        clear he47 a47
        refine hV (fuel := 4) (i := 4) (Ce.v (cellI x)) he48 rfl rfl rfl (by kernel_rfl) (by kernel_rfl) (by kernel_rfl) (fun _ _ _ h => h) (he48.want rfl rfl rfl rfl rfl) (fun w' hw' => rn_load rfl (he48.op rfl) (hw'.at (i := 0) rfl)) hH45 ?_
        intro a49 he49
        clear he48 a48
        refine hV (fuel := 3) (i := 6) (Wd.v x) he49 rfl rfl rfl (by kernel_rfl) (by kernel_rfl) (by kernel_rfl) (fun _ _ _ h => h) (he49.want rfl rfl rfl rfl rfl) (fun w' hw' => rn_loadW rfl (he49.op rfl) (hw'.at (i := 3) rfl)) hH45 ?_
        intro a50 he50
        clear he49 a49
        refine hC (fuel := 2) (i := 5) he50 (by kernel_rfl) rfl rfl rfl Tryd.func40 (by kernel_rfl) rfl rfl (he50.want rfl rfl rfl rfl rfl) rfl (wordsOf_any (cellI x) hv (cellI_p x) w45) ?_
        rintro _ w51 ⟨rfl, hn⟩
        have hH51 := hH45.call hn
        refine ⟨_, rfl, hH51, ?_⟩
        intro a52 he52
        clear he50 a50 hH45 hn
        refine hV (fuel := 1) (i := 7) (Value.bool true) he52 rfl rfl rfl (by kernel_rfl) (by kernel_rfl) (by kernel_rfl) (fun _ _ _ h => h) (he52.want rfl rfl rfl rfl rfl) (fun w' _ => rn_neW rfl (he52.op rfl) (he52.op rfl) (by simp [hd]) w') hH51 ?_
        intro a53 he53
        clear he52 a52
        refine hV (fuel := 0) (i := 8) (Value.bool true) he53 rfl rfl rfl (by kernel_rfl) (by kernel_rfl) (by kernel_rfl) (fun _ _ _ h => h) (wanted_plain rfl _) (fun w' _ => rn_pk0 rfl (he53.op rfl) (he53.op rfl) w') hH51 ?_
        intro a54 he54
        clear he53 a53
        refine wpAnyH_done (by kernel_rfl) ?_ _
        refine then_ok ?_
        refine wp_cond_true (he54.op rfl) ?_
        refine wp_seq ?_
        refine wp_region_lit ?_
        refine lV (Ce.v zeroCe) he54 rfl rfl (wanted_plain rfl _) (rn_bC0 rfl w51) ?_
        intro a55 he55
        clear he54 a54
        refine lSetV 2 (Ce.cs zeroCe) (cs := (Ce.cs zeroCe)) he55 hH51 rfl (wanted_plain rfl _) rfl rfl rfl rfl rfl (by kernel_rfl) (by kernel_rfl) (by kernel_rfl) rfl ?_
        intro w56 a57 hH56 he57
        replace hH56 : Hp w [⟨pc, 30, (Ce.cs (cellI x))⟩, ⟨p13, 28, (Pn.cs (penW x.a))⟩, ⟨p3, 30, (Ce.cs zeroCe)⟩, ⟨p1, 34, (Wd.cs x)⟩] w56 := hH56
        clear he55 a55 hH51
        refine lV (Value.int .i64 12) he57 rfl rfl (wanted_plain rfl _) (rn_asg rfl (he57.op rfl) w56) ?_
        intro a58 he58
        clear he57 a57
        refine wpList_nil ?_
        refine then_ok ?_
        refine wp_ret ?_
        try simp only [Exit.then, Exit.inBlock]
        exact ret_rowt rfl he58 rfl rfl (hH56.at (i := 2) rfl) undC rfl infoC16 ⟨rfl, hH56.new⟩

theorem PCell_no (x : Wd) (hx : x.Ok) (h : goodB x = false) (w : World) (hT : Tab w) :
    Calls Tryd.prog 33 #[x.v] w fun e w' => e = .returned (.tuple #[zeroCe.v, .int .i64 12]) ∧ New w w' := by
  rw [good_split] at h
  by_cases h1 : wordI (penW x.a) = x.a
  · cases h2 : cellB (cellI x) with
    | false => exact PCell_inv x hx h1 h2 w hT
    | true =>
      refine PCell_diff x hx h1 h2 (fun e => ?_) w hT
      simp [h1, h2, e] at h
  · exact PCell_pen x hx h1 w hT
end Go.Proofs.YtaiijndldngnkaaDoor
