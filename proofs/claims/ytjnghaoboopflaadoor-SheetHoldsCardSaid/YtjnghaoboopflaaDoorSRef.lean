/-
  The specification's pages; equal lists of lines.
-/
import Derived.Test.YtjnghaoboopflaaDoorSSheetB
namespace Go.Proofs.YtjnghaoboopflaaDoor
open Go.RowKit

set_option linter.unusedSimpArgs false in
set_option maxRecDepth 100000 in
set_option maxHeartbeats 1600000 in
theorem all_b (x y : Value) (La Lb : List Ln) (v : Bool) (hv : decide (La = Lb) = v) (ha : ∀ l ∈ La, l.1.length ≤ 1000000) (hb : ∀ l ∈ Lb, l.1.length ≤ 1000000) (hla : La.length ≤ 1000000) (hlb : Lb.length ≤ 1000000) (w : World) (hx : LnsR w x La) (hy : LnsR w y Lb) :
    Calls Tryd.prog 27 #[x, y] w fun e w' => e = .returned (.bool v) ∧ New w w' := by
  subst hv
  obtain ⟨A, ca, ba, xa, rfl, hca, hra, -, hea⟩ := hx
  obtain ⟨B, cb, bb, xb, rfl, hcb, hrb, -, heb⟩ := hy
  refine calls_args (vl := [Value.slice A La.length ca, Value.slice B Lb.length cb]) 27 Tryd.func27 rfl Tryd.ntmps27 (by kernel_rfl) (fun a he => ?_)
  have he0 : Env 27 [(0, Value.slice A La.length ca), (1, Value.slice B Lb.length cb)] a := he
  clear he
  have hH := Hp.start w
  refine wp_seq ?_
  refine wp_region_lit ?_
  refine lV (Value.bool false) he0 rfl rfl (wanted_plain rfl _) (rn_asg rfl (he0.op rfl) w) ?_
  intro a1 he1
  clear he0 a
  refine wpList_nil ?_
  refine then_ok ?_
  by_cases hl : La.length = Lb.length
  · skip
    refine wp_seq ?_
    refine wp_seq ?_
    refine wp_region_lit ?_
    refine lV (Value.slice A La.length ca) he1 rfl rfl (wanted_plain rfl _) (rn_mv rfl (he1.op rfl) w) ?_
    intro a2 he2
    clear he1 a1
    refine lV (Value.int .i64 (La.length : Nat)) he2 rfl rfl (wanted_plain rfl _) (rn_lenL rfl (he2.op rfl) w) ?_
    intro a3 he3
    clear he2 a2
    refine lV (Value.slice B Lb.length cb) he3 rfl rfl (wanted_plain rfl _) (rn_mv rfl (he3.op rfl) w) ?_
    intro a4 he4
    clear he3 a3
    refine lV (Value.int .i64 (Lb.length : Nat)) he4 rfl rfl (wanted_plain rfl _) (rn_lenL rfl (he4.op rfl) w) ?_
    intro a5 he5
    clear he4 a4
    refine lV (Value.bool false) he5 rfl rfl (wanted_plain rfl _) (rn_neI rfl (he5.op rfl) (he5.op rfl) (by simp [hl]) w) ?_
    intro a6 he6
    clear he5 a5
    refine wpList_nil ?_
    refine then_ok ?_
    refine wp_cond_false (he6.op rfl) ?_
    refine wp_skip ?_
    refine then_ok ?_
    refine wp_seq ?_
    refine wp_seq ?_
    refine wp_region_lit ?_
    refine lV (Value.int .i64 0) he6 rfl rfl (wanted_plain rfl _) (rn_asg rfl (he6.op rfl) w) ?_
    intro a7 he7
    clear he6 a6
    refine wpList_nil ?_
    refine then_ok ?_
    refine wp_block ?_
    refine loop_nat (fun q a w' => ∃ (k : Nat), q = La.length - k ∧ k ≤ La.length ∧ La.take k = Lb.take k ∧ Env 27 [(0, Value.slice A La.length ca), (1, Value.slice B Lb.length cb), (5, Value.int .i64 (k : Int))] a ∧ Hp w [] w') La.length ⟨0, by omega, by omega, by simp, he7.mem ⟨rfl, rfl, rfl, trivial⟩, hH⟩ ?_
    clear he7 hH
    rintro q a8 w8 ⟨k, rfl, hk, heq, he8, hH8⟩
    by_cases hkn : k < La.length
    · skip
      refine wp_seq ?_
      refine wp_seq ?_
      refine wp_region_lit ?_
      refine lV (Value.int .i64 (k : Int)) he8 rfl rfl (wanted_plain rfl _) (rn_mv rfl (he8.op rfl) w8) ?_
      intro a9 he9
      clear he8 a8
      refine lV (Value.slice A La.length ca) he9 rfl rfl (wanted_plain rfl _) (rn_mv rfl (he9.op rfl) w8) ?_
      intro a10 he10
      clear he9 a9
      refine lV (Value.int .i64 (La.length : Nat)) he10 rfl rfl (wanted_plain rfl _) (rn_lenL rfl (he10.op rfl) w8) ?_
      intro a11 he11
      clear he10 a10
      refine lV (Value.bool true) he11 rfl rfl (wanted_plain rfl _) (rn_lss rfl (he11.op rfl) (he11.op rfl) (decide_eq_true (by omega)) w8) ?_
      intro a12 he12
      clear he11 a11
      refine wpList_nil ?_
      refine then_ok ?_
      refine wp_cond_true (he12.op rfl) ?_
      refine wp_skip ?_
      refine then_ok ?_
      obtain ⟨la, hLla⟩ : ∃ m, La[k]? = some m := ⟨_, List.getElem?_eq_getElem (by omega)⟩
      have hxla := hra.1
      obtain ⟨xla, hXla⟩ : ∃ m, xa[k]? = some m := ⟨_, List.getElem?_eq_getElem (by omega)⟩
      obtain ⟨hsla, hfla⟩ := hea k _ _ hXla hLla
      replace hfla := hfla.sl
      obtain ⟨Ala, cla, ela⟩ := hfla.shape
      obtain ⟨ala, nla, dla, sla⟩ := xla
      simp only [Value.slice.injEq] at ela hsla
      obtain ⟨rfl, rfl, rfl⟩ := ela
      subst hsla
      obtain ⟨lb, hLlb⟩ : ∃ m, Lb[k]? = some m := ⟨_, List.getElem?_eq_getElem (by omega)⟩
      have hxlb := hrb.1
      obtain ⟨xlb, hXlb⟩ : ∃ m, xb[k]? = some m := ⟨_, List.getElem?_eq_getElem (by omega)⟩
      obtain ⟨hslb, hflb⟩ := heb k _ _ hXlb hLlb
      replace hflb := hflb.sl
      obtain ⟨Alb, clb, elb⟩ := hflb.shape
      obtain ⟨alb, nlb, dlb, slb⟩ := xlb
      simp only [Value.slice.injEq] at elb hslb
      obtain ⟨rfl, rfl, rfl⟩ := elb
      subst hslb
      obtain ⟨oa, eA⟩ := hra.base (by omega)
      subst eA
      obtain ⟨ob, eB⟩ := hrb.base (by omega)
      subst eB
      obtain ⟨q, hq⟩ : ∃ q, ((la.2 == lb.2) && decide (la.1 = lb.1)) = q := ⟨_, rfl⟩
      cases q with
      | false =>
        refine wp_seq ?_
        refine wp_block ?_
        refine wp_seq ?_
        refine wp_region_held_drew (S := Hp w []) (by kernel_rfl) (hH8.drew) (fun _ => ?_)
        have hn : New w8 (World.drew w8) := (Fr.refl _ _).drew
        clear hn
        have hH13 := hH8.drew
        clear hH8
        generalize World.drew w8 = w13 at *
        refine hV (fuel := 9) (i := 0) (Value.slice (some ⟨ba, oa, none⟩) La.length ca) he12 rfl rfl rfl (by kernel_rfl) (by kernel_rfl) (by kernel_rfl) (fun _ _ _ h => h) (wanted_plain rfl _) (fun w' _ => rn_mv rfl (he12.op rfl) w') hH13 ?_
        intro a14 he14
        clear he12 a12
        refine hV (fuel := 8) (i := 1) (Value.int .i64 (k : Int)) he14 rfl rfl rfl (by kernel_rfl) (by kernel_rfl) (by kernel_rfl) (fun _ _ _ h => h) (wanted_plain rfl _) (fun w' _ => rn_mv rfl (he14.op rfl) w') hH13 ?_
        intro a15 he15
        clear he14 a14
        refine hV (fuel := 7) (i := 2) (Value.pointer (some ⟨ba, oa + k * 2, none⟩)) he15 rfl rfl rfl (by kernel_rfl) (by kernel_rfl) (by kernel_rfl) (fun _ _ _ h => h) (wanted_plain rfl _) (fun w' _ => rn_idxL (i := k) rfl (he15.op rfl) (he15.op rfl) (by omega) (by rw [addr_add]) w') hH13 ?_
        intro a16 he16
        clear he15 a15
        refine hV (fuel := 6) (i := 3) (Value.agg #[Value.slice ala la.1.length dla, Value.bool la.2]) he16 rfl rfl rfl (by kernel_rfl) (by kernel_rfl) (by kernel_rfl) (fun _ _ _ h => h) (wanted_plain rfl _) (fun w' hw' => rn_ldLn (i := k) rfl (he16.op rfl) (hra.new hw'.new) rfl hXla) hH13 ?_
        intro a17 he17
        clear he16 a16
        refine hV (fuel := 5) (i := 4) (Value.slice (some ⟨bb, ob, none⟩) Lb.length cb) he17 rfl rfl rfl (by kernel_rfl) (by kernel_rfl) (by kernel_rfl) (fun _ _ _ h => h) (wanted_plain rfl _) (fun w' _ => rn_mv rfl (he17.op rfl) w') hH13 ?_
        intro a18 he18
        clear he17 a17
        refine hV (fuel := 4) (i := 5) (Value.int .i64 (k : Int)) he18 rfl rfl rfl (by kernel_rfl) (by kernel_rfl) (by kernel_rfl) (fun _ _ _ h => h) (wanted_plain rfl _) (fun w' _ => rn_mv rfl (he18.op rfl) w') hH13 ?_
        intro a19 he19
        clear he18 a18
        refine hV (fuel := 3) (i := 6) (Value.pointer (some ⟨bb, ob + k * 2, none⟩)) he19 rfl rfl rfl (by kernel_rfl) (by kernel_rfl) (by kernel_rfl) (fun _ _ _ h => h) (wanted_plain rfl _) (fun w' _ => rn_idxL (i := k) rfl (he19.op rfl) (he19.op rfl) (by omega) (by rw [addr_add]) w') hH13 ?_
        intro a20 he20
        clear he19 a19
        refine hV (fuel := 2) (i := 7) (Value.agg #[Value.slice alb lb.1.length dlb, Value.bool lb.2]) he20 rfl rfl rfl (by kernel_rfl) (by kernel_rfl) (by kernel_rfl) (fun _ _ _ h => h) (wanted_plain rfl _) (fun w' hw' => rn_ldLn (i := k) rfl (he20.op rfl) (hrb.new hw'.new) rfl hXlb) hH13 ?_
        intro a21 he21
        clear he20 a20
        refine hC (fuel := 1) (i := 8) he21 (by kernel_rfl) rfl rfl rfl Tryd.func26 (by kernel_rfl) rfl rfl (wanted_plain rfl _) rfl (same_s _ la.1 la.2 _ lb.1 lb.2 false hq (ha _ (List.mem_of_getElem? hLla)) (hb _ (List.mem_of_getElem? hLlb)) w13 (hfla.new hH13.new) (hflb.new hH13.new)) ?_
        rintro _ w22 ⟨rfl, hn⟩
        have hH22 := hH13.call hn
        refine ⟨_, rfl, hH22, ?_⟩
        intro a23 he23
        clear he21 a21 hH13 hn
        refine hV (fuel := 0) (i := 9) (Value.bool true) he23 rfl rfl rfl (by kernel_rfl) (by kernel_rfl) (by kernel_rfl) (fun _ _ _ h => h) (wanted_plain rfl _) (fun w' _ => rn_not (b := false) rfl (he23.op rfl) w') hH22 ?_
        intro a24 he24
        clear he23 a23
        refine wpAnyH_done (by kernel_rfl) ?_ _
        refine then_ok ?_
        refine wp_cond_true (he24.op rfl) ?_
        refine wp_seq ?_
        refine wp_region_lit ?_
        refine lV (Value.bool false) he24 rfl rfl (wanted_plain rfl _) (rn_asg rfl (he24.op rfl) w22) ?_
        intro a25 he25
        clear he24 a24
        refine wpList_nil ?_
        refine then_ok ?_
        have e1 : decide (La = Lb) = false := decide_eq_false (fun h => by subst h; rw [hLla] at hLlb; simp at hLlb; subst hLlb; simp at hq)
        refine wp_ret ?_
        try simp only [Exit.then, Exit.inBlock]
        exact ret_env rfl he25 rfl ⟨by rw [e1], hH22.new⟩
      | true =>
        refine wp_seq ?_
        refine wp_block ?_
        refine wp_seq ?_
        refine wp_region_held_drew (S := Hp w []) (by kernel_rfl) (hH8.drew) (fun _ => ?_)
        have hn : New w8 (World.drew w8) := (Fr.refl _ _).drew
        clear hn
        have hH26 := hH8.drew
        clear hH8
        generalize World.drew w8 = w26 at *
        refine hV (fuel := 9) (i := 0) (Value.slice (some ⟨ba, oa, none⟩) La.length ca) he12 rfl rfl rfl (by kernel_rfl) (by kernel_rfl) (by kernel_rfl) (fun _ _ _ h => h) (wanted_plain rfl _) (fun w' _ => rn_mv rfl (he12.op rfl) w') hH26 ?_
        intro a27 he27
        clear he12 a12
        refine hV (fuel := 8) (i := 1) (Value.int .i64 (k : Int)) he27 rfl rfl rfl (by kernel_rfl) (by kernel_rfl) (by kernel_rfl) (fun _ _ _ h => h) (wanted_plain rfl _) (fun w' _ => rn_mv rfl (he27.op rfl) w') hH26 ?_
        intro a28 he28
        clear he27 a27
        refine hV (fuel := 7) (i := 2) (Value.pointer (some ⟨ba, oa + k * 2, none⟩)) he28 rfl rfl rfl (by kernel_rfl) (by kernel_rfl) (by kernel_rfl) (fun _ _ _ h => h) (wanted_plain rfl _) (fun w' _ => rn_idxL (i := k) rfl (he28.op rfl) (he28.op rfl) (by omega) (by rw [addr_add]) w') hH26 ?_
        intro a29 he29
        clear he28 a28
        refine hV (fuel := 6) (i := 3) (Value.agg #[Value.slice ala la.1.length dla, Value.bool la.2]) he29 rfl rfl rfl (by kernel_rfl) (by kernel_rfl) (by kernel_rfl) (fun _ _ _ h => h) (wanted_plain rfl _) (fun w' hw' => rn_ldLn (i := k) rfl (he29.op rfl) (hra.new hw'.new) rfl hXla) hH26 ?_
        intro a30 he30
        clear he29 a29
        refine hV (fuel := 5) (i := 4) (Value.slice (some ⟨bb, ob, none⟩) Lb.length cb) he30 rfl rfl rfl (by kernel_rfl) (by kernel_rfl) (by kernel_rfl) (fun _ _ _ h => h) (wanted_plain rfl _) (fun w' _ => rn_mv rfl (he30.op rfl) w') hH26 ?_
        intro a31 he31
        clear he30 a30
        refine hV (fuel := 4) (i := 5) (Value.int .i64 (k : Int)) he31 rfl rfl rfl (by kernel_rfl) (by kernel_rfl) (by kernel_rfl) (fun _ _ _ h => h) (wanted_plain rfl _) (fun w' _ => rn_mv rfl (he31.op rfl) w') hH26 ?_
        intro a32 he32
        clear he31 a31
        refine hV (fuel := 3) (i := 6) (Value.pointer (some ⟨bb, ob + k * 2, none⟩)) he32 rfl rfl rfl (by kernel_rfl) (by kernel_rfl) (by kernel_rfl) (fun _ _ _ h => h) (wanted_plain rfl _) (fun w' _ => rn_idxL (i := k) rfl (he32.op rfl) (he32.op rfl) (by omega) (by rw [addr_add]) w') hH26 ?_
        intro a33 he33
        clear he32 a32
        refine hV (fuel := 2) (i := 7) (Value.agg #[Value.slice alb lb.1.length dlb, Value.bool lb.2]) he33 rfl rfl rfl (by kernel_rfl) (by kernel_rfl) (by kernel_rfl) (fun _ _ _ h => h) (wanted_plain rfl _) (fun w' hw' => rn_ldLn (i := k) rfl (he33.op rfl) (hrb.new hw'.new) rfl hXlb) hH26 ?_
        intro a34 he34
        clear he33 a33
        refine hC (fuel := 1) (i := 8) he34 (by kernel_rfl) rfl rfl rfl Tryd.func26 (by kernel_rfl) rfl rfl (wanted_plain rfl _) rfl (same_s _ la.1 la.2 _ lb.1 lb.2 true hq (ha _ (List.mem_of_getElem? hLla)) (hb _ (List.mem_of_getElem? hLlb)) w26 (hfla.new hH26.new) (hflb.new hH26.new)) ?_
        rintro _ w35 ⟨rfl, hn⟩
        have hH35 := hH26.call hn
        refine ⟨_, rfl, hH35, ?_⟩
        intro a36 he36
        clear he34 a34 hH26 hn
        refine hV (fuel := 0) (i := 9) (Value.bool false) he36 rfl rfl rfl (by kernel_rfl) (by kernel_rfl) (by kernel_rfl) (fun _ _ _ h => h) (wanted_plain rfl _) (fun w' _ => rn_not (b := true) rfl (he36.op rfl) w') hH35 ?_
        intro a37 he37
        clear he36 a36
        refine wpAnyH_done (by kernel_rfl) ?_ _
        refine then_ok ?_
        refine wp_cond_false (he37.op rfl) ?_
        refine wp_skip ?_
        refine block_ok ?_
        refine then_ok ?_
        simp only [Bool.and_eq_true, beq_iff_eq, decide_eq_true_eq] at hq
        have elm : la = lb := Prod.ext hq.2 hq.1
        refine wp_region_lit ?_
        refine lV (Value.int .i64 (k : Int)) he37 rfl rfl (wanted_plain rfl _) (rn_mv rfl (he37.op rfl) w35) ?_
        intro a38 he38
        clear he37 a37
        refine lV (Value.int .i64 ((k + 1 : Nat) : Int)) he38 rfl rfl (wanted_plain rfl _) (rn_add1 rfl (he38.op rfl) (he38.op rfl) (by rw [IntWalk.i64_in _ ⟨by omega, by omega⟩]; omega) w35) ?_
        intro a39 he39
        clear he38 a38
        refine lV (Value.int .i64 ((k + 1 : Nat) : Int)) he39 rfl rfl (wanted_plain rfl _) (rn_asg rfl (he39.op rfl) w35) ?_
        intro a40 he40
        clear he39 a39
        refine wpList_nil ?_
        refine then_ok ?_
        have e2 : La.take (k + 1) = Lb.take (k + 1) := by rw [List.take_add_one, List.take_add_one, heq, hLla, hLlb, elm]
        exact ⟨La.length - (k + 1), by omega, k + 1, rfl, by omega, e2, he40.mem ⟨rfl, rfl, rfl, trivial⟩, hH35⟩
    · skip
      refine wp_seq ?_
      refine wp_seq ?_
      refine wp_region_lit ?_
      refine lV (Value.int .i64 (k : Int)) he8 rfl rfl (wanted_plain rfl _) (rn_mv rfl (he8.op rfl) w8) ?_
      intro a41 he41
      clear he8 a8
      refine lV (Value.slice A La.length ca) he41 rfl rfl (wanted_plain rfl _) (rn_mv rfl (he41.op rfl) w8) ?_
      intro a42 he42
      clear he41 a41
      refine lV (Value.int .i64 (La.length : Nat)) he42 rfl rfl (wanted_plain rfl _) (rn_lenL rfl (he42.op rfl) w8) ?_
      intro a43 he43
      clear he42 a42
      refine lV (Value.bool false) he43 rfl rfl (wanted_plain rfl _) (rn_lss rfl (he43.op rfl) (he43.op rfl) (decide_eq_false (by omega)) w8) ?_
      intro a44 he44
      clear he43 a43
      refine wpList_nil ?_
      refine then_ok ?_
      refine wp_cond_false (he44.op rfl) ?_
      refine wp_exit ?_
      simp only [Exit.then, Exit.inBlock, if_true]
      have e1 : decide (La = Lb) = true := decide_eq_true (by rw [List.take_of_length_le (by omega), List.take_of_length_le (by omega)] at heq; exact heq)
      refine wp_seq ?_
      refine wp_region_lit ?_
      refine lV (Value.bool true) he44 rfl rfl (wanted_plain rfl _) (rn_asg rfl (he44.op rfl) w8) ?_
      intro a45 he45
      clear he44 a44
      refine wpList_nil ?_
      refine then_ok ?_
      refine wp_ret ?_
      try simp only [Exit.then, Exit.inBlock]
      exact ret_env rfl he45 rfl ⟨by rw [e1], hH8.new⟩
  · skip
    refine wp_seq ?_
    refine wp_seq ?_
    refine wp_region_lit ?_
    refine lV (Value.slice A La.length ca) he1 rfl rfl (wanted_plain rfl _) (rn_mv rfl (he1.op rfl) w) ?_
    intro a46 he46
    clear he1 a1
    refine lV (Value.int .i64 (La.length : Nat)) he46 rfl rfl (wanted_plain rfl _) (rn_lenL rfl (he46.op rfl) w) ?_
    intro a47 he47
    clear he46 a46
    refine lV (Value.slice B Lb.length cb) he47 rfl rfl (wanted_plain rfl _) (rn_mv rfl (he47.op rfl) w) ?_
    intro a48 he48
    clear he47 a47
    refine lV (Value.int .i64 (Lb.length : Nat)) he48 rfl rfl (wanted_plain rfl _) (rn_lenL rfl (he48.op rfl) w) ?_
    intro a49 he49
    clear he48 a48
    refine lV (Value.bool true) he49 rfl rfl (wanted_plain rfl _) (rn_neI rfl (he49.op rfl) (he49.op rfl) (by simp; omega) w) ?_
    intro a50 he50
    clear he49 a49
    refine wpList_nil ?_
    refine then_ok ?_
    refine wp_cond_true (he50.op rfl) ?_
    refine wp_seq ?_
    refine wp_region_lit ?_
    refine lV (Value.bool false) he50 rfl rfl (wanted_plain rfl _) (rn_asg rfl (he50.op rfl) w) ?_
    intro a51 he51
    clear he50 a50
    refine wpList_nil ?_
    refine then_ok ?_
    have e1 : decide (La = Lb) = false := decide_eq_false (fun h => hl (by rw [h]))
    refine wp_ret ?_
    try simp only [Exit.then, Exit.inBlock]
    exact ret_env rfl he51 rfl ⟨by rw [e1], hH.new⟩
set_option linter.unusedSimpArgs false in
set_option maxRecDepth 100000 in
set_option maxHeartbeats 1600000 in
theorem rroom_b (A : Option Addr) (n c pl gn : Nat) (h1 : gn + n ≤ pl) (h2 : pl ≤ 1024) (w : World) : Calls Tryd.prog 34 #[Value.agg #[Value.int .i64 (pl : Int), Value.int .i64 (gn : Int), Value.slice A n c]] w fun e w' => e = .returned (.int .i64 ((pl - gn - n : Nat) : Int)) ∧ New w w' := by
  refine calls_args (vl := [Value.agg #[Value.int .i64 (pl : Int), Value.int .i64 (gn : Int), Value.slice A n c]]) 12 Tryd.func34 rfl Tryd.ntmps34 (by kernel_rfl) (fun a he => ?_)
  have he0 : Env 12 [(0, Value.agg #[Value.int .i64 (pl : Int), Value.int .i64 (gn : Int), Value.slice A n c])] a := he
  clear he
  have hH := Hp.start w
  refine wp_seq ?_
  refine wp_region_lit ?_
  refine lNewP (fun p => .pointer (some ⟨p, 0, none⟩)) he0 hH rfl rfl (wanted_plain rfl _) (rn_boxQ rfl (he0.op rfl) w) ?_
  intro p1 w1 a2 hp hn hH1 he2
  clear he0 a hH hn hp
  refine lV (Value.int .i64 0) he2 rfl rfl (wanted_plain rfl _) (rn_asg rfl (he2.op rfl) w1) ?_
  intro a3 he3
  clear he2 a2
  refine wpList_nil ?_
  refine then_ok ?_
  refine wp_seq ?_
  refine wp_region_lit ?_
  refine lV (Value.pointer (some ⟨p1, 0, none⟩)) he3 rfl rfl (wanted_plain rfl _) (rn_faQ0 rfl (he3.op rfl) rfl w1) ?_
  intro a4 he4
  clear he3 a3
  refine lV (Value.int .i64 (pl : Int)) he4 rfl rfl (wanted_plain rfl _) (rn_ld1 rfl (he4.op rfl) Tryd.underlying3 (hH1.at (i := 0) rfl) rfl) ?_
  intro a5 he5
  clear he4 a4
  refine lV (Value.pointer (some ⟨p1, 1, none⟩)) he5 rfl rfl (wanted_plain rfl _) (rn_faQ1 rfl (he5.op rfl) rfl w1) ?_
  intro a6 he6
  clear he5 a5
  refine lV (Value.int .i64 (gn : Int)) he6 rfl rfl (wanted_plain rfl _) (rn_ld1 rfl (he6.op rfl) Tryd.underlying3 (hH1.at (i := 0) rfl) rfl) ?_
  intro a7 he7
  clear he6 a6
  refine lV (Value.int .i64 ((pl : Int) - gn)) he7 rfl rfl (wanted_plain rfl _) (rn_subI rfl (he7.op rfl) (he7.op rfl) (by rw [IntWalk.i64_in _ ⟨by omega, by omega⟩]) w1) ?_
  intro a8 he8
  clear he7 a7
  refine lV (Value.pointer (some ⟨p1, 2, none⟩)) he8 rfl rfl (wanted_plain rfl _) (rn_faQ2 rfl (he8.op rfl) rfl w1) ?_
  intro a9 he9
  clear he8 a8
  refine lV (Value.slice A n c) he9 rfl rfl (wanted_plain rfl _) (rn_ldLs rfl (he9.op rfl) (hH1.at (i := 0) rfl) rfl) ?_
  intro a10 he10
  clear he9 a9
  refine lV (Value.int .i64 (n : Nat)) he10 rfl rfl (wanted_plain rfl _) (rn_lenL rfl (he10.op rfl) w1) ?_
  intro a11 he11
  clear he10 a10
  refine lV (Value.int .i64 ((pl - gn - n : Nat) : Int)) he11 rfl rfl (wanted_plain rfl _) (rn_subI rfl (he11.op rfl) (he11.op rfl) (by rw [IntWalk.i64_in _ ⟨by omega, by omega⟩]; omega) w1) ?_
  intro a12 he12
  clear he11 a11
  refine lV (Value.int .i64 ((pl - gn - n : Nat) : Int)) he12 rfl rfl (wanted_plain rfl _) (rn_asg rfl (he12.op rfl) w1) ?_
  intro a13 he13
  clear he12 a12
  refine wpList_nil ?_
  refine then_ok ?_
  refine wp_ret ?_
  try simp only [Exit.then, Exit.inBlock]
  exact ret_env rfl he13 rfl ⟨rfl, hH1.new⟩
set_option linter.unusedSimpArgs false in
set_option maxRecDepth 100000 in
set_option maxHeartbeats 1600000 in
theorem with_b (A B : Option Addr) (n c m d : Nat) (i j : Int) (w : World) : Calls Tryd.prog 42 #[Value.agg #[Value.int .i64 i, Value.int .i64 j, Value.slice A n c], .slice B m d] w fun e w' => e = .returned (Value.agg #[Value.int .i64 i, Value.int .i64 j, Value.slice B m d]) ∧ New w w' := by
  refine calls_args (vl := [Value.agg #[Value.int .i64 i, Value.int .i64 j, Value.slice A n c], Value.slice B m d]) 11 Tryd.func42 rfl Tryd.ntmps42 (by kernel_rfl) (fun a he => ?_)
  have he0 : Env 11 [(0, Value.agg #[Value.int .i64 i, Value.int .i64 j, Value.slice A n c]), (1, Value.slice B m d)] a := he
  clear he
  have hH := Hp.start w
  refine wp_seq ?_
  refine wp_region_lit ?_
  refine lNewP (fun p => .pointer (some ⟨p, 0, none⟩)) he0 hH rfl rfl (wanted_plain rfl _) (rn_boxQ rfl (he0.op rfl) w) ?_
  intro p1 w1 a2 hp hn hH1 he2
  clear he0 a hH hn hp
  refine lNewP (fun p => .pointer (some ⟨p, 0, none⟩)) he2 hH1 rfl rfl (wanted_plain rfl _) (rn_allocQ rfl w1) ?_
  intro p3 w3 a4 hp hn hH3 he4
  clear he2 a2 hH1 hn hp
  refine wpList_nil ?_
  refine then_ok ?_
  refine wp_seq ?_
  refine wp_region_lit ?_
  refine lV (Value.pointer (some ⟨p1, 0, none⟩)) he4 rfl rfl (wanted_plain rfl _) (rn_faQ0 rfl (he4.op rfl) rfl w3) ?_
  intro a5 he5
  clear he4 a4
  refine lV (Value.int .i64 i) he5 rfl rfl (wanted_plain rfl _) (rn_ld1 rfl (he5.op rfl) Tryd.underlying3 (hH3.at (i := 1) rfl) rfl) ?_
  intro a6 he6
  clear he5 a5
  refine lV (Value.pointer (some ⟨p1, 1, none⟩)) he6 rfl rfl (wanted_plain rfl _) (rn_faQ1 rfl (he6.op rfl) rfl w3) ?_
  intro a7 he7
  clear he6 a6
  refine lV (Value.int .i64 j) he7 rfl rfl (wanted_plain rfl _) (rn_ld1 rfl (he7.op rfl) Tryd.underlying3 (hH3.at (i := 1) rfl) rfl) ?_
  intro a8 he8
  clear he7 a7
  refine lV (Value.slice B m d) he8 rfl rfl (wanted_plain rfl _) (rn_mv rfl (he8.op rfl) w3) ?_
  intro a9 he9
  clear he8 a8
  refine lV (Value.agg #[Value.int .i64 i, Value.int .i64 j, Value.slice B m d]) he9 rfl rfl (wanted_plain rfl _) (rn_bQ012 rfl (he9.op rfl) (he9.op rfl) (he9.op rfl) w3) ?_
  intro a10 he10
  clear he9 a9
  refine lSetF 0 #[Value.int .i64 i, Value.int .i64 j, Value.slice B m d] (cs := #[Value.int .i64 i, Value.int .i64 j, Value.slice B m d]) he10 hH3 rfl (wanted_plain rfl _) rfl rfl rfl rfl rfl (by kernel_rfl) (by kernel_rfl) (by kernel_rfl) rfl ?_
  intro w11 a12 hH11 hf he12
  replace hH11 : Hp w [⟨p3, 32, #[Value.int .i64 i, Value.int .i64 j, Value.slice B m d]⟩, ⟨p1, 32, #[Value.int .i64 i, Value.int .i64 j, Value.slice A n c]⟩] w11 := hH11
  clear hf
  clear he10 a10 hH3
  refine wpList_nil ?_
  refine then_ok ?_
  refine wp_ret ?_
  try simp only [Exit.then, Exit.inBlock]
  exact ret_row rfl he12 rfl (hH11.at (i := 0) rfl) undQ rfl infoQ3 ⟨rfl, hH11.new⟩
set_option linter.unusedSimpArgs false in
set_option maxRecDepth 100000 in
set_option maxHeartbeats 1600000 in
theorem rpush_b (F : FP) (pl gn : Nat) (L : List Ln) (A : Option Addr) (c : Nat) (x : Value) (l : List Ce) (s : Bool) (w : World) (hr : (rdD (.slice A L.length c) L).P w F) (hF : ∀ k, F k → 2 ≤ k ∧ k < w.heap.size) (hok : ShOk L pl gn) (hT : Tab w) (hx : SlC w x l) : Calls Tryd.prog 29 #[Value.agg #[Value.int .i64 (pl : Int), Value.int .i64 (gn : Int), Value.slice A L.length c], .agg #[x, .bool s]] w fun e w' => ∃ A' c', e = .returned (.tuple #[.agg #[.int .i64 (pl : Int), .int .i64 (gn : Int), .slice A' (pushS L pl gn (l, s)).1.length c'], .int .i64 (pushS L pl gn (l, s)).2]) ∧ Turned [rdD (.slice A' (pushS L pl gn (l, s)).1.length c') (pushS L pl gn (l, s)).1] F w w' := by
  have hlen := hok.len
  have hp9 := hok.2.1
  have hpg := hok.2.2.1
  obtain ⟨B, cb, b, e_, hcb, hrx⟩ := id hx
  subst e_
  refine calls_args (vl := [Value.agg #[Value.int .i64 (pl : Int), Value.int .i64 (gn : Int), Value.slice A L.length c], Value.agg #[Value.slice B l.length cb, Value.bool s]]) 25 Tryd.func29 rfl Tryd.ntmps29 (by kernel_rfl) (fun a he => ?_)
  have he0 : Env 25 [(0, Value.agg #[Value.int .i64 (pl : Int), Value.int .i64 (gn : Int), Value.slice A L.length c]), (1, Value.agg #[Value.slice B l.length cb, Value.bool s])] a := he
  clear he
  have hH := Hp.bare w
  have hD := Dt.begin hT (SepL.one hr) hF
  refine wp_seq ?_
  refine wp_region_lit ?_
  refine lNewP (fun p => .pointer (some ⟨p, 0, none⟩)) he0 hH rfl rfl (wanted_plain rfl _) (rn_boxQ rfl (he0.op rfl) w) ?_
  intro p1 w1 a2 hp hn hH1 he2
  replace hD := hD.cons hn hp (hH1.at (i := 0) rfl).lt
  replace hx := hx.new hn
  clear he0 a hH hn hp
  refine lNewP (fun p => .pointer (some ⟨p, 0, none⟩)) he2 hH1 rfl rfl (wanted_plain rfl _) (rn_boxL rfl (he2.op rfl) w1) ?_
  intro p3 w3 a4 hp hn hH3 he4
  replace hD := hD.cons hn hp (hH3.at (i := 0) rfl).lt
  replace hx := hx.new hn
  clear he2 a2 hH1 hn hp
  refine lNewP (fun p => .pointer (some ⟨p, 0, none⟩)) he4 hH3 rfl rfl (wanted_plain rfl _) (rn_allocQ rfl w3) ?_
  intro p5 w5 a6 hp hn hH5 he6
  replace hD := hD.cons hn hp (hH5.at (i := 0) rfl).lt
  replace hx := hx.new hn
  clear he4 a4 hH3 hn hp
  refine lV (Value.int .i64 0) he6 rfl rfl (wanted_plain rfl _) (rn_asg rfl (he6.op rfl) w5) ?_
  intro a7 he7
  clear he6 a6
  refine wpList_nil ?_
  refine then_ok ?_
  refine wp_seq ?_
  refine wp_block ?_
  obtain ⟨v, hv⟩ : ∃ v, okL l = v := ⟨_, rfl⟩
  cases v with
  | false =>
    refine wp_seq ?_
    refine wp_region_lit ?_
    refine lV (Value.agg #[Value.slice B l.length cb, Value.bool s]) he7 rfl rfl (wanted_plain rfl _) (rn_ldp [Value.slice B l.length cb, Value.bool s] rfl (he7.op rfl) undL rfl infoL2 (hH5.at (i := 1) rfl) rfl) ?_
    intro a8 he8
    clear he7 a7
    refine lC he8 rfl rfl Tryd.func41 (by kernel_rfl) rfl rfl (wanted_plain rfl _) rfl (rvalid_s _ l s false hv w5 hx) ?_
    intro w9 a10 hn he10
    have hH9 := hH5.call hn
    replace hD := (hD).new hn
    replace hx := hx.new hn
    clear he8 a8 hH5 hn
    refine lV (Value.bool true) he10 rfl rfl (wanted_plain rfl _) (rn_not (b := false) rfl (he10.op rfl) w9) ?_
    intro a11 he11
    clear he10 a10
    refine lV (Value.bool true) he11 rfl rfl (wanted_plain rfl _) (rn_asg rfl (he11.op rfl) w9) ?_
    intro a12 he12
    clear he11 a11
    refine wpList_nil ?_
    refine then_ok ?_
    refine wp_cond_true (he12.op rfl) ?_
    refine wp_seq ?_
    refine wp_region_lit ?_
    refine lV (Value.agg #[Value.int .i64 (pl : Int), Value.int .i64 (gn : Int), Value.slice A L.length c]) he12 rfl rfl (wanted_plain rfl _) (rn_ldp [Value.int .i64 (pl : Int), Value.int .i64 (gn : Int), Value.slice A L.length c] rfl (he12.op rfl) undQ rfl infoQ3 (hH9.at (i := 2) rfl) rfl) ?_
    intro a13 he13
    clear he12 a12
    refine lSetF 0 #[Value.int .i64 (pl : Int), Value.int .i64 (gn : Int), Value.slice A L.length c] (cs := #[Value.int .i64 (pl : Int), Value.int .i64 (gn : Int), Value.slice A L.length c]) he13 hH9 rfl (wanted_plain rfl _) rfl rfl rfl rfl rfl (by kernel_rfl) (by kernel_rfl) (by kernel_rfl) rfl ?_
    intro w14 a15 hH14 hf he15
    replace hD := hD.setb (i := 0) rfl rfl hf
    replace hH14 : Hp (bare w) [⟨p5, 32, #[Value.int .i64 (pl : Int), Value.int .i64 (gn : Int), Value.slice A L.length c]⟩, ⟨p3, 35, #[Value.slice B l.length cb, Value.bool s]⟩, ⟨p1, 32, #[Value.int .i64 (pl : Int), Value.int .i64 (gn : Int), Value.slice A L.length c]⟩] w14 := hH14
    clear hf
    clear he13 a13 hH9
    refine lV (Value.int .i64 2) he15 rfl rfl (wanted_plain rfl _) (rn_asg rfl (he15.op rfl) w14) ?_
    intro a16 he16
    clear he15 a15
    refine wpList_nil ?_
    refine then_ok ?_
    have e_ : pushS L pl gn (l, s) = (L, 2) := by simp [pushS, hv]
    rw [e_]
    refine wp_ret ?_
    try simp only [Exit.then, Exit.inBlock, Exit.noGoto]
    exact ret_rowt rfl he16 rfl rfl (hH14.at (i := 0) rfl) undQ rfl infoQ3 ⟨A, c, rfl, hD.turned⟩
  | true =>
    refine wp_seq ?_
    refine wp_region_lit ?_
    refine lV (Value.agg #[Value.slice B l.length cb, Value.bool s]) he7 rfl rfl (wanted_plain rfl _) (rn_ldp [Value.slice B l.length cb, Value.bool s] rfl (he7.op rfl) undL rfl infoL2 (hH5.at (i := 1) rfl) rfl) ?_
    intro a17 he17
    clear he7 a7
    refine lC he17 rfl rfl Tryd.func41 (by kernel_rfl) rfl rfl (wanted_plain rfl _) rfl (rvalid_s _ l s true hv w5 hx) ?_
    intro w18 a19 hn he19
    have hH18 := hH5.call hn
    replace hD := (hD).new hn
    replace hx := hx.new hn
    clear he17 a17 hH5 hn
    refine lV (Value.bool false) he19 rfl rfl (wanted_plain rfl _) (rn_not (b := true) rfl (he19.op rfl) w18) ?_
    intro a20 he20
    clear he19 a19
    refine lV (Value.bool false) he20 rfl rfl (wanted_plain rfl _) (rn_asg rfl (he20.op rfl) w18) ?_
    intro a21 he21
    clear he20 a20
    refine wpList_nil ?_
    refine then_ok ?_
    refine wp_cond_false (he21.op rfl) ?_
    by_cases hroom : pl - gn - L.length = 0
    · skip
      refine wp_seq ?_
      refine wp_region_lit ?_
      refine lV (Value.agg #[Value.int .i64 (pl : Int), Value.int .i64 (gn : Int), Value.slice A L.length c]) he21 rfl rfl (wanted_plain rfl _) (rn_ldp [Value.int .i64 (pl : Int), Value.int .i64 (gn : Int), Value.slice A L.length c] rfl (he21.op rfl) undQ rfl infoQ3 (hH18.at (i := 2) rfl) rfl) ?_
      intro a22 he22
      clear he21 a21
      refine lC he22 rfl rfl Tryd.func34 (by kernel_rfl) rfl rfl (wanted_plain rfl _) rfl (rroom_b A L.length c pl gn hpg hp9 w18) ?_
      intro w23 a24 hn he24
      have hH23 := hH18.call hn
      replace hD := (hD).new hn
      replace hx := hx.new hn
      clear he22 a22 hH18 hn
      refine lV (Value.bool true) he24 rfl rfl (wanted_plain rfl _) (rn_eqI rfl (he24.op rfl) (he24.op rfl) (by simp; omega) w23) ?_
      intro a25 he25
      clear he24 a24
      refine lV (Value.bool true) he25 rfl rfl (wanted_plain rfl _) (rn_asg rfl (he25.op rfl) w23) ?_
      intro a26 he26
      clear he25 a25
      refine wpList_nil ?_
      refine then_ok ?_
      refine wp_cond_true (he26.op rfl) ?_
      refine wp_seq ?_
      refine wp_region_lit ?_
      refine lV (Value.agg #[Value.int .i64 (pl : Int), Value.int .i64 (gn : Int), Value.slice A L.length c]) he26 rfl rfl (wanted_plain rfl _) (rn_ldp [Value.int .i64 (pl : Int), Value.int .i64 (gn : Int), Value.slice A L.length c] rfl (he26.op rfl) undQ rfl infoQ3 (hH23.at (i := 2) rfl) rfl) ?_
      intro a27 he27
      clear he26 a26
      refine lSetF 0 #[Value.int .i64 (pl : Int), Value.int .i64 (gn : Int), Value.slice A L.length c] (cs := #[Value.int .i64 (pl : Int), Value.int .i64 (gn : Int), Value.slice A L.length c]) he27 hH23 rfl (wanted_plain rfl _) rfl rfl rfl rfl rfl (by kernel_rfl) (by kernel_rfl) (by kernel_rfl) rfl ?_
      intro w28 a29 hH28 hf he29
      replace hD := hD.setb (i := 0) rfl rfl hf
      replace hH28 : Hp (bare w) [⟨p5, 32, #[Value.int .i64 (pl : Int), Value.int .i64 (gn : Int), Value.slice A L.length c]⟩, ⟨p3, 35, #[Value.slice B l.length cb, Value.bool s]⟩, ⟨p1, 32, #[Value.int .i64 (pl : Int), Value.int .i64 (gn : Int), Value.slice A L.length c]⟩] w28 := hH28
      clear hf
      clear he27 a27 hH23
      refine lV (Value.int .i64 7) he29 rfl rfl (wanted_plain rfl _) (rn_asg rfl (he29.op rfl) w28) ?_
      intro a30 he30
      clear he29 a29
      refine wpList_nil ?_
      refine then_ok ?_
      have e_ : pushS L pl gn (l, s) = (L, 7) := by simp [pushS, hv, hroom]
      rw [e_]
      refine wp_ret ?_
      try simp only [Exit.then, Exit.inBlock, Exit.noGoto]
      exact ret_rowt rfl he30 rfl rfl (hH28.at (i := 0) rfl) undQ rfl infoQ3 ⟨A, c, rfl, hD.turned⟩
    · skip
      refine wp_seq ?_
      refine wp_region_lit ?_
      refine lV (Value.agg #[Value.int .i64 (pl : Int), Value.int .i64 (gn : Int), Value.slice A L.length c]) he21 rfl rfl (wanted_plain rfl _) (rn_ldp [Value.int .i64 (pl : Int), Value.int .i64 (gn : Int), Value.slice A L.length c] rfl (he21.op rfl) undQ rfl infoQ3 (hH18.at (i := 2) rfl) rfl) ?_
      intro a31 he31
      clear he21 a21
      refine lC he31 rfl rfl Tryd.func34 (by kernel_rfl) rfl rfl (wanted_plain rfl _) rfl (rroom_b A L.length c pl gn hpg hp9 w18) ?_
      intro w32 a33 hn he33
      have hH32 := hH18.call hn
      replace hD := (hD).new hn
      replace hx := hx.new hn
      clear he31 a31 hH18 hn
      refine lV (Value.bool false) he33 rfl rfl (wanted_plain rfl _) (rn_eqI rfl (he33.op rfl) (he33.op rfl) (by simp; omega) w32) ?_
      intro a34 he34
      clear he33 a33
      refine lV (Value.bool false) he34 rfl rfl (wanted_plain rfl _) (rn_asg rfl (he34.op rfl) w32) ?_
      intro a35 he35
      clear he34 a34
      refine wpList_nil ?_
      refine then_ok ?_
      refine wp_cond_false (he35.op rfl) ?_
      have e_ : pushS L pl gn (l, s) = (L ++ [(l, s)], 0) := by simp [pushS, hv, hroom]
      rw [e_]
      refine wp_skip ?_
      refine block_ok ?_
      refine then_ok ?_
      have he36 : Env 25 [(4, Value.pointer (some ⟨p5, 0, none⟩)), (3, Value.pointer (some ⟨p3, 0, none⟩)), (2, Value.pointer (some ⟨p1, 0, none⟩)), (0, Value.agg #[Value.int .i64 (pl : Int), Value.int .i64 (gn : Int), Value.slice A L.length c]), (1, Value.agg #[Value.slice B l.length cb, Value.bool s])] a35 := he35.mem ⟨rfl, rfl, rfl, rfl, rfl, trivial⟩
      clear he35
      as_aux_lemma =>
        have hll := okL_len hv
        obtain ⟨b2, xs, hlc, hrd, hD3⟩ := hD.rdS
        clear hD
        have hD := hD3
        clear hD3
        have hxl : (xs ++ [(⟨none, 0, 0, s⟩ : LV)]).length = (L ++ [(l, s)]).length := by have := hrd.1; simp; omega
        refine wp_seq ?_
        refine wp_region_held_drew (S := Hp (bare w) [⟨p3, 35, #[Value.slice B l.length cb, Value.bool s]⟩, ⟨p1, 32, #[Value.int .i64 (pl : Int), Value.int .i64 (gn : Int), Value.slice A L.length c]⟩]) (by kernel_rfl) ((hH32.drew).drop1 0 rfl) (fun _ => ?_)
        have hn : New w32 (World.drew w32) := (Fr.refl _ _).drew
        replace hD := (hD).new hn
        replace hx := hx.new hn
        replace hrd := hrd.new hn
        clear hn
        have hH37 := hH32.drew
        clear hH32
        generalize World.drew w32 = w37 at *
        refine hV (fuel := 10) (i := 0) (Value.agg #[Value.int .i64 (pl : Int), Value.int .i64 (gn : Int), Value.slice A L.length c]) he36 rfl rfl rfl (by kernel_rfl) (by kernel_rfl) (by kernel_rfl) (fun _ _ _ h => h) (wanted_plain rfl _) (fun w' hw' => rn_ldp [Value.int .i64 (pl : Int), Value.int .i64 (gn : Int), Value.slice A L.length c] rfl (he36.op rfl) undQ rfl infoQ3 (hw'.at (i := 1) rfl) rfl) (hH37.drop1 0 rfl) ?_
        intro a38 he38
        clear he36 a35
        refine hV (fuel := 9) (i := 1) (Value.pointer (some ⟨p1, 2, none⟩)) he38 rfl rfl rfl (by kernel_rfl) (by kernel_rfl) (by kernel_rfl) (fun _ _ _ h => h) (wanted_plain rfl _) (fun w' _ => rn_faQ2 rfl (he38.op rfl) rfl w') (hH37.drop1 0 rfl) ?_
        intro a39 he39
        clear he38 a38
        refine hV (fuel := 8) (i := 2) (Value.slice A L.length c) he39 rfl rfl rfl (by kernel_rfl) (by kernel_rfl) (by kernel_rfl) (fun _ _ _ h => h) (wanted_plain rfl _) (fun w' hw' => rn_ldLs rfl (he39.op rfl) (hw'.at (i := 1) rfl) rfl) (hH37.drop1 0 rfl) ?_
        intro a40 he40
        clear he39 a39
        refine hV (fuel := 7) (i := 4) (Value.agg #[Value.slice B l.length cb, Value.bool s]) he40 rfl rfl rfl (by kernel_rfl) (by kernel_rfl) (by kernel_rfl) (fun _ _ _ h => h) (wanted_plain rfl _) (fun w' hw' => rn_ldp [Value.slice B l.length cb, Value.bool s] rfl (he40.op rfl) undL rfl infoL2 (hw'.at (i := 0) rfl) rfl) (hH37.drop1 0 rfl) ?_
        intro a41 he41
        clear he40 a40
        refine hEx (fuel := 6) (i := 3) he41 (by kernel_rfl) rfl rfl rfl (wanted_plain rfl _) (rg_app0 hrd (by omega) rfl (fun _ => rfl) (he41.op rfl)) ?_
        rintro _ w42 ⟨A1, c1, rfl, ht⟩
        have hD2 := hD.made ht
        have hH42 := hH37.call ht.new
        replace hx := hx.new ht.new
        replace hrd := hrd.new ht.new
        clear hD
        have hD := hD2
        clear hD2 ht
        refine ⟨(hH42.drop1 0 rfl), ?_⟩
        intro a43 he43
        clear he41 a41 hH37
        refine hC (fuel := 5) (i := 5) he43 (by kernel_rfl) rfl rfl rfl Tryd.func28 (by kernel_rfl) rfl rfl (wanted_plain rfl _) rfl (rcopy_d _ l s (by omega) w42 hx) ?_
        rintro _ w44 ⟨Ac, cc, rfl, ht⟩
        have hD2 := hD.made ht
        have hH44 := hH42.call ht.new
        replace hx := hx.new ht.new
        replace hrd := hrd.new ht.new
        clear hD
        have hD := hD2
        clear hD2 ht
        refine ⟨_, rfl, (hH44.drop1 0 rfl), ?_⟩
        intro a45 he45
        clear he43 a43 hH42
        refine hNewP (fuel := 4) (i := 6) (fun p => .slice (some ⟨p, 0, none⟩) 1 1) he45 hH44 (by kernel_rfl) rfl rfl rfl (wanted_plain rfl _) (rn_bsL1 rfl (he45.op rfl) w44) ?_
        intro p46 w46 a47 hp hn hH46 he47
        replace hD := hD.cons hn hp (hH46.at (i := 0) rfl).lt
        replace hx := hx.new hn
        replace hrd := hrd.new hn
        refine ⟨((hH46.drop1 1 rfl).drop1 0 rfl), ?_⟩
        clear he45 a45 hH44 hn hp
        replace hD := hD.pick 1 rfl
        obtain ⟨F_, hsep, hF, hstep⟩ := Dt.step (A := [rowD (.slice A1 xs.length c1) xs]) (D := [cellsD (.slice Ac l.length cc) l, rdX xs L]) hD
        refine hEx (fuel := 3) (i := 7) he47 (by kernel_rfl) rfl rfl rfl (wanted_plain rfl _) (app_r (u := ⟨Ac, l.length, cc, s⟩) (M := (L ++ [(l, s)]).length) hsep.the (rdg_blk (R := rL) (l := [⟨Ac, l.length, cc, s⟩]) (hH46.at (i := 0) rfl) rfl rfl) (by simpa using hxl) (by simp; omega) rfl (he47.op rfl) (he47.op rfl)) ?_
        rintro _ w48 ⟨A2, c2, rfl, ht⟩
        obtain ⟨hD2, hHs⟩ := hstep _ _ ht
        have hH48 := hHs _ rfl hH46
        clear hHs hstep hsep hF
        clear hD
        have hD := hD2
        clear hD2 ht
        refine ⟨((hH48.drop1 1 rfl).drop1 0 rfl), ?_⟩
        intro a49 he49
        clear he47 a47 hH46
        refine hC (fuel := 2) (i := 8) he49 (by kernel_rfl) rfl rfl rfl Tryd.func42 (by kernel_rfl) rfl rfl (wanted_plain rfl _) rfl (with_b A A2 L.length c (L ++ [(l, s)]).length c2 pl gn w48) ?_
        rintro _ w50 ⟨rfl, hn⟩
        have hH50 := hH48.call hn
        replace hD := (hD).new hn
        refine ⟨_, rfl, ((hH50.drop1 1 rfl).drop1 0 rfl), ?_⟩
        intro a51 he51
        clear he49 a49 hH48 hn
        refine hSetV (fuel := 1) (n := 9) 1 #[Value.int .i64 (pl : Int), Value.int .i64 (gn : Int), Value.slice A2 (L ++ [(l, s)]).length c2] (cs := #[Value.int .i64 (pl : Int), Value.int .i64 (gn : Int), Value.slice A2 (L ++ [(l, s)]).length c2]) he51 hH50 (by kernel_rfl) rfl rfl (wanted_plain rfl _) rfl rfl rfl rfl rfl (by kernel_rfl) (by kernel_rfl) (by kernel_rfl) rfl ?_
        intro w52 a53 hH52 hf he53
        replace hD := hD.setb (i := 1) rfl rfl hf
        replace hH52 : Hp (bare w) [⟨p46, 35, #[Value.slice Ac l.length cc, Value.bool s]⟩, ⟨p5, 32, #[Value.int .i64 (pl : Int), Value.int .i64 (gn : Int), Value.slice A2 (L ++ [(l, s)]).length c2]⟩, ⟨p3, 35, #[Value.slice B l.length cb, Value.bool s]⟩, ⟨p1, 32, #[Value.int .i64 (pl : Int), Value.int .i64 (gn : Int), Value.slice A L.length c]⟩] w52 := hH52
        refine ⟨((hH52.drop1 1 rfl).drop1 0 rfl), ?_⟩
        clear hf
        clear he51 a51 hH50
        refine hV (fuel := 0) (i := 10) (Value.int .i64 0) he53 rfl rfl rfl (by kernel_rfl) (by kernel_rfl) (by kernel_rfl) (fun _ _ _ h => h) (wanted_plain rfl _) (fun w' _ => rn_asg rfl (he53.op rfl) w') ((hH52.drop1 1 rfl).drop1 0 rfl) ?_
        intro a54 he54
        clear he53 a53
        refine wpAnyH_done (by kernel_rfl) ?_ _
        refine then_ok ?_
        replace hD := hD.pick 2 rfl
        replace hD := hD.pick 2 rfl
        replace hD := hD.pick 2 rfl
        replace hD := Dt.front (A := [rowD (.slice A2 (L ++ [(l, s)]).length c2) (xs ++ [⟨Ac, l.length, cc, s⟩]), cellsD (.slice Ac l.length cc) l, rdX xs L]) (B := [rdD (.slice A2 (L ++ [(l, s)]).length c2) (L ++ [(l, s)])]) (D := []) hD (fun G h => rd_snoc rfl h)
        refine wp_ret ?_
        try simp only [Exit.then, Exit.inBlock, Exit.noGoto]
        exact ret_rowt rfl he54 rfl rfl (hH52.at (i := 1) rfl) undQ rfl infoQ3 ⟨A2, c2, rfl, hD.turned⟩
set_option linter.unusedSimpArgs false in
set_option maxRecDepth 100000 in
set_option maxHeartbeats 1600000 in
theorem rset_b (F : FP) (pl gn : Nat) (L : List Ln) (A : Option Addr) (c : Nat) (i : Int) (x : Value) (l : List Ce) (s : Bool) (w : World) (hr : (rdD (.slice A L.length c) L).P w F) (hF : ∀ k, F k → 2 ≤ k ∧ k < w.heap.size) (hok : ShOk L pl gn) (hT : Tab w) (hx : SlC w x l) : Calls Tryd.prog 31 #[Value.agg #[Value.int .i64 (pl : Int), Value.int .i64 (gn : Int), Value.slice A L.length c], .int .i64 i, .agg #[x, .bool s]] w fun e w' => ∃ A' c', e = .returned (.tuple #[.agg #[.int .i64 (pl : Int), .int .i64 (gn : Int), .slice A' (setS L i (l, s)).1.length c'], .int .i64 (setS L i (l, s)).2]) ∧ Turned [rdD (.slice A' (setS L i (l, s)).1.length c') (setS L i (l, s)).1] F w w' := by
  have hlen := hok.len
  have hp9 := hok.2.1
  have hpg := hok.2.2.1
  obtain ⟨B, cb, b, e_, hcb, hrx⟩ := id hx
  subst e_
  refine calls_args (vl := [Value.agg #[Value.int .i64 (pl : Int), Value.int .i64 (gn : Int), Value.slice A L.length c], Value.int .i64 i, Value.agg #[Value.slice B l.length cb, Value.bool s]]) 36 Tryd.func31 rfl Tryd.ntmps31 (by kernel_rfl) (fun a he => ?_)
  have he0 : Env 36 [(0, Value.agg #[Value.int .i64 (pl : Int), Value.int .i64 (gn : Int), Value.slice A L.length c]), (1, Value.int .i64 i), (2, Value.agg #[Value.slice B l.length cb, Value.bool s])] a := he
  clear he
  have hH := Hp.bare w
  have hD := Dt.begin hT (SepL.one hr) hF
  refine wp_seq ?_
  refine wp_region_lit ?_
  refine lNewP (fun p => .pointer (some ⟨p, 0, none⟩)) he0 hH rfl rfl (wanted_plain rfl _) (rn_boxQ rfl (he0.op rfl) w) ?_
  intro p1 w1 a2 hp hn hH1 he2
  replace hD := hD.cons hn hp (hH1.at (i := 0) rfl).lt
  replace hx := hx.new hn
  clear he0 a hH hn hp
  refine lNewP (fun p => .pointer (some ⟨p, 0, none⟩)) he2 hH1 rfl rfl (wanted_plain rfl _) (rn_boxL rfl (he2.op rfl) w1) ?_
  intro p3 w3 a4 hp hn hH3 he4
  replace hD := hD.cons hn hp (hH3.at (i := 0) rfl).lt
  replace hx := hx.new hn
  clear he2 a2 hH1 hn hp
  refine lNewP (fun p => .pointer (some ⟨p, 0, none⟩)) he4 hH3 rfl rfl (wanted_plain rfl _) (rn_allocQ rfl w3) ?_
  intro p5 w5 a6 hp hn hH5 he6
  replace hD := hD.cons hn hp (hH5.at (i := 0) rfl).lt
  replace hx := hx.new hn
  clear he4 a4 hH3 hn hp
  refine lV (Value.int .i64 0) he6 rfl rfl (wanted_plain rfl _) (rn_asg rfl (he6.op rfl) w5) ?_
  intro a7 he7
  clear he6 a6
  refine wpList_nil ?_
  refine then_ok ?_
  refine wp_seq ?_
  refine wp_block ?_
  obtain ⟨v, hv⟩ : ∃ v, okL l = v := ⟨_, rfl⟩
  cases v with
  | false =>
    refine wp_seq ?_
    refine wp_region_lit ?_
    refine lV (Value.agg #[Value.slice B l.length cb, Value.bool s]) he7 rfl rfl (wanted_plain rfl _) (rn_ldp [Value.slice B l.length cb, Value.bool s] rfl (he7.op rfl) undL rfl infoL2 (hH5.at (i := 1) rfl) rfl) ?_
    intro a8 he8
    clear he7 a7
    refine lC he8 rfl rfl Tryd.func41 (by kernel_rfl) rfl rfl (wanted_plain rfl _) rfl (rvalid_s _ l s false hv w5 hx) ?_
    intro w9 a10 hn he10
    have hH9 := hH5.call hn
    replace hD := (hD).new hn
    replace hx := hx.new hn
    clear he8 a8 hH5 hn
    refine lV (Value.bool true) he10 rfl rfl (wanted_plain rfl _) (rn_not (b := false) rfl (he10.op rfl) w9) ?_
    intro a11 he11
    clear he10 a10
    refine lV (Value.bool true) he11 rfl rfl (wanted_plain rfl _) (rn_asg rfl (he11.op rfl) w9) ?_
    intro a12 he12
    clear he11 a11
    refine wpList_nil ?_
    refine then_ok ?_
    refine wp_cond_true (he12.op rfl) ?_
    refine wp_seq ?_
    refine wp_region_lit ?_
    refine lV (Value.agg #[Value.int .i64 (pl : Int), Value.int .i64 (gn : Int), Value.slice A L.length c]) he12 rfl rfl (wanted_plain rfl _) (rn_ldp [Value.int .i64 (pl : Int), Value.int .i64 (gn : Int), Value.slice A L.length c] rfl (he12.op rfl) undQ rfl infoQ3 (hH9.at (i := 2) rfl) rfl) ?_
    intro a13 he13
    clear he12 a12
    refine lSetF 0 #[Value.int .i64 (pl : Int), Value.int .i64 (gn : Int), Value.slice A L.length c] (cs := #[Value.int .i64 (pl : Int), Value.int .i64 (gn : Int), Value.slice A L.length c]) he13 hH9 rfl (wanted_plain rfl _) rfl rfl rfl rfl rfl (by kernel_rfl) (by kernel_rfl) (by kernel_rfl) rfl ?_
    intro w14 a15 hH14 hf he15
    replace hD := hD.setb (i := 0) rfl rfl hf
    replace hH14 : Hp (bare w) [⟨p5, 32, #[Value.int .i64 (pl : Int), Value.int .i64 (gn : Int), Value.slice A L.length c]⟩, ⟨p3, 35, #[Value.slice B l.length cb, Value.bool s]⟩, ⟨p1, 32, #[Value.int .i64 (pl : Int), Value.int .i64 (gn : Int), Value.slice A L.length c]⟩] w14 := hH14
    clear hf
    clear he13 a13 hH9
    refine lV (Value.int .i64 2) he15 rfl rfl (wanted_plain rfl _) (rn_asg rfl (he15.op rfl) w14) ?_
    intro a16 he16
    clear he15 a15
    refine wpList_nil ?_
    refine then_ok ?_
    have e_ : setS L i (l, s) = (L, 2) := by simp [setS, hv]
    rw [e_]
    refine wp_ret ?_
    try simp only [Exit.then, Exit.inBlock, Exit.noGoto]
    exact ret_rowt rfl he16 rfl rfl (hH14.at (i := 0) rfl) undQ rfl infoQ3 ⟨A, c, rfl, hD.turned⟩
  | true =>
    refine wp_seq ?_
    refine wp_region_lit ?_
    refine lV (Value.agg #[Value.slice B l.length cb, Value.bool s]) he7 rfl rfl (wanted_plain rfl _) (rn_ldp [Value.slice B l.length cb, Value.bool s] rfl (he7.op rfl) undL rfl infoL2 (hH5.at (i := 1) rfl) rfl) ?_
    intro a17 he17
    clear he7 a7
    refine lC he17 rfl rfl Tryd.func41 (by kernel_rfl) rfl rfl (wanted_plain rfl _) rfl (rvalid_s _ l s true hv w5 hx) ?_
    intro w18 a19 hn he19
    have hH18 := hH5.call hn
    replace hD := (hD).new hn
    replace hx := hx.new hn
    clear he17 a17 hH5 hn
    refine lV (Value.bool false) he19 rfl rfl (wanted_plain rfl _) (rn_not (b := true) rfl (he19.op rfl) w18) ?_
    intro a20 he20
    clear he19 a19
    refine lV (Value.bool false) he20 rfl rfl (wanted_plain rfl _) (rn_asg rfl (he20.op rfl) w18) ?_
    intro a21 he21
    clear he20 a20
    refine wpList_nil ?_
    refine then_ok ?_
    refine wp_cond_false (he21.op rfl) ?_
    by_cases h0 : i < 0
    · skip
      refine wp_seq ?_
      refine wp_region_lit ?_
      refine lV (Value.int .i64 i) he21 rfl rfl (wanted_plain rfl _) (rn_mv rfl (he21.op rfl) w18) ?_
      intro a22 he22
      clear he21 a21
      refine lV (Value.bool true) he22 rfl rfl (wanted_plain rfl _) (rn_lss rfl (he22.op rfl) (he22.op rfl) (decide_eq_true h0) w18) ?_
      intro a23 he23
      clear he22 a22
      refine lV (Value.bool true) he23 rfl rfl (wanted_plain rfl _) (rn_mv rfl (he23.op rfl) w18) ?_
      intro a24 he24
      clear he23 a23
      refine lSkip he24 rfl rfl (he24.wantNot rfl rfl rfl rfl rfl rfl) ?_
      intro a25 he25
      clear he24 a24
      refine lSkip he25 rfl rfl (he25.wantNot rfl rfl rfl rfl rfl rfl) ?_
      intro a26 he26
      clear he25 a25
      refine lSkip he26 rfl rfl (he26.wantNot rfl rfl rfl rfl rfl rfl) ?_
      intro a27 he27
      clear he26 a26
      refine lSkip he27 rfl rfl (he27.wantNot rfl rfl rfl rfl rfl rfl) ?_
      intro a28 he28
      clear he27 a27
      refine lSkip he28 rfl rfl (he28.wantNot rfl rfl rfl rfl rfl rfl) ?_
      intro a29 he29
      clear he28 a28
      refine lV (Value.bool true) he29 rfl rfl (wanted_plain rfl _) (rn_pk rfl (he29.op rfl) (he29.op rfl) w18) ?_
      intro a30 he30
      clear he29 a29
      refine lV (Value.bool true) he30 rfl rfl (wanted_plain rfl _) (rn_asg rfl (he30.op rfl) w18) ?_
      intro a31 he31
      clear he30 a30
      refine wpList_nil ?_
      refine then_ok ?_
      refine wp_cond_true (he31.op rfl) ?_
      refine wp_seq ?_
      refine wp_region_lit ?_
      refine lV (Value.agg #[Value.int .i64 (pl : Int), Value.int .i64 (gn : Int), Value.slice A L.length c]) he31 rfl rfl (wanted_plain rfl _) (rn_ldp [Value.int .i64 (pl : Int), Value.int .i64 (gn : Int), Value.slice A L.length c] rfl (he31.op rfl) undQ rfl infoQ3 (hH18.at (i := 2) rfl) rfl) ?_
      intro a32 he32
      clear he31 a31
      refine lSetF 0 #[Value.int .i64 (pl : Int), Value.int .i64 (gn : Int), Value.slice A L.length c] (cs := #[Value.int .i64 (pl : Int), Value.int .i64 (gn : Int), Value.slice A L.length c]) he32 hH18 rfl (wanted_plain rfl _) rfl rfl rfl rfl rfl (by kernel_rfl) (by kernel_rfl) (by kernel_rfl) rfl ?_
      intro w33 a34 hH33 hf he34
      replace hD := hD.setb (i := 0) rfl rfl hf
      replace hH33 : Hp (bare w) [⟨p5, 32, #[Value.int .i64 (pl : Int), Value.int .i64 (gn : Int), Value.slice A L.length c]⟩, ⟨p3, 35, #[Value.slice B l.length cb, Value.bool s]⟩, ⟨p1, 32, #[Value.int .i64 (pl : Int), Value.int .i64 (gn : Int), Value.slice A L.length c]⟩] w33 := hH33
      clear hf
      clear he32 a32 hH18
      refine lV (Value.int .i64 3) he34 rfl rfl (wanted_plain rfl _) (rn_asg rfl (he34.op rfl) w33) ?_
      intro a35 he35
      clear he34 a34
      refine wpList_nil ?_
      refine then_ok ?_
      have e_ : setS L i (l, s) = (L, 3) := by unfold setS; rw [if_pos hv, if_neg (by omega)]
      rw [e_]
      refine wp_ret ?_
      try simp only [Exit.then, Exit.inBlock, Exit.noGoto]
      exact ret_rowt rfl he35 rfl rfl (hH33.at (i := 0) rfl) undQ rfl infoQ3 ⟨A, c, rfl, hD.turned⟩
    · skip
      by_cases h1 : (L.length : Nat) ≤ i
      · skip
        refine wp_seq ?_
        refine wp_region_lit ?_
        refine lV (Value.int .i64 i) he21 rfl rfl (wanted_plain rfl _) (rn_mv rfl (he21.op rfl) w18) ?_
        intro a36 he36
        clear he21 a21
        refine lV (Value.bool false) he36 rfl rfl (wanted_plain rfl _) (rn_lss rfl (he36.op rfl) (he36.op rfl) (decide_eq_false h0) w18) ?_
        intro a37 he37
        clear he36 a36
        refine lV (Value.bool false) he37 rfl rfl (wanted_plain rfl _) (rn_mv rfl (he37.op rfl) w18) ?_
        intro a38 he38
        clear he37 a37
        refine lV (Value.int .i64 i) he38 rfl rfl (he38.want rfl rfl rfl rfl rfl) (rn_mv rfl (he38.op rfl) w18) ?_
        intro a39 he39
        clear he38 a38
        refine lV (Value.pointer (some ⟨p1, 2, none⟩)) he39 rfl rfl (he39.want rfl rfl rfl rfl rfl) (rn_faQ2 rfl (he39.op rfl) rfl w18) ?_
        intro a40 he40
        clear he39 a39
        refine lV (Value.slice A L.length c) he40 rfl rfl (he40.want rfl rfl rfl rfl rfl) (rn_ldLs rfl (he40.op rfl) (hH18.at (i := 2) rfl) rfl) ?_
        intro a41 he41
        clear he40 a40
        refine lV (Value.int .i64 (L.length : Nat)) he41 rfl rfl (he41.want rfl rfl rfl rfl rfl) (rn_lenL rfl (he41.op rfl) w18) ?_
        intro a42 he42
        clear he41 a41
        refine lV (Value.bool true) he42 rfl rfl (he42.want rfl rfl rfl rfl rfl) (rn_geq rfl (he42.op rfl) (he42.op rfl) (decide_eq_true h1) w18) ?_
        intro a43 he43
        clear he42 a42
        refine lV (Value.bool true) he43 rfl rfl (wanted_plain rfl _) (rn_pk0 rfl (he43.op rfl) (he43.op rfl) w18) ?_
        intro a44 he44
        clear he43 a43
        refine lV (Value.bool true) he44 rfl rfl (wanted_plain rfl _) (rn_asg rfl (he44.op rfl) w18) ?_
        intro a45 he45
        clear he44 a44
        refine wpList_nil ?_
        refine then_ok ?_
        refine wp_cond_true (he45.op rfl) ?_
        refine wp_seq ?_
        refine wp_region_lit ?_
        refine lV (Value.agg #[Value.int .i64 (pl : Int), Value.int .i64 (gn : Int), Value.slice A L.length c]) he45 rfl rfl (wanted_plain rfl _) (rn_ldp [Value.int .i64 (pl : Int), Value.int .i64 (gn : Int), Value.slice A L.length c] rfl (he45.op rfl) undQ rfl infoQ3 (hH18.at (i := 2) rfl) rfl) ?_
        intro a46 he46
        clear he45 a45
        refine lSetF 0 #[Value.int .i64 (pl : Int), Value.int .i64 (gn : Int), Value.slice A L.length c] (cs := #[Value.int .i64 (pl : Int), Value.int .i64 (gn : Int), Value.slice A L.length c]) he46 hH18 rfl (wanted_plain rfl _) rfl rfl rfl rfl rfl (by kernel_rfl) (by kernel_rfl) (by kernel_rfl) rfl ?_
        intro w47 a48 hH47 hf he48
        replace hD := hD.setb (i := 0) rfl rfl hf
        replace hH47 : Hp (bare w) [⟨p5, 32, #[Value.int .i64 (pl : Int), Value.int .i64 (gn : Int), Value.slice A L.length c]⟩, ⟨p3, 35, #[Value.slice B l.length cb, Value.bool s]⟩, ⟨p1, 32, #[Value.int .i64 (pl : Int), Value.int .i64 (gn : Int), Value.slice A L.length c]⟩] w47 := hH47
        clear hf
        clear he46 a46 hH18
        refine lV (Value.int .i64 3) he48 rfl rfl (wanted_plain rfl _) (rn_asg rfl (he48.op rfl) w47) ?_
        intro a49 he49
        clear he48 a48
        refine wpList_nil ?_
        refine then_ok ?_
        have e_ : setS L i (l, s) = (L, 3) := by unfold setS; rw [if_pos hv, if_neg (by omega)]
        rw [e_]
        refine wp_ret ?_
        try simp only [Exit.then, Exit.inBlock, Exit.noGoto]
        exact ret_rowt rfl he49 rfl rfl (hH47.at (i := 0) rfl) undQ rfl infoQ3 ⟨A, c, rfl, hD.turned⟩
      · skip
        refine wp_seq ?_
        refine wp_region_lit ?_
        refine lV (Value.int .i64 i) he21 rfl rfl (wanted_plain rfl _) (rn_mv rfl (he21.op rfl) w18) ?_
        intro a50 he50
        clear he21 a21
        refine lV (Value.bool false) he50 rfl rfl (wanted_plain rfl _) (rn_lss rfl (he50.op rfl) (he50.op rfl) (decide_eq_false h0) w18) ?_
        intro a51 he51
        clear he50 a50
        refine lV (Value.bool false) he51 rfl rfl (wanted_plain rfl _) (rn_mv rfl (he51.op rfl) w18) ?_
        intro a52 he52
        clear he51 a51
        refine lV (Value.int .i64 i) he52 rfl rfl (he52.want rfl rfl rfl rfl rfl) (rn_mv rfl (he52.op rfl) w18) ?_
        intro a53 he53
        clear he52 a52
        refine lV (Value.pointer (some ⟨p1, 2, none⟩)) he53 rfl rfl (he53.want rfl rfl rfl rfl rfl) (rn_faQ2 rfl (he53.op rfl) rfl w18) ?_
        intro a54 he54
        clear he53 a53
        refine lV (Value.slice A L.length c) he54 rfl rfl (he54.want rfl rfl rfl rfl rfl) (rn_ldLs rfl (he54.op rfl) (hH18.at (i := 2) rfl) rfl) ?_
        intro a55 he55
        clear he54 a54
        refine lV (Value.int .i64 (L.length : Nat)) he55 rfl rfl (he55.want rfl rfl rfl rfl rfl) (rn_lenL rfl (he55.op rfl) w18) ?_
        intro a56 he56
        clear he55 a55
        refine lV (Value.bool false) he56 rfl rfl (he56.want rfl rfl rfl rfl rfl) (rn_geq rfl (he56.op rfl) (he56.op rfl) (decide_eq_false h1) w18) ?_
        intro a57 he57
        clear he56 a56
        refine lV (Value.bool false) he57 rfl rfl (wanted_plain rfl _) (rn_pk0 rfl (he57.op rfl) (he57.op rfl) w18) ?_
        intro a58 he58
        clear he57 a57
        refine lV (Value.bool false) he58 rfl rfl (wanted_plain rfl _) (rn_asg rfl (he58.op rfl) w18) ?_
        intro a59 he59
        clear he58 a58
        refine wpList_nil ?_
        refine then_ok ?_
        refine wp_cond_false (he59.op rfl) ?_
        obtain ⟨k, rfl⟩ : ∃ k : Nat, i = k := ⟨i.toNat, by omega⟩
        have hk : k < L.length := by omega
        have e_ : setS L k (l, s) = (L.set k (l, s), 0) := by unfold setS; rw [if_pos hv, if_pos (by omega)]; simp
        rw [e_]
        refine wp_skip ?_
        refine block_ok ?_
        refine then_ok ?_
        have he60 : Env 36 [(7, Value.int .i64 0), (6, Value.pointer (some ⟨p5, 0, none⟩)), (5, Value.pointer (some ⟨p3, 0, none⟩)), (3, Value.pointer (some ⟨p1, 0, none⟩)), (0, Value.agg #[Value.int .i64 (pl : Int), Value.int .i64 (gn : Int), Value.slice A L.length c]), (1, Value.int .i64 (k : Int))] a59 := he59.mem ⟨rfl, rfl, rfl, rfl, rfl, rfl, trivial⟩
        clear he59
        as_aux_lemma =>
          have hll := okL_len hv
          obtain ⟨b2, xs, hlc, hrd, hD3⟩ := hD.rdS
          clear hD
          have hD := hD3
          clear hD3
          have hxl : xs.length = L.length := hrd.1
          refine wp_seq ?_
          refine wp_region_lit ?_
          refine lV (Value.pointer (some ⟨p1, 2, none⟩)) he60 rfl rfl (wanted_plain rfl _) (rn_faQ2 rfl (he60.op rfl) rfl w18) ?_
          intro a61 he61
          clear he60 a59
          refine lV (Value.slice A L.length c) he61 rfl rfl (wanted_plain rfl _) (rn_ldLs rfl (he61.op rfl) (hH18.at (i := 2) rfl) rfl) ?_
          intro a62 he62
          clear he61 a61
          refine lEx he62 rfl rfl (wanted_plain rfl _) (rg_app0 hrd (by omega) rfl (fun _ => rfl) (he62.op rfl)) ?_
          rintro _ w63 ⟨A1, c1, rfl, ht⟩
          have hD2 := hD.made ht
          have hH63 := hH18.call ht.new
          replace hx := hx.new ht.new
          replace hrd := hrd.new ht.new
          clear hD
          have hD := hD2
          clear hD2 ht
          intro a64 he64
          clear he62 a62 hH18
          refine lV (Value.slice A1 xs.length c1) he64 rfl rfl (wanted_plain rfl _) (rn_asg rfl (he64.op rfl) w63) ?_
          intro a65 he65
          clear he64 a64
          refine wpList_nil ?_
          refine then_ok ?_
          obtain ⟨gb, off, cur, e3, -⟩ := OwnO.at_ (R := rL) (show OwnO rL _ _ _ _ from (hD.get (i := 0) rfl).choose_spec) (k := k) (by omega)
          subst e3
          clear cur
          refine wp_seq ?_
          refine wp_region_lit ?_
          refine lV (Value.slice (some ⟨gb, off, none⟩) xs.length c1) he65 rfl rfl (wanted_plain rfl _) (rn_mv rfl (he65.op rfl) w63) ?_
          intro a66 he66
          clear he65 a65
          refine lV (Value.int .i64 (k : Int)) he66 rfl rfl (wanted_plain rfl _) (rn_mv rfl (he66.op rfl) w63) ?_
          intro a67 he67
          clear he66 a66
          refine lV (Value.agg #[Value.slice B l.length cb, Value.bool s]) he67 rfl rfl (wanted_plain rfl _) (rn_ldp [Value.slice B l.length cb, Value.bool s] rfl (he67.op rfl) undL rfl infoL2 (hH63.at (i := 1) rfl) rfl) ?_
          intro a68 he68
          clear he67 a67
          refine lCx he68 rfl rfl Tryd.func28 (by kernel_rfl) rfl rfl (wanted_plain rfl _) rfl (rcopy_d _ l s (by omega) w63 hx) ?_
          rintro _ w69 ⟨Ac, cc, rfl, ht⟩
          have hD2 := hD.made ht
          have hH69 := hH63.call ht.new
          replace hx := hx.new ht.new
          replace hrd := hrd.new ht.new
          clear hD
          have hD := hD2
          clear hD2 ht
          refine ⟨_, rfl, ?_⟩
          intro a70 he70
          clear he68 a68 hH63
          refine lV (Value.pointer (some ⟨gb, off + k * 2, none⟩)) he70 rfl rfl (wanted_plain rfl _) (rn_idxL (i := k) rfl (he70.op rfl) (he70.op rfl) (by omega) (by rw [addr_add]) w69) ?_
          intro a71 he71
          clear he70 a70
          replace hD := hD.pick 2 rfl
          replace hD := hD.pick 1 rfl
          replace hD := hD.pick 2 rfl
          obtain ⟨F_, hsep, hF, hstep⟩ := Dt.step (A := [rowD (.slice (some ⟨gb, off, none⟩) xs.length c1) xs]) (D := [cellsD (.slice Ac l.length cc) l, rdX xs L]) hD
          refine lRowR (u := ⟨Ac, l.length, cc, s⟩) (i := k) hsep.the (by omega) he71 rfl (wanted_plain rfl _) rfl rfl rfl ?_
          intro w72 a73 ht he73
          obtain ⟨hD2, hHs⟩ := hstep _ _ ht
          have hH72 := hHs _ rfl hH69
          clear hHs hstep hsep hF hD ht
          have hD := hD2
          clear hD2
          clear he71 a71 hH69
          refine wpList_nil ?_
          refine then_ok ?_
          have hl2 : xs.length = (L.set k (l, s)).length := by simpa using hxl
          rw [hl2] at hD
          rw [hl2] at he73
          replace hD := Dt.front (A := [rowD (.slice (some ⟨gb, off, none⟩) (L.set k (l, s)).length c1) (xs.set k ⟨Ac, l.length, cc, s⟩), cellsD (.slice Ac l.length cc) l, rdX xs L]) (B := [rdD (Value.slice (some ⟨gb, off, none⟩) (L.set k (l, s)).length c1) (L.set k (l, s))]) (D := []) hD (fun G h => rd_set k rfl h)
          refine wp_seq ?_
          refine wp_region_lit ?_
          refine lV (Value.agg #[Value.int .i64 (pl : Int), Value.int .i64 (gn : Int), Value.slice A L.length c]) he73 rfl rfl (wanted_plain rfl _) (rn_ldp [Value.int .i64 (pl : Int), Value.int .i64 (gn : Int), Value.slice A L.length c] rfl (he73.op rfl) undQ rfl infoQ3 (hH72.at (i := 2) rfl) rfl) ?_
          intro a74 he74
          clear he73 a73
          refine lV (Value.slice (some ⟨gb, off, none⟩) (L.set k (l, s)).length c1) he74 rfl rfl (wanted_plain rfl _) (rn_mv rfl (he74.op rfl) w72) ?_
          intro a75 he75
          clear he74 a74
          refine lC he75 rfl rfl Tryd.func42 (by kernel_rfl) rfl rfl (wanted_plain rfl _) rfl (with_b _ _ _ _ _ _ pl gn w72) ?_
          intro w76 a77 hn he77
          have hH76 := hH72.call hn
          replace hD := (hD).new hn
          clear he75 a75 hH72 hn
          refine lSetF 0 #[Value.int .i64 (pl : Int), Value.int .i64 (gn : Int), Value.slice (some ⟨gb, off, none⟩) (L.set k (l, s)).length c1] (cs := #[Value.int .i64 (pl : Int), Value.int .i64 (gn : Int), Value.slice (some ⟨gb, off, none⟩) (L.set k (l, s)).length c1]) he77 hH76 rfl (wanted_plain rfl _) rfl rfl rfl rfl rfl (by kernel_rfl) (by kernel_rfl) (by kernel_rfl) rfl ?_
          intro w78 a79 hH78 hf he79
          replace hD := hD.setb (i := 0) rfl rfl hf
          replace hH78 : Hp (bare w) [⟨p5, 32, #[Value.int .i64 (pl : Int), Value.int .i64 (gn : Int), Value.slice (some ⟨gb, off, none⟩) (L.set k (l, s)).length c1]⟩, ⟨p3, 35, #[Value.slice B l.length cb, Value.bool s]⟩, ⟨p1, 32, #[Value.int .i64 (pl : Int), Value.int .i64 (gn : Int), Value.slice A L.length c]⟩] w78 := hH78
          clear hf
          clear he77 a77 hH76
          refine lV (Value.int .i64 0) he79 rfl rfl (wanted_plain rfl _) (rn_asg rfl (he79.op rfl) w78) ?_
          intro a80 he80
          clear he79 a79
          refine wpList_nil ?_
          refine then_ok ?_
          refine wp_ret ?_
          try simp only [Exit.then, Exit.inBlock, Exit.noGoto]
          exact ret_rowt rfl he80 rfl rfl (hH78.at (i := 0) rfl) undQ rfl infoQ3 ⟨_, c1, rfl, hD.turned⟩
set_option linter.unusedSimpArgs false in
set_option maxRecDepth 100000 in
set_option maxHeartbeats 1600000 in
theorem rdrop_b (F : FP) (pl gn : Nat) (L : List Ln) (A : Option Addr) (c : Nat) (i : Int) (w : World) (hr : (rdD (.slice A L.length c) L).P w F) (hF : ∀ k, F k → 2 ≤ k ∧ k < w.heap.size) (hok : ShOk L pl gn) (hT : Tab w) : Calls Tryd.prog 32 #[Value.agg #[Value.int .i64 (pl : Int), Value.int .i64 (gn : Int), Value.slice A L.length c], .int .i64 i] w fun e w' => ∃ A' c', e = .returned (.tuple #[.agg #[.int .i64 (pl : Int), .int .i64 ((dropS L gn i).2.1 : Int), .slice A' (dropS L gn i).1.length c'], .int .i64 (dropS L gn i).2.2]) ∧ Turned [rdD (.slice A' (dropS L gn i).1.length c') (dropS L gn i).1] F w w' := by
  have hlen := hok.len
  have hp9 := hok.2.1
  have hpg := hok.2.2.1
  refine calls_args (vl := [Value.agg #[Value.int .i64 (pl : Int), Value.int .i64 (gn : Int), Value.slice A L.length c], Value.int .i64 i]) 28 Tryd.func32 rfl Tryd.ntmps32 (by kernel_rfl) (fun a he => ?_)
  have he0 : Env 28 [(0, Value.agg #[Value.int .i64 (pl : Int), Value.int .i64 (gn : Int), Value.slice A L.length c]), (1, Value.int .i64 i)] a := he
  clear he
  have hH := Hp.bare w
  have hD := Dt.begin hT (SepL.one hr) hF
  refine wp_seq ?_
  refine wp_region_lit ?_
  refine lNewP (fun p => .pointer (some ⟨p, 0, none⟩)) he0 hH rfl rfl (wanted_plain rfl _) (rn_boxQ rfl (he0.op rfl) w) ?_
  intro p1 w1 a2 hp hn hH1 he2
  replace hD := hD.cons hn hp (hH1.at (i := 0) rfl).lt
  clear he0 a hH hn hp
  refine lNewP (fun p => .pointer (some ⟨p, 0, none⟩)) he2 hH1 rfl rfl (wanted_plain rfl _) (rn_allocQ rfl w1) ?_
  intro p3 w3 a4 hp hn hH3 he4
  replace hD := hD.cons hn hp (hH3.at (i := 0) rfl).lt
  clear he2 a2 hH1 hn hp
  refine lV (Value.int .i64 0) he4 rfl rfl (wanted_plain rfl _) (rn_asg rfl (he4.op rfl) w3) ?_
  intro a5 he5
  clear he4 a4
  refine wpList_nil ?_
  refine then_ok ?_
  by_cases h0 : i < 0
  · skip
    refine wp_seq ?_
    refine wp_seq ?_
    refine wp_region_lit ?_
    refine lV (Value.int .i64 i) he5 rfl rfl (wanted_plain rfl _) (rn_mv rfl (he5.op rfl) w3) ?_
    intro a6 he6
    clear he5 a5
    refine lV (Value.bool true) he6 rfl rfl (wanted_plain rfl _) (rn_lss rfl (he6.op rfl) (he6.op rfl) (decide_eq_true h0) w3) ?_
    intro a7 he7
    clear he6 a6
    refine lV (Value.bool true) he7 rfl rfl (wanted_plain rfl _) (rn_mv rfl (he7.op rfl) w3) ?_
    intro a8 he8
    clear he7 a7
    refine lSkip he8 rfl rfl (he8.wantNot rfl rfl rfl rfl rfl rfl) ?_
    intro a9 he9
    clear he8 a8
    refine lSkip he9 rfl rfl (he9.wantNot rfl rfl rfl rfl rfl rfl) ?_
    intro a10 he10
    clear he9 a9
    refine lSkip he10 rfl rfl (he10.wantNot rfl rfl rfl rfl rfl rfl) ?_
    intro a11 he11
    clear he10 a10
    refine lSkip he11 rfl rfl (he11.wantNot rfl rfl rfl rfl rfl rfl) ?_
    intro a12 he12
    clear he11 a11
    refine lSkip he12 rfl rfl (he12.wantNot rfl rfl rfl rfl rfl rfl) ?_
    intro a13 he13
    clear he12 a12
    refine lV (Value.bool true) he13 rfl rfl (wanted_plain rfl _) (rn_pk rfl (he13.op rfl) (he13.op rfl) w3) ?_
    intro a14 he14
    clear he13 a13
    refine wpList_nil ?_
    refine then_ok ?_
    refine wp_cond_true (he14.op rfl) ?_
    refine wp_seq ?_
    refine wp_region_lit ?_
    refine lV (Value.agg #[Value.int .i64 (pl : Int), Value.int .i64 (gn : Int), Value.slice A L.length c]) he14 rfl rfl (wanted_plain rfl _) (rn_ldp [Value.int .i64 (pl : Int), Value.int .i64 (gn : Int), Value.slice A L.length c] rfl (he14.op rfl) undQ rfl infoQ3 (hH3.at (i := 1) rfl) rfl) ?_
    intro a15 he15
    clear he14 a14
    refine lSetF 0 #[Value.int .i64 (pl : Int), Value.int .i64 (gn : Int), Value.slice A L.length c] (cs := #[Value.int .i64 (pl : Int), Value.int .i64 (gn : Int), Value.slice A L.length c]) he15 hH3 rfl (wanted_plain rfl _) rfl rfl rfl rfl rfl (by kernel_rfl) (by kernel_rfl) (by kernel_rfl) rfl ?_
    intro w16 a17 hH16 hf he17
    replace hD := hD.setb (i := 0) rfl rfl hf
    replace hH16 : Hp (bare w) [⟨p3, 32, #[Value.int .i64 (pl : Int), Value.int .i64 (gn : Int), Value.slice A L.length c]⟩, ⟨p1, 32, #[Value.int .i64 (pl : Int), Value.int .i64 (gn : Int), Value.slice A L.length c]⟩] w16 := hH16
    clear hf
    clear he15 a15 hH3
    refine lV (Value.int .i64 3) he17 rfl rfl (wanted_plain rfl _) (rn_asg rfl (he17.op rfl) w16) ?_
    intro a18 he18
    clear he17 a17
    refine wpList_nil ?_
    refine then_ok ?_
    have e_ : dropS L gn i = (L, gn, 3) := by unfold dropS; rw [if_neg (by omega)]
    rw [e_]
    refine wp_ret ?_
    try simp only [Exit.then, Exit.inBlock, Exit.noGoto]
    exact ret_rowt rfl he18 rfl rfl (hH16.at (i := 0) rfl) undQ rfl infoQ3 ⟨A, c, rfl, hD.turned⟩
  · skip
    by_cases h1 : (L.length : Nat) < i
    · skip
      refine wp_seq ?_
      refine wp_seq ?_
      refine wp_region_lit ?_
      refine lV (Value.int .i64 i) he5 rfl rfl (wanted_plain rfl _) (rn_mv rfl (he5.op rfl) w3) ?_
      intro a19 he19
      clear he5 a5
      refine lV (Value.bool false) he19 rfl rfl (wanted_plain rfl _) (rn_lss rfl (he19.op rfl) (he19.op rfl) (decide_eq_false h0) w3) ?_
      intro a20 he20
      clear he19 a19
      refine lV (Value.bool false) he20 rfl rfl (wanted_plain rfl _) (rn_mv rfl (he20.op rfl) w3) ?_
      intro a21 he21
      clear he20 a20
      refine lV (Value.int .i64 i) he21 rfl rfl (he21.want rfl rfl rfl rfl rfl) (rn_mv rfl (he21.op rfl) w3) ?_
      intro a22 he22
      clear he21 a21
      refine lV (Value.pointer (some ⟨p1, 2, none⟩)) he22 rfl rfl (he22.want rfl rfl rfl rfl rfl) (rn_faQ2 rfl (he22.op rfl) rfl w3) ?_
      intro a23 he23
      clear he22 a22
      refine lV (Value.slice A L.length c) he23 rfl rfl (he23.want rfl rfl rfl rfl rfl) (rn_ldLs rfl (he23.op rfl) (hH3.at (i := 1) rfl) rfl) ?_
      intro a24 he24
      clear he23 a23
      refine lV (Value.int .i64 (L.length : Nat)) he24 rfl rfl (he24.want rfl rfl rfl rfl rfl) (rn_lenL rfl (he24.op rfl) w3) ?_
      intro a25 he25
      clear he24 a24
      refine lV (Value.bool true) he25 rfl rfl (he25.want rfl rfl rfl rfl rfl) (rn_gtr rfl (he25.op rfl) (he25.op rfl) (decide_eq_true h1) w3) ?_
      intro a26 he26
      clear he25 a25
      refine lV (Value.bool true) he26 rfl rfl (wanted_plain rfl _) (rn_pk0 rfl (he26.op rfl) (he26.op rfl) w3) ?_
      intro a27 he27
      clear he26 a26
      refine wpList_nil ?_
      refine then_ok ?_
      refine wp_cond_true (he27.op rfl) ?_
      refine wp_seq ?_
      refine wp_region_lit ?_
      refine lV (Value.agg #[Value.int .i64 (pl : Int), Value.int .i64 (gn : Int), Value.slice A L.length c]) he27 rfl rfl (wanted_plain rfl _) (rn_ldp [Value.int .i64 (pl : Int), Value.int .i64 (gn : Int), Value.slice A L.length c] rfl (he27.op rfl) undQ rfl infoQ3 (hH3.at (i := 1) rfl) rfl) ?_
      intro a28 he28
      clear he27 a27
      refine lSetF 0 #[Value.int .i64 (pl : Int), Value.int .i64 (gn : Int), Value.slice A L.length c] (cs := #[Value.int .i64 (pl : Int), Value.int .i64 (gn : Int), Value.slice A L.length c]) he28 hH3 rfl (wanted_plain rfl _) rfl rfl rfl rfl rfl (by kernel_rfl) (by kernel_rfl) (by kernel_rfl) rfl ?_
      intro w29 a30 hH29 hf he30
      replace hD := hD.setb (i := 0) rfl rfl hf
      replace hH29 : Hp (bare w) [⟨p3, 32, #[Value.int .i64 (pl : Int), Value.int .i64 (gn : Int), Value.slice A L.length c]⟩, ⟨p1, 32, #[Value.int .i64 (pl : Int), Value.int .i64 (gn : Int), Value.slice A L.length c]⟩] w29 := hH29
      clear hf
      clear he28 a28 hH3
      refine lV (Value.int .i64 3) he30 rfl rfl (wanted_plain rfl _) (rn_asg rfl (he30.op rfl) w29) ?_
      intro a31 he31
      clear he30 a30
      refine wpList_nil ?_
      refine then_ok ?_
      have e_ : dropS L gn i = (L, gn, 3) := by unfold dropS; rw [if_neg (by omega)]
      rw [e_]
      refine wp_ret ?_
      try simp only [Exit.then, Exit.inBlock, Exit.noGoto]
      exact ret_rowt rfl he31 rfl rfl (hH29.at (i := 0) rfl) undQ rfl infoQ3 ⟨A, c, rfl, hD.turned⟩
    · skip
      refine wp_seq ?_
      refine wp_seq ?_
      refine wp_region_lit ?_
      refine lV (Value.int .i64 i) he5 rfl rfl (wanted_plain rfl _) (rn_mv rfl (he5.op rfl) w3) ?_
      intro a32 he32
      clear he5 a5
      refine lV (Value.bool false) he32 rfl rfl (wanted_plain rfl _) (rn_lss rfl (he32.op rfl) (he32.op rfl) (decide_eq_false h0) w3) ?_
      intro a33 he33
      clear he32 a32
      refine lV (Value.bool false) he33 rfl rfl (wanted_plain rfl _) (rn_mv rfl (he33.op rfl) w3) ?_
      intro a34 he34
      clear he33 a33
      refine lV (Value.int .i64 i) he34 rfl rfl (he34.want rfl rfl rfl rfl rfl) (rn_mv rfl (he34.op rfl) w3) ?_
      intro a35 he35
      clear he34 a34
      refine lV (Value.pointer (some ⟨p1, 2, none⟩)) he35 rfl rfl (he35.want rfl rfl rfl rfl rfl) (rn_faQ2 rfl (he35.op rfl) rfl w3) ?_
      intro a36 he36
      clear he35 a35
      refine lV (Value.slice A L.length c) he36 rfl rfl (he36.want rfl rfl rfl rfl rfl) (rn_ldLs rfl (he36.op rfl) (hH3.at (i := 1) rfl) rfl) ?_
      intro a37 he37
      clear he36 a36
      refine lV (Value.int .i64 (L.length : Nat)) he37 rfl rfl (he37.want rfl rfl rfl rfl rfl) (rn_lenL rfl (he37.op rfl) w3) ?_
      intro a38 he38
      clear he37 a37
      refine lV (Value.bool false) he38 rfl rfl (he38.want rfl rfl rfl rfl rfl) (rn_gtr rfl (he38.op rfl) (he38.op rfl) (decide_eq_false h1) w3) ?_
      intro a39 he39
      clear he38 a38
      refine lV (Value.bool false) he39 rfl rfl (wanted_plain rfl _) (rn_pk0 rfl (he39.op rfl) (he39.op rfl) w3) ?_
      intro a40 he40
      clear he39 a39
      refine wpList_nil ?_
      refine then_ok ?_
      refine wp_cond_false (he40.op rfl) ?_
      refine wp_skip ?_
      refine then_ok ?_
      obtain ⟨k, rfl⟩ : ∃ k : Nat, i = k := ⟨i.toNat, by omega⟩
      have hk : k ≤ L.length := by omega
      have e_ : dropS L gn k = (L.drop k, gn + k, 0) := by unfold dropS; rw [if_pos (by omega)]; simp
      rw [e_]
      have he41 : Env 28 [(5, Value.int .i64 0), (4, Value.pointer (some ⟨p3, 0, none⟩)), (2, Value.pointer (some ⟨p1, 0, none⟩)), (0, Value.agg #[Value.int .i64 (pl : Int), Value.int .i64 (gn : Int), Value.slice A L.length c]), (1, Value.int .i64 (k : Int))] a40 := he40.mem ⟨rfl, rfl, rfl, rfl, rfl, trivial⟩
      clear he40
      as_aux_lemma =>
        obtain ⟨b2, xs, hlc, hrd, hD3⟩ := hD.rdS
        clear hD
        have hD := hD3
        clear hD3
        have hxl : xs.length = L.length := hrd.1
        obtain ⟨A2, e2, hr2⟩ := rdg_l hrd hk hlc
        have hl2 : (xs.drop k).length = (L.drop k).length := by simp [hxl]
        refine wp_seq ?_
        refine wp_region_held_drew (S := Hp (bare w) [⟨p1, 32, #[Value.int .i64 (pl : Int), Value.int .i64 (gn : Int), Value.slice A L.length c]⟩]) (by kernel_rfl) ((hH3.drew).drop1 0 rfl) (fun _ => ?_)
        have hn : New w3 (World.drew w3) := (Fr.refl _ _).drew
        replace hD := (hD).new hn
        replace hr2 := hr2.new hn
        clear hn
        have hH42 := hH3.drew
        clear hH3
        generalize World.drew w3 = w42 at *
        refine hV (fuel := 13) (i := 0) (Value.pointer (some ⟨p1, 0, none⟩)) he41 rfl rfl rfl (by kernel_rfl) (by kernel_rfl) (by kernel_rfl) (fun _ _ _ h => h) (wanted_plain rfl _) (fun w' _ => rn_faQ0 rfl (he41.op rfl) rfl w') (hH42.drop1 0 rfl) ?_
        intro a43 he43
        clear he41 a40
        refine hV (fuel := 12) (i := 1) (Value.int .i64 (pl : Int)) he43 rfl rfl rfl (by kernel_rfl) (by kernel_rfl) (by kernel_rfl) (fun _ _ _ h => h) (wanted_plain rfl _) (fun w' hw' => rn_ld1 rfl (he43.op rfl) Tryd.underlying3 (hw'.at (i := 0) rfl) rfl) (hH42.drop1 0 rfl) ?_
        intro a44 he44
        clear he43 a43
        refine hV (fuel := 11) (i := 2) (Value.pointer (some ⟨p1, 1, none⟩)) he44 rfl rfl rfl (by kernel_rfl) (by kernel_rfl) (by kernel_rfl) (fun _ _ _ h => h) (wanted_plain rfl _) (fun w' _ => rn_faQ1 rfl (he44.op rfl) rfl w') (hH42.drop1 0 rfl) ?_
        intro a45 he45
        clear he44 a44
        refine hV (fuel := 10) (i := 3) (Value.int .i64 (gn : Int)) he45 rfl rfl rfl (by kernel_rfl) (by kernel_rfl) (by kernel_rfl) (fun _ _ _ h => h) (wanted_plain rfl _) (fun w' hw' => rn_ld1 rfl (he45.op rfl) Tryd.underlying3 (hw'.at (i := 0) rfl) rfl) (hH42.drop1 0 rfl) ?_
        intro a46 he46
        clear he45 a45
        refine hV (fuel := 9) (i := 4) (Value.int .i64 (k : Int)) he46 rfl rfl rfl (by kernel_rfl) (by kernel_rfl) (by kernel_rfl) (fun _ _ _ h => h) (wanted_plain rfl _) (fun w' _ => rn_mv rfl (he46.op rfl) w') (hH42.drop1 0 rfl) ?_
        intro a47 he47
        clear he46 a46
        refine hV (fuel := 8) (i := 5) (Value.int .i64 ((gn + k : Nat) : Int)) he47 rfl rfl rfl (by kernel_rfl) (by kernel_rfl) (by kernel_rfl) (fun _ _ _ h => h) (wanted_plain rfl _) (fun w' _ => rn_add1 rfl (he47.op rfl) (he47.op rfl) (by rw [IntWalk.i64_in _ ⟨by omega, by omega⟩]; omega) w') (hH42.drop1 0 rfl) ?_
        intro a48 he48
        clear he47 a47
        refine hV (fuel := 7) (i := 6) (Value.pointer (some ⟨p1, 2, none⟩)) he48 rfl rfl rfl (by kernel_rfl) (by kernel_rfl) (by kernel_rfl) (fun _ _ _ h => h) (wanted_plain rfl _) (fun w' _ => rn_faQ2 rfl (he48.op rfl) rfl w') (hH42.drop1 0 rfl) ?_
        intro a49 he49
        clear he48 a48
        refine hV (fuel := 6) (i := 7) (Value.slice A L.length c) he49 rfl rfl rfl (by kernel_rfl) (by kernel_rfl) (by kernel_rfl) (fun _ _ _ h => h) (wanted_plain rfl _) (fun w' hw' => rn_ldLs rfl (he49.op rfl) (hw'.at (i := 0) rfl) rfl) (hH42.drop1 0 rfl) ?_
        intro a50 he50
        clear he49 a49
        refine hV (fuel := 5) (i := 8) (Value.int .i64 (k : Int)) he50 rfl rfl rfl (by kernel_rfl) (by kernel_rfl) (by kernel_rfl) (fun _ _ _ h => h) (wanted_plain rfl _) (fun w' _ => rn_mv rfl (he50.op rfl) w') (hH42.drop1 0 rfl) ?_
        intro a51 he51
        clear he50 a50
        refine hV (fuel := 4) (i := 9) (Value.slice A2 (L.length - k) (c - k)) he51 rfl rfl rfl (by kernel_rfl) (by kernel_rfl) (by kernel_rfl) (fun _ _ _ h => h) (wanted_plain rfl _) (fun w' _ => rg_cutl (R := rL) (k := k) rfl (he51.op rfl) (he51.op rfl) hk e2 w') (hH42.drop1 0 rfl) ?_
        intro a52 he52
        clear he51 a51
        refine hEx (fuel := 3) (i := 10) he52 (by kernel_rfl) rfl rfl rfl (wanted_plain rfl _) (rg_app0 hr2 (by omega) rfl (fun _ => rfl) (he52.op rfl)) ?_
        rintro _ w53 ⟨A1, c1, rfl, ht⟩
        have hD2 := hD.made ht
        have hH53 := hH42.call ht.new
        replace hr2 := hr2.new ht.new
        clear hD
        have hD := hD2
        clear hD2 ht
        refine ⟨(hH53.drop1 0 rfl), ?_⟩
        intro a54 he54
        clear he52 a52 hH42
        refine hV (fuel := 2) (i := 11) (Value.agg #[Value.int .i64 (pl : Int), Value.int .i64 ((gn + k : Nat) : Int), Value.slice A1 (xs.drop k).length c1]) he54 rfl rfl rfl (by kernel_rfl) (by kernel_rfl) (by kernel_rfl) (fun _ _ _ h => h) (wanted_plain rfl _) (fun w' _ => rn_bQ012 rfl (he54.op rfl) (he54.op rfl) (he54.op rfl) w') (hH53.drop1 0 rfl) ?_
        intro a55 he55
        clear he54 a54
        refine hSetV (fuel := 1) (n := 12) 0 #[Value.int .i64 (pl : Int), Value.int .i64 ((gn + k : Nat) : Int), Value.slice A1 (xs.drop k).length c1] (cs := #[Value.int .i64 (pl : Int), Value.int .i64 ((gn + k : Nat) : Int), Value.slice A1 (xs.drop k).length c1]) he55 hH53 (by kernel_rfl) rfl rfl (wanted_plain rfl _) rfl rfl rfl rfl rfl (by kernel_rfl) (by kernel_rfl) (by kernel_rfl) rfl ?_
        intro w56 a57 hH56 hf he57
        replace hD := hD.setb (i := 0) rfl rfl hf
        replace hH56 : Hp (bare w) [⟨p3, 32, #[Value.int .i64 (pl : Int), Value.int .i64 ((gn + k : Nat) : Int), Value.slice A1 (xs.drop k).length c1]⟩, ⟨p1, 32, #[Value.int .i64 (pl : Int), Value.int .i64 (gn : Int), Value.slice A L.length c]⟩] w56 := hH56
        refine ⟨(hH56.drop1 0 rfl), ?_⟩
        clear hf
        clear he55 a55 hH53
        refine hV (fuel := 0) (i := 13) (Value.int .i64 0) he57 rfl rfl rfl (by kernel_rfl) (by kernel_rfl) (by kernel_rfl) (fun _ _ _ h => h) (wanted_plain rfl _) (fun w' _ => rn_asg rfl (he57.op rfl) w') (hH56.drop1 0 rfl) ?_
        intro a58 he58
        clear he57 a57
        refine wpAnyH_done (by kernel_rfl) ?_ _
        refine then_ok ?_
        have hBe := hH56.at (i := 0) rfl
        simp only at hBe
        rw [hl2] at hBe hD
        replace hD := hD.pick 1 rfl
        replace hD := Dt.front (A := [rdX xs L]) (B := [rdX (xs.drop k) (L.drop k)]) (D := [rowD (.slice A1 (L.drop k).length c1) (xs.drop k)]) hD (fun G h => SepL.one (d := rdX _ _) (rdX_drop h.the k))
        replace hD := hD.pick 1 rfl
        replace hD := Dt.front (A := [rowD (.slice A1 (L.drop k).length c1) (xs.drop k), rdX (xs.drop k) (L.drop k)]) (B := [rdD (.slice A1 (L.drop k).length c1) (L.drop k)]) (D := []) hD (fun G h => rd_shut h)
        refine wp_ret ?_
        try simp only [Exit.then, Exit.inBlock, Exit.noGoto]
        exact ret_rowt rfl he58 rfl rfl hBe undQ rfl infoQ3 ⟨A1, c1, rfl, hD.turned⟩
set_option linter.unusedSimpArgs false in
set_option maxRecDepth 100000 in
set_option maxHeartbeats 1600000 in
theorem rpop_b (F : FP) (pl gn : Nat) (L : List Ln) (A : Option Addr) (c : Nat)  (w : World) (hr : (rdD (.slice A L.length c) L).P w F) (hF : ∀ k, F k → 2 ≤ k ∧ k < w.heap.size) (hok : ShOk L pl gn) (hT : Tab w) : Calls Tryd.prog 33 #[Value.agg #[Value.int .i64 (pl : Int), Value.int .i64 (gn : Int), Value.slice A L.length c]] w fun e w' => ∃ A' c' B d, e = .returned (.tuple #[.agg #[.int .i64 (pl : Int), .int .i64 (gn : Int), .slice A' (popS L).1.length c'], .agg #[.slice B (popS L).2.1.1.length d, .bool (popS L).2.1.2], .int .i64 (popS L).2.2]) ∧ Turned [andD (rdD (.slice A' (popS L).1.length c') (popS L).1) (slD (.slice B (popS L).2.1.1.length d) (popS L).2.1.1)] F w w' := by
  have hlen := hok.len
  have hp9 := hok.2.1
  have hpg := hok.2.2.1
  refine calls_args (vl := [Value.agg #[Value.int .i64 (pl : Int), Value.int .i64 (gn : Int), Value.slice A L.length c]]) 27 Tryd.func33 rfl Tryd.ntmps33 (by kernel_rfl) (fun a he => ?_)
  have he0 : Env 27 [(0, Value.agg #[Value.int .i64 (pl : Int), Value.int .i64 (gn : Int), Value.slice A L.length c])] a := he
  clear he
  have hH := Hp.bare w
  have hD := Dt.begin hT (SepL.one hr) hF
  refine wp_seq ?_
  refine wp_region_lit ?_
  refine lNewP (fun p => .pointer (some ⟨p, 0, none⟩)) he0 hH rfl rfl (wanted_plain rfl _) (rn_boxQ rfl (he0.op rfl) w) ?_
  intro p1 w1 a2 hp hn hH1 he2
  replace hD := hD.cons hn hp (hH1.at (i := 0) rfl).lt
  clear he0 a hH hn hp
  refine lNewP (fun p => .pointer (some ⟨p, 0, none⟩)) he2 hH1 rfl rfl (wanted_plain rfl _) (rn_allocQ rfl w1) ?_
  intro p3 w3 a4 hp hn hH3 he4
  replace hD := hD.cons hn hp (hH3.at (i := 0) rfl).lt
  clear he2 a2 hH1 hn hp
  refine lNewP (fun p => .pointer (some ⟨p, 0, none⟩)) he4 hH3 rfl rfl (wanted_plain rfl _) (rn_allocL rfl w3) ?_
  intro p5 w5 a6 hp hn hH5 he6
  replace hD := hD.cons hn hp (hH5.at (i := 0) rfl).lt
  clear he4 a4 hH3 hn hp
  refine lV (Value.int .i64 0) he6 rfl rfl (wanted_plain rfl _) (rn_asg rfl (he6.op rfl) w5) ?_
  intro a7 he7
  clear he6 a6
  refine wpList_nil ?_
  refine then_ok ?_
  refine wp_seq ?_
  refine wp_region_lit ?_
  refine lV (Value.pointer (some ⟨p1, 2, none⟩)) he7 rfl rfl (wanted_plain rfl _) (rn_faQ2 rfl (he7.op rfl) rfl w5) ?_
  intro a8 he8
  clear he7 a7
  refine lV (Value.slice A L.length c) he8 rfl rfl (wanted_plain rfl _) (rn_ldLs rfl (he8.op rfl) (hH5.at (i := 2) rfl) rfl) ?_
  intro a9 he9
  clear he8 a8
  refine lV (Value.int .i64 (L.length : Nat)) he9 rfl rfl (wanted_plain rfl _) (rn_lenL rfl (he9.op rfl) w5) ?_
  intro a10 he10
  clear he9 a9
  refine lV (Value.int .i64 (L.length : Nat)) he10 rfl rfl (wanted_plain rfl _) (rn_asg rfl (he10.op rfl) w5) ?_
  intro a11 he11
  clear he10 a10
  refine wpList_nil ?_
  refine then_ok ?_
  by_cases h0 : L.length = 0
  · skip
    refine wp_seq ?_
    refine wp_seq ?_
    refine wp_region_lit ?_
    refine lV (Value.int .i64 (L.length : Nat)) he11 rfl rfl (wanted_plain rfl _) (rn_mv rfl (he11.op rfl) w5) ?_
    intro a12 he12
    clear he11 a11
    refine lV (Value.bool true) he12 rfl rfl (wanted_plain rfl _) (rn_eqI rfl (he12.op rfl) (he12.op rfl) (by simp [h0]) w5) ?_
    intro a13 he13
    clear he12 a12
    refine wpList_nil ?_
    refine then_ok ?_
    refine wp_cond_true (he13.op rfl) ?_
    refine wp_seq ?_
    refine wp_region_lit ?_
    refine lV (Value.agg #[Value.int .i64 (pl : Int), Value.int .i64 (gn : Int), Value.slice A L.length c]) he13 rfl rfl (wanted_plain rfl _) (rn_ldp [Value.int .i64 (pl : Int), Value.int .i64 (gn : Int), Value.slice A L.length c] rfl (he13.op rfl) undQ rfl infoQ3 (hH5.at (i := 2) rfl) rfl) ?_
    intro a14 he14
    clear he13 a13
    refine lV (Value.agg #[Value.slice none 0 0, Value.bool false]) he14 rfl rfl (wanted_plain rfl _) (rn_bL rfl  w5) ?_
    intro a15 he15
    clear he14 a14
    refine lSetF 1 #[Value.int .i64 (pl : Int), Value.int .i64 (gn : Int), Value.slice A L.length c] (cs := #[Value.int .i64 (pl : Int), Value.int .i64 (gn : Int), Value.slice A L.length c]) he15 hH5 rfl (wanted_plain rfl _) rfl rfl rfl rfl rfl (by kernel_rfl) (by kernel_rfl) (by kernel_rfl) rfl ?_
    intro w16 a17 hH16 hf he17
    replace hD := hD.setb (i := 1) rfl rfl hf
    replace hH16 : Hp (bare w) [⟨p5, 35, #[Value.slice none 0 0, Value.bool false]⟩, ⟨p3, 32, #[Value.int .i64 (pl : Int), Value.int .i64 (gn : Int), Value.slice A L.length c]⟩, ⟨p1, 32, #[Value.int .i64 (pl : Int), Value.int .i64 (gn : Int), Value.slice A L.length c]⟩] w16 := hH16
    clear hf
    clear he15 a15 hH5
    refine lSetF 0 #[Value.slice none 0 0, Value.bool false] (cs := #[Value.slice none 0 0, Value.bool false]) he17 hH16 rfl (wanted_plain rfl _) rfl rfl rfl rfl rfl (by kernel_rfl) (by kernel_rfl) (by kernel_rfl) rfl ?_
    intro w18 a19 hH18 hf he19
    replace hD := hD.setb (i := 0) rfl rfl hf
    replace hH18 : Hp (bare w) [⟨p5, 35, #[Value.slice none 0 0, Value.bool false]⟩, ⟨p3, 32, #[Value.int .i64 (pl : Int), Value.int .i64 (gn : Int), Value.slice A L.length c]⟩, ⟨p1, 32, #[Value.int .i64 (pl : Int), Value.int .i64 (gn : Int), Value.slice A L.length c]⟩] w18 := hH18
    clear hf
    clear he17 a17 hH16
    refine lV (Value.int .i64 9) he19 rfl rfl (wanted_plain rfl _) (rn_asg rfl (he19.op rfl) w18) ?_
    intro a20 he20
    clear he19 a19
    refine wpList_nil ?_
    refine then_ok ?_
    have e_ : popS L = (L, zLn, 9) := by simp [popS, h0]
    rw [e_]
    replace hD := Dt.front (A := [rdD (Value.slice A L.length c) L]) (B := [andD (rdD (Value.slice A L.length c) L) (slD (.slice none 0 0) [])]) (D := []) hD (fun G h => SepL.one (d := andD _ _) ⟨h.the, none, 0, 0, rfl, Nat.le_refl _, RdC.nil _ _ _, fun h => absurd h (by simp)⟩)
    refine wp_ret ?_
    try simp only [Exit.then, Exit.inBlock, Exit.noGoto]
    exact ret_cct rfl he20 rfl rfl rfl (hH18.at (i := 1) rfl) undQ rfl infoQ3 (hH18.at (i := 0) rfl) undL rfl infoL2 ⟨A, c, none, 0, rfl, hD.turned⟩
  · skip
    refine wp_seq ?_
    refine wp_seq ?_
    refine wp_region_lit ?_
    refine lV (Value.int .i64 (L.length : Nat)) he11 rfl rfl (wanted_plain rfl _) (rn_mv rfl (he11.op rfl) w5) ?_
    intro a21 he21
    clear he11 a11
    refine lV (Value.bool false) he21 rfl rfl (wanted_plain rfl _) (rn_eqI rfl (he21.op rfl) (he21.op rfl) (by simpa using h0) w5) ?_
    intro a22 he22
    clear he21 a21
    refine wpList_nil ?_
    refine then_ok ?_
    refine wp_cond_false (he22.op rfl) ?_
    refine wp_skip ?_
    refine then_ok ?_
    obtain ⟨k, hk⟩ : ∃ k, L.length = k + 1 := ⟨L.length - 1, by omega⟩
    obtain ⟨m, hLk⟩ : ∃ m, L[k]? = some m := ⟨_, List.getElem?_eq_getElem (by omega)⟩
    have e_ : popS L = (L.take k, m, 0) := by unfold popS; rw [if_neg h0, hk, Nat.add_sub_cancel, List.getD_eq_getElem?_getD, hLk]; rfl
    rw [e_]
    have he23 : Env 27 [(5, Value.int .i64 (L.length : Nat)), (4, Value.int .i64 0), (3, Value.pointer (some ⟨p5, 0, none⟩)), (2, Value.pointer (some ⟨p3, 0, none⟩)), (1, Value.pointer (some ⟨p1, 0, none⟩)), (0, Value.agg #[Value.int .i64 (pl : Int), Value.int .i64 (gn : Int), Value.slice A L.length c])] a22 := he22.mem ⟨rfl, rfl, rfl, rfl, rfl, rfl, trivial⟩
    clear he22
    as_aux_lemma =>
      obtain ⟨b2, xs, hlc, hrd, hD3⟩ := hD.rdA
      clear hD
      have hD := hD3
      clear hD3
      have hxl : xs.length = L.length := hrd.1
      obtain ⟨x, hx⟩ : ∃ x, xs[k]? = some x := ⟨_, List.getElem?_eq_getElem (by omega)⟩
      obtain ⟨hxs, hxf⟩ := (hD.get (i := 0) rfl).choose_spec.2.2 k _ _ hx hLk
      obtain ⟨Ax, cx, hxe⟩ := hxf.sl.shape
      clear hxf
      obtain ⟨xa, xn, xc, xz⟩ := x
      simp only [Value.slice.injEq] at hxe hxs
      obtain ⟨rfl, rfl, rfl⟩ := hxe
      subst hxs
      obtain ⟨oo, eA⟩ := hrd.base (by omega)
      subst eA
      obtain ⟨A2, e2, hr2⟩ := rdg_h (c := c) hrd (k := k) (by omega)
      clear hrd
      have hl2 : (xs.take k).length = (L.take k).length := by simp [hxl]
      refine wp_seq ?_
      have hn : New w5 (World.drew w5) := (Fr.refl _ _).drew
      replace hD := (hD).new hn
      replace hr2 := hr2.new hn
      clear hn
      have hH24 := hH5.drew
      clear hH5
      refine wp_region_held_drew (S := fun W => Hp (bare w) [⟨p1, 32, #[Value.int .i64 (pl : Int), Value.int .i64 (gn : Int), Value.slice (some ⟨b2, oo, none⟩) L.length c]⟩] W ∧ RdG rL W b2 (some ⟨b2, oo, none⟩) L.length xs) (by kernel_rfl) ⟨((hH24.drop1 1 rfl).drop1 0 rfl), (hD.get (i := 0) rfl).choose_spec.1.1⟩ (fun _ => ?_)
      generalize World.drew w5 = w24 at *
      refine hV (fuel := 16) (i := 0) (Value.agg #[Value.int .i64 (pl : Int), Value.int .i64 (gn : Int), Value.slice (some ⟨b2, oo, none⟩) L.length c]) he23 rfl rfl rfl (by kernel_rfl) (by kernel_rfl) (by kernel_rfl) (fun _ _ _ h => h) (wanted_plain rfl _) (fun w' hw' => rn_ldp [Value.int .i64 (pl : Int), Value.int .i64 (gn : Int), Value.slice (some ⟨b2, oo, none⟩) L.length c] rfl (he23.op rfl) undQ rfl infoQ3 (hw'.1.at (i := 0) rfl) rfl) ⟨((hH24.drop1 1 rfl).drop1 0 rfl), (hD.get (i := 0) rfl).choose_spec.1.1⟩ ?_
      intro a25 he25
      clear he23 a22
      refine hV (fuel := 15) (i := 1) (Value.pointer (some ⟨p1, 2, none⟩)) he25 rfl rfl rfl (by kernel_rfl) (by kernel_rfl) (by kernel_rfl) (fun _ _ _ h => h) (wanted_plain rfl _) (fun w' _ => rn_faQ2 rfl (he25.op rfl) rfl w') ⟨((hH24.drop1 1 rfl).drop1 0 rfl), (hD.get (i := 0) rfl).choose_spec.1.1⟩ ?_
      intro a26 he26
      clear he25 a25
      refine hV (fuel := 14) (i := 2) (Value.slice (some ⟨b2, oo, none⟩) L.length c) he26 rfl rfl rfl (by kernel_rfl) (by kernel_rfl) (by kernel_rfl) (fun _ _ _ h => h) (wanted_plain rfl _) (fun w' hw' => rn_ldLs rfl (he26.op rfl) (hw'.1.at (i := 0) rfl) rfl) ⟨((hH24.drop1 1 rfl).drop1 0 rfl), (hD.get (i := 0) rfl).choose_spec.1.1⟩ ?_
      intro a27 he27
      clear he26 a26
      refine hV (fuel := 13) (i := 3) (Value.int .i64 (L.length : Nat)) he27 rfl rfl rfl (by kernel_rfl) (by kernel_rfl) (by kernel_rfl) (fun _ _ _ h => h) (wanted_plain rfl _) (fun w' _ => rn_mv rfl (he27.op rfl) w') ⟨((hH24.drop1 1 rfl).drop1 0 rfl), (hD.get (i := 0) rfl).choose_spec.1.1⟩ ?_
      intro a28 he28
      clear he27 a27
      refine hV (fuel := 12) (i := 4) (Value.int .i64 (k : Int)) he28 rfl rfl rfl (by kernel_rfl) (by kernel_rfl) (by kernel_rfl) (fun _ _ _ h => h) (wanted_plain rfl _) (fun w' _ => rn_subI rfl (he28.op rfl) (he28.op rfl) (by rw [IntWalk.i64_in _ ⟨by omega, by omega⟩]; omega) w') ⟨((hH24.drop1 1 rfl).drop1 0 rfl), (hD.get (i := 0) rfl).choose_spec.1.1⟩ ?_
      intro a29 he29
      clear he28 a28
      refine hV (fuel := 11) (i := 5) (Value.slice A2 k c) he29 rfl rfl rfl (by kernel_rfl) (by kernel_rfl) (by kernel_rfl) (fun _ _ _ h => h) (wanted_plain rfl _) (fun w' _ => rg_cuth (R := rL) (k := k) rfl (he29.op rfl) (he29.op rfl) (by omega) e2 w') ⟨((hH24.drop1 1 rfl).drop1 0 rfl), (hD.get (i := 0) rfl).choose_spec.1.1⟩ ?_
      intro a30 he30
      clear he29 a29
      refine hV (fuel := 10) (i := 8) (Value.pointer (some ⟨p1, 2, none⟩)) he30 rfl rfl rfl (by kernel_rfl) (by kernel_rfl) (by kernel_rfl) (fun _ _ _ h => h) (wanted_plain rfl _) (fun w' _ => rn_faQ2 rfl (he30.op rfl) rfl w') ⟨((hH24.drop1 1 rfl).drop1 0 rfl), (hD.get (i := 0) rfl).choose_spec.1.1⟩ ?_
      intro a31 he31
      clear he30 a30
      refine hV (fuel := 9) (i := 9) (Value.slice (some ⟨b2, oo, none⟩) L.length c) he31 rfl rfl rfl (by kernel_rfl) (by kernel_rfl) (by kernel_rfl) (fun _ _ _ h => h) (wanted_plain rfl _) (fun w' hw' => rn_ldLs rfl (he31.op rfl) (hw'.1.at (i := 0) rfl) rfl) ⟨((hH24.drop1 1 rfl).drop1 0 rfl), (hD.get (i := 0) rfl).choose_spec.1.1⟩ ?_
      intro a32 he32
      clear he31 a31
      refine hV (fuel := 8) (i := 10) (Value.int .i64 (L.length : Nat)) he32 rfl rfl rfl (by kernel_rfl) (by kernel_rfl) (by kernel_rfl) (fun _ _ _ h => h) (wanted_plain rfl _) (fun w' _ => rn_mv rfl (he32.op rfl) w') ⟨((hH24.drop1 1 rfl).drop1 0 rfl), (hD.get (i := 0) rfl).choose_spec.1.1⟩ ?_
      intro a33 he33
      clear he32 a32
      refine hV (fuel := 7) (i := 11) (Value.int .i64 (k : Int)) he33 rfl rfl rfl (by kernel_rfl) (by kernel_rfl) (by kernel_rfl) (fun _ _ _ h => h) (wanted_plain rfl _) (fun w' _ => rn_subI rfl (he33.op rfl) (he33.op rfl) (by rw [IntWalk.i64_in _ ⟨by omega, by omega⟩]; omega) w') ⟨((hH24.drop1 1 rfl).drop1 0 rfl), (hD.get (i := 0) rfl).choose_spec.1.1⟩ ?_
      intro a34 he34
      clear he33 a33
      refine hV (fuel := 6) (i := 12) (Value.pointer (some ⟨b2, oo + k * 2, none⟩)) he34 rfl rfl rfl (by kernel_rfl) (by kernel_rfl) (by kernel_rfl) (fun _ _ _ h => h) (wanted_plain rfl _) (fun w' _ => rn_idxL (i := k) rfl (he34.op rfl) (he34.op rfl) (by omega) (by rw [addr_add]) w') ⟨((hH24.drop1 1 rfl).drop1 0 rfl), (hD.get (i := 0) rfl).choose_spec.1.1⟩ ?_
      intro a35 he35
      clear he34 a34
      refine hV (fuel := 5) (i := 13) (Value.agg #[Value.slice xa m.1.length xc, Value.bool m.2]) he35 rfl rfl rfl (by kernel_rfl) (by kernel_rfl) (by kernel_rfl) (fun _ _ _ h => h) (wanted_plain rfl _) (fun w' hw' => rn_ldLn (i := k) rfl (he35.op rfl) hw'.2 rfl hx) ⟨((hH24.drop1 1 rfl).drop1 0 rfl), (hD.get (i := 0) rfl).choose_spec.1.1⟩ ?_
      intro a36 he36
      clear he35 a35
      refine hEx (fuel := 4) (i := 6) he36 (by kernel_rfl) rfl rfl rfl (wanted_plain rfl _) (rg_app0 hr2 (by omega) rfl (fun _ => rfl) (he36.op rfl)) ?_
      rintro _ w37 ⟨A1, c1, rfl, ht⟩
      have hD2 := hD.made ht
      have hH37 := hH24.call ht.new
      replace hr2 := hr2.new ht.new
      clear hD
      have hD := hD2
      clear hD2 ht
      refine ⟨⟨((hH37.drop1 1 rfl).drop1 0 rfl), (hD.get (i := 1) rfl).choose_spec.1.1⟩, ?_⟩
      intro a38 he38
      clear he36 a36 hH24
      refine hC (fuel := 3) (i := 7) he38 (by kernel_rfl) rfl rfl rfl Tryd.func42 (by kernel_rfl) rfl rfl (wanted_plain rfl _) rfl (with_b _ A1 L.length c (xs.take k).length c1 pl gn w37) ?_
      rintro _ w39 ⟨rfl, hn⟩
      have hH39 := hH37.call hn
      replace hD := (hD).new hn
      replace hr2 := hr2.new hn
      refine ⟨_, rfl, ⟨((hH39.drop1 1 rfl).drop1 0 rfl), (hD.get (i := 1) rfl).choose_spec.1.1⟩, ?_⟩
      intro a40 he40
      clear he38 a38 hH37 hn
      refine hSetV (fuel := 2) (n := 14) 1 #[Value.int .i64 (pl : Int), Value.int .i64 (gn : Int), Value.slice A1 (xs.take k).length c1] (cs := #[Value.int .i64 (pl : Int), Value.int .i64 (gn : Int), Value.slice A1 (xs.take k).length c1]) he40 hH39 (by kernel_rfl) rfl rfl (wanted_plain rfl _) rfl rfl rfl rfl rfl (by kernel_rfl) (by kernel_rfl) (by kernel_rfl) rfl ?_
      intro w41 a42 hH41 hf he42
      replace hD := hD.setb (i := 1) rfl rfl hf
      replace hH41 : Hp (bare w) [⟨p5, 35, #[Value.slice none 0 0, Value.bool false]⟩, ⟨p3, 32, #[Value.int .i64 (pl : Int), Value.int .i64 (gn : Int), Value.slice A1 (xs.take k).length c1]⟩, ⟨p1, 32, #[Value.int .i64 (pl : Int), Value.int .i64 (gn : Int), Value.slice (some ⟨b2, oo, none⟩) L.length c]⟩] w41 := hH41
      refine ⟨⟨((hH41.drop1 1 rfl).drop1 0 rfl), (hD.get (i := 1) rfl).choose_spec.1.1⟩, ?_⟩
      clear hf
      clear he40 a40 hH39
      refine hSetV (fuel := 1) (n := 15) 0 #[Value.slice xa m.1.length xc, Value.bool m.2] (cs := #[Value.slice xa m.1.length xc, Value.bool m.2]) he42 hH41 (by kernel_rfl) rfl rfl (wanted_plain rfl _) rfl rfl rfl rfl rfl (by kernel_rfl) (by kernel_rfl) (by kernel_rfl) rfl ?_
      intro w43 a44 hH43 hf he44
      replace hD := hD.setb (i := 0) rfl rfl hf
      replace hH43 : Hp (bare w) [⟨p5, 35, #[Value.slice xa m.1.length xc, Value.bool m.2]⟩, ⟨p3, 32, #[Value.int .i64 (pl : Int), Value.int .i64 (gn : Int), Value.slice A1 (xs.take k).length c1]⟩, ⟨p1, 32, #[Value.int .i64 (pl : Int), Value.int .i64 (gn : Int), Value.slice (some ⟨b2, oo, none⟩) L.length c]⟩] w43 := hH43
      refine ⟨⟨((hH43.drop1 1 rfl).drop1 0 rfl), (hD.get (i := 1) rfl).choose_spec.1.1⟩, ?_⟩
      clear hf
      clear he42 a42 hH41
      refine hV (fuel := 0) (i := 16) (Value.int .i64 0) he44 rfl rfl rfl (by kernel_rfl) (by kernel_rfl) (by kernel_rfl) (fun _ _ _ h => h) (wanted_plain rfl _) (fun w' _ => rn_asg rfl (he44.op rfl) w') ⟨((hH43.drop1 1 rfl).drop1 0 rfl), (hD.get (i := 1) rfl).choose_spec.1.1⟩ ?_
      intro a45 he45
      clear he44 a44
      refine wpAnyH_done (by kernel_rfl) ?_ _
      refine then_ok ?_
      have hBe := hH43.at (i := 1) rfl
      simp only at hBe
      rw [hl2] at hBe hD
      replace hD := Dt.front (A := [rowD (.slice A1 (L.take k).length c1) (xs.take k), andD (arrD b2 (some ⟨b2, oo, none⟩) L.length xs) (rdX xs L)]) (B := [andD (rdD (.slice A1 (L.take k).length c1) (L.take k)) (slD (.slice xa m.1.length xc) m.1)]) (D := []) hD (fun G h => SepL.one (d := andD _ _) ⟨(rd_shut (xs := xs.take k) (by obtain ⟨X_, Y_, h1, h2, h3, h4, h5⟩ := h; exact ⟨X_, Y_, h1, SepL.one (d := rdX _ _) (rdX_take h2.the.2 k), h3, h4, h5⟩)).the, by obtain ⟨X_, Y_, h1, h2, h3, h4, h5⟩ := h; exact (h2.the.2.2 k _ _ hx hLk).2.up h5⟩)
      refine wp_ret ?_
      try simp only [Exit.then, Exit.inBlock, Exit.noGoto]
      exact ret_cct rfl he45 rfl rfl rfl hBe undQ rfl infoQ3 (hH43.at (i := 0) rfl) undL rfl infoL2 ⟨A1, c1, xa, xc, rfl, hD.turned⟩
end Go.Proofs.YtjnghaoboopflaaDoor
