/-
  The specification's pages; equal lists of lines.
-/
import Derived.Test.YtlpjhaghphmbeaaDoorSSheetB
namespace Go.Proofs.YtlpjhaghphmbeaaDoor
open Go.RowKit

set_option linter.unusedSimpArgs false in
set_option maxRecDepth 100000 in
set_option maxHeartbeats 1600000 in
theorem all_b (x y : Value) (La Lb : List Ln) (v : Bool) (hv : decide (La = Lb) = v) (ha : ∀ l ∈ La, l.1.length ≤ 1000000) (hb : ∀ l ∈ Lb, l.1.length ≤ 1000000) (hla : La.length ≤ 1000000) (hlb : Lb.length ≤ 1000000) (w : World) (hx : LnsR w x La) (hy : LnsR w y Lb) :
    Calls Tryd.prog 42 #[x, y] w fun e w' => e = .returned (.bool v) ∧ New w w' := by
  subst hv
  obtain ⟨A, ca, ba, xa, rfl, hca, hra, -, hea⟩ := hx
  obtain ⟨B, cb, bb, xb, rfl, hcb, hrb, -, heb⟩ := hy
  refine calls_args (vl := [.slice A La.length ca, .slice B Lb.length cb]) 27 Tryd.func42 rfl Tryd.ntmps42 (by kernel_rfl) (fun a he => ?_)
  have he0 : Env 27 [(0, .slice A La.length ca), (1, .slice B Lb.length cb)] a := he
  clear he
  have hH := Hp.start w
  refine wp_seq (wp_region_lit ?_)
  refine lW (.bool false) he0 rfl (rn_asg rfl (he0.op rfl) w) ?_
  intro a1 he1
  clear he0 a
  refine wpList_nil (then_ok ?_)
  by_cases hl : La.length = Lb.length
  · skip
    refine wp_seq ?_
    refine wp_seq (wp_region_lit ?_)
    refine lW (.slice A La.length ca) he1 rfl (rn_mv rfl (he1.op rfl) w) ?_
    intro a2 he2
    clear he1 a1
    refine lW (.int .i64 La.length) he2 rfl (rn_lenL rfl (he2.op rfl) w) ?_
    intro a3 he3
    clear he2 a2
    refine lW (.slice B Lb.length cb) he3 rfl (rn_mv rfl (he3.op rfl) w) ?_
    intro a4 he4
    clear he3 a3
    refine lW (.int .i64 Lb.length) he4 rfl (rn_lenL rfl (he4.op rfl) w) ?_
    intro a5 he5
    clear he4 a4
    refine lW (.bool false) he5 rfl (rn_neI rfl (he5.op rfl) (he5.op rfl) (by simp [hl]) w) ?_
    intro a6 he6
    clear he5 a5
    refine wpList_nil (then_ok ?_)
    refine wp_cond_false (he6.op rfl) ?_
    refine wp_skip ?_
    refine then_ok ?_
    refine wp_seq ?_
    refine wp_seq (wp_region_lit ?_)
    refine lW (.int .i64 0) he6 rfl (rn_asg rfl (he6.op rfl) w) ?_
    intro a7 he7
    clear he6 a6
    refine wpList_nil (then_ok ?_)
    refine wp_block ?_
    refine loop_nat (fun q a w' => ∃ (k : Nat), q = La.length - k ∧ k ≤ La.length ∧ La.take k = Lb.take k ∧ Env 27 [(0, .slice A La.length ca), (1, .slice B Lb.length cb), (5, .int .i64 k)] a ∧ Hp w [] w') La.length ⟨0, by omega, by omega, by simp, he7.mem ⟨rfl, rfl, rfl, trivial⟩, hH⟩ ?_
    clear he7 hH
    rintro q a8 w8 ⟨k, rfl, hk, heq, he8, hH8⟩
    by_cases hkn : k < La.length
    · skip
      refine wp_seq ?_
      refine wp_seq (wp_region_lit ?_)
      refine lW (.int .i64 k) he8 rfl (rn_mv rfl (he8.op rfl) w8) ?_
      intro a9 he9
      clear he8 a8
      refine lW (.slice A La.length ca) he9 rfl (rn_mv rfl (he9.op rfl) w8) ?_
      intro a10 he10
      clear he9 a9
      refine lW (.int .i64 La.length) he10 rfl (rn_lenL rfl (he10.op rfl) w8) ?_
      intro a11 he11
      clear he10 a10
      refine lW (.bool true) he11 rfl (rn_lss rfl (he11.op rfl) (he11.op rfl) (decide_eq_true (by omega)) w8) ?_
      intro a12 he12
      clear he11 a11
      refine wpList_nil (then_ok ?_)
      refine wp_cond_true (he12.op rfl) ?_
      refine wp_skip ?_
      refine then_ok ?_
      obtain ⟨la, hLla⟩ : ∃ m, La[k]? = some m := ⟨_, List.getElem?_eq_getElem (by omega)⟩
      have hxla := hra.1
      obtain ⟨xla, hXla⟩ : ∃ m, xa[k]? = some m := ⟨_, List.getElem?_eq_getElem (by omega)⟩
      obtain ⟨hsla, hfla⟩ := hea k _ _ hXla hLla
      replace hfla := hfla.sl
      obtain ⟨Ala, cla, ela⟩ := hfla.shape
      obtain ⟨ala, nla, dla, sla⟩ := xla
      simp only [Value.slice.injEq] at ela hsla
      obtain ⟨rfl, rfl, rfl⟩ := ela
      subst hsla
      obtain ⟨lb, hLlb⟩ : ∃ m, Lb[k]? = some m := ⟨_, List.getElem?_eq_getElem (by omega)⟩
      have hxlb := hrb.1
      obtain ⟨xlb, hXlb⟩ : ∃ m, xb[k]? = some m := ⟨_, List.getElem?_eq_getElem (by omega)⟩
      obtain ⟨hslb, hflb⟩ := heb k _ _ hXlb hLlb
      replace hflb := hflb.sl
      obtain ⟨Alb, clb, elb⟩ := hflb.shape
      obtain ⟨alb, nlb, dlb, slb⟩ := xlb
      simp only [Value.slice.injEq] at elb hslb
      obtain ⟨rfl, rfl, rfl⟩ := elb
      subst hslb
      obtain ⟨oa, eA⟩ := hra.base (by omega)
      subst eA
      obtain ⟨ob, eB⟩ := hrb.base (by omega)
      subst eB
      obtain ⟨q, hq⟩ : ∃ q, ((la.2 == lb.2) && decide (la.1 = lb.1)) = q := ⟨_, rfl⟩
      cases q with
      | false =>
        refine wp_seq ?_
        refine wp_block ?_
        refine wp_seq ?_
        refine wp_region_held_drew (S := Hp w []) (by kernel_rfl) (hH8.drew) (fun _ => ?_)
        have hn : New w8 (World.drew w8) := (Fr.refl _ _).drew
        clear hn
        have hH13 := hH8.drew
        clear hH8
        generalize World.drew w8 = w13 at *
        refine hW (fuel := 9) (i := 0) (.slice (some ⟨ba, oa, none⟩) La.length ca) he12 rfl (by kernel_rfl) (fun _ _ _ h => h) (fun w' _ => rn_mv rfl (he12.op rfl) w') hH13 ?_
        intro a14 he14
        clear he12 a12
        refine hW (fuel := 8) (i := 1) (.int .i64 k) he14 rfl (by kernel_rfl) (fun _ _ _ h => h) (fun w' _ => rn_mv rfl (he14.op rfl) w') hH13 ?_
        intro a15 he15
        clear he14 a14
        refine hW (fuel := 7) (i := 2) (.pointer (some ⟨ba, oa + k * 2, none⟩)) he15 rfl (by kernel_rfl) (fun _ _ _ h => h) (fun w' _ => rn_idxL (i := k) rfl (he15.op rfl) (he15.op rfl) (by omega) (by rw [addr_add]) w') hH13 ?_
        intro a16 he16
        clear he15 a15
        refine hW (fuel := 6) (i := 3) (.agg #[.slice ala la.1.length dla, .bool la.2]) he16 rfl (by kernel_rfl) (fun _ _ _ h => h) (fun w' hw' => rn_ldLn (i := k) rfl (he16.op rfl) (hra.new hw'.new) rfl hXla) hH13 ?_
        intro a17 he17
        clear he16 a16
        refine hW (fuel := 5) (i := 4) (.slice (some ⟨bb, ob, none⟩) Lb.length cb) he17 rfl (by kernel_rfl) (fun _ _ _ h => h) (fun w' _ => rn_mv rfl (he17.op rfl) w') hH13 ?_
        intro a18 he18
        clear he17 a17
        refine hW (fuel := 4) (i := 5) (.int .i64 k) he18 rfl (by kernel_rfl) (fun _ _ _ h => h) (fun w' _ => rn_mv rfl (he18.op rfl) w') hH13 ?_
        intro a19 he19
        clear he18 a18
        refine hW (fuel := 3) (i := 6) (.pointer (some ⟨bb, ob + k * 2, none⟩)) he19 rfl (by kernel_rfl) (fun _ _ _ h => h) (fun w' _ => rn_idxL (i := k) rfl (he19.op rfl) (he19.op rfl) (by omega) (by rw [addr_add]) w') hH13 ?_
        intro a20 he20
        clear he19 a19
        refine hW (fuel := 2) (i := 7) (.agg #[.slice alb lb.1.length dlb, .bool lb.2]) he20 rfl (by kernel_rfl) (fun _ _ _ h => h) (fun w' hw' => rn_ldLn (i := k) rfl (he20.op rfl) (hrb.new hw'.new) rfl hXlb) hH13 ?_
        intro a21 he21
        clear he20 a20
        refine hC (fuel := 1) (i := 8) he21 (by kernel_rfl) rfl rfl rfl Tryd.func23 (by kernel_rfl) rfl rfl (wanted_plain rfl _) rfl (same_s _ la.1 la.2 _ lb.1 lb.2 false hq (ha _ (List.mem_of_getElem? hLla)) (hb _ (List.mem_of_getElem? hLlb)) w13 (hfla.new hH13.new) (hflb.new hH13.new)) ?_
        rintro _ w22 ⟨rfl, hn⟩
        have hH22 := hH13.call hn
        refine ⟨_, rfl, hH22, ?_⟩
        intro a23 he23
        clear he21 a21 hH13 hn
        refine hW (fuel := 0) (i := 9) (.bool true) he23 rfl (by kernel_rfl) (fun _ _ _ h => h) (fun w' _ => rn_not (b := false) rfl (he23.op rfl) w') hH22 ?_
        intro a24 he24
        clear he23 a23
        refine wpAnyH_done (by kernel_rfl) ?_ _
        refine then_ok ?_
        refine wp_cond_true (he24.op rfl) ?_
        refine wp_seq (wp_region_lit ?_)
        refine lW (.bool false) he24 rfl (rn_asg rfl (he24.op rfl) w22) ?_
        intro a25 he25
        clear he24 a24
        refine wpList_nil (then_ok ?_)
        have e1 : decide (La = Lb) = false := decide_eq_false (fun h => by subst h; rw [hLla] at hLlb; simp at hLlb; subst hLlb; simp at hq)
        refine wp_ret ?_
        try simp only [Exit.then, Exit.inBlock]
        exact ret_env rfl he25 rfl ⟨by rw [e1], hH22.new⟩
      | true =>
        refine wp_seq ?_
        refine wp_block ?_
        refine wp_seq ?_
        refine wp_region_held_drew (S := Hp w []) (by kernel_rfl) (hH8.drew) (fun _ => ?_)
        have hn : New w8 (World.drew w8) := (Fr.refl _ _).drew
        clear hn
        have hH26 := hH8.drew
        clear hH8
        generalize World.drew w8 = w26 at *
        refine hW (fuel := 9) (i := 0) (.slice (some ⟨ba, oa, none⟩) La.length ca) he12 rfl (by kernel_rfl) (fun _ _ _ h => h) (fun w' _ => rn_mv rfl (he12.op rfl) w') hH26 ?_
        intro a27 he27
        clear he12 a12
        refine hW (fuel := 8) (i := 1) (.int .i64 k) he27 rfl (by kernel_rfl) (fun _ _ _ h => h) (fun w' _ => rn_mv rfl (he27.op rfl) w') hH26 ?_
        intro a28 he28
        clear he27 a27
        refine hW (fuel := 7) (i := 2) (.pointer (some ⟨ba, oa + k * 2, none⟩)) he28 rfl (by kernel_rfl) (fun _ _ _ h => h) (fun w' _ => rn_idxL (i := k) rfl (he28.op rfl) (he28.op rfl) (by omega) (by rw [addr_add]) w') hH26 ?_
        intro a29 he29
        clear he28 a28
        refine hW (fuel := 6) (i := 3) (.agg #[.slice ala la.1.length dla, .bool la.2]) he29 rfl (by kernel_rfl) (fun _ _ _ h => h) (fun w' hw' => rn_ldLn (i := k) rfl (he29.op rfl) (hra.new hw'.new) rfl hXla) hH26 ?_
        intro a30 he30
        clear he29 a29
        refine hW (fuel := 5) (i := 4) (.slice (some ⟨bb, ob, none⟩) Lb.length cb) he30 rfl (by kernel_rfl) (fun _ _ _ h => h) (fun w' _ => rn_mv rfl (he30.op rfl) w') hH26 ?_
        intro a31 he31
        clear he30 a30
        refine hW (fuel := 4) (i := 5) (.int .i64 k) he31 rfl (by kernel_rfl) (fun _ _ _ h => h) (fun w' _ => rn_mv rfl (he31.op rfl) w') hH26 ?_
        intro a32 he32
        clear he31 a31
        refine hW (fuel := 3) (i := 6) (.pointer (some ⟨bb, ob + k * 2, none⟩)) he32 rfl (by kernel_rfl) (fun _ _ _ h => h) (fun w' _ => rn_idxL (i := k) rfl (he32.op rfl) (he32.op rfl) (by omega) (by rw [addr_add]) w') hH26 ?_
        intro a33 he33
        clear he32 a32
        refine hW (fuel := 2) (i := 7) (.agg #[.slice alb lb.1.length dlb, .bool lb.2]) he33 rfl (by kernel_rfl) (fun _ _ _ h => h) (fun w' hw' => rn_ldLn (i := k) rfl (he33.op rfl) (hrb.new hw'.new) rfl hXlb) hH26 ?_
        intro a34 he34
        clear he33 a33
        refine hC (fuel := 1) (i := 8) he34 (by kernel_rfl) rfl rfl rfl Tryd.func23 (by kernel_rfl) rfl rfl (wanted_plain rfl _) rfl (same_s _ la.1 la.2 _ lb.1 lb.2 true hq (ha _ (List.mem_of_getElem? hLla)) (hb _ (List.mem_of_getElem? hLlb)) w26 (hfla.new hH26.new) (hflb.new hH26.new)) ?_
        rintro _ w35 ⟨rfl, hn⟩
        have hH35 := hH26.call hn
        refine ⟨_, rfl, hH35, ?_⟩
        intro a36 he36
        clear he34 a34 hH26 hn
        refine hW (fuel := 0) (i := 9) (.bool false) he36 rfl (by kernel_rfl) (fun _ _ _ h => h) (fun w' _ => rn_not (b := true) rfl (he36.op rfl) w') hH35 ?_
        intro a37 he37
        clear he36 a36
        refine wpAnyH_done (by kernel_rfl) ?_ _
        refine then_ok ?_
        refine wp_cond_false (he37.op rfl) ?_
        refine wp_skip ?_
        refine block_ok ?_
        refine then_ok ?_
        simp only [Bool.and_eq_true, beq_iff_eq, decide_eq_true_eq] at hq
        have elm : la = lb := Prod.ext hq.2 hq.1
        refine wp_region_lit ?_
        refine lW (.int .i64 k) he37 rfl (rn_mv rfl (he37.op rfl) w35) ?_
        intro a38 he38
        clear he37 a37
        refine lW (.int .i64 ((k + 1 : Nat) : Int)) he38 rfl (rn_add1 rfl (he38.op rfl) (he38.op rfl) (by rw [IntWalk.i64_in _ ⟨by omega, by omega⟩]; omega) w35) ?_
        intro a39 he39
        clear he38 a38
        refine lW (.int .i64 ((k + 1 : Nat) : Int)) he39 rfl (rn_asg rfl (he39.op rfl) w35) ?_
        intro a40 he40
        clear he39 a39
        refine wpList_nil (then_ok ?_)
        have e2 : La.take (k + 1) = Lb.take (k + 1) := by rw [List.take_add_one, List.take_add_one, heq, hLla, hLlb, elm]
        exact ⟨La.length - (k + 1), by omega, k + 1, rfl, by omega, e2, he40.mem ⟨rfl, rfl, rfl, trivial⟩, hH35⟩
    refine wp_seq ?_
    refine wp_seq (wp_region_lit ?_)
    refine lW (.int .i64 k) he8 rfl (rn_mv rfl (he8.op rfl) w8) ?_
    intro a41 he41
    clear he8 a8
    refine lW (.slice A La.length ca) he41 rfl (rn_mv rfl (he41.op rfl) w8) ?_
    intro a42 he42
    clear he41 a41
    refine lW (.int .i64 La.length) he42 rfl (rn_lenL rfl (he42.op rfl) w8) ?_
    intro a43 he43
    clear he42 a42
    refine lW (.bool false) he43 rfl (rn_lss rfl (he43.op rfl) (he43.op rfl) (decide_eq_false (by omega)) w8) ?_
    intro a44 he44
    clear he43 a43
    refine wpList_nil (then_ok ?_)
    refine wp_cond_false (he44.op rfl) ?_
    refine wp_exit ?_
    simp only [Exit.then, Exit.inBlock, if_true]
    have e1 : decide (La = Lb) = true := decide_eq_true (by rw [List.take_of_length_le (by omega), List.take_of_length_le (by omega)] at heq; exact heq)
    refine wp_seq (wp_region_lit ?_)
    refine lW (.bool true) he44 rfl (rn_asg rfl (he44.op rfl) w8) ?_
    intro a45 he45
    clear he44 a44
    refine wpList_nil (then_ok ?_)
    refine wp_ret ?_
    try simp only [Exit.then, Exit.inBlock]
    exact ret_env rfl he45 rfl ⟨by rw [e1], hH8.new⟩
  refine wp_seq ?_
  refine wp_seq (wp_region_lit ?_)
  refine lW (.slice A La.length ca) he1 rfl (rn_mv rfl (he1.op rfl) w) ?_
  intro a46 he46
  clear he1 a1
  refine lW (.int .i64 La.length) he46 rfl (rn_lenL rfl (he46.op rfl) w) ?_
  intro a47 he47
  clear he46 a46
  refine lW (.slice B Lb.length cb) he47 rfl (rn_mv rfl (he47.op rfl) w) ?_
  intro a48 he48
  clear he47 a47
  refine lW (.int .i64 Lb.length) he48 rfl (rn_lenL rfl (he48.op rfl) w) ?_
  intro a49 he49
  clear he48 a48
  refine lW (.bool true) he49 rfl (rn_neI rfl (he49.op rfl) (he49.op rfl) (by simp; omega) w) ?_
  intro a50 he50
  clear he49 a49
  refine wpList_nil (then_ok ?_)
  refine wp_cond_true (he50.op rfl) ?_
  refine wp_seq (wp_region_lit ?_)
  refine lW (.bool false) he50 rfl (rn_asg rfl (he50.op rfl) w) ?_
  intro a51 he51
  clear he50 a50
  refine wpList_nil (then_ok ?_)
  have e1 : decide (La = Lb) = false := decide_eq_false (fun h => hl (by rw [h]))
  refine wp_ret ?_
  try simp only [Exit.then, Exit.inBlock]
  exact ret_env rfl he51 rfl ⟨by rw [e1], hH.new⟩
end Go.Proofs.YtlpjhaghphmbeaaDoor
