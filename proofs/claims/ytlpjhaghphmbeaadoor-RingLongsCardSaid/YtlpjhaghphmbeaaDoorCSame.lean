/-
  Lists of cells compared.
-/
import Derived.Test.YtlpjhaghphmbeaaDoorA6
namespace Go.Proofs.YtlpjhaghphmbeaaDoor
open Go.RowKit

set_option linter.unusedSimpArgs false in
set_option maxRecDepth 100000 in
set_option maxHeartbeats 1600000 in
theorem RSame_any (la lb : List Ce) (na nb ba bb ca cb : Nat) (A B : Option Addr) (w : World) (ha : RdC w ba A na la) (hb : RdC w bb B nb lb) (la1 : na ≤ 1000000) (lb1 : nb ≤ 1000000) :
    Calls Tryd.prog 50 #[.slice A na ca, .slice B nb cb] w fun e w' => e = .returned (.bool (decide (la = lb))) ∧ New w w' := by
  have l1 := ha.1
  have l2 := hb.1
  refine calls_args (vl := [.slice A na ca, .slice B nb cb]) 26 Tryd.func50 rfl Tryd.ntmps50 (by kernel_rfl) (fun a he => ?_)
  have he0 : Env 26 [(0, .slice A na ca), (1, .slice B nb cb)] a := he
  clear he
  have hH := Hp.start w
  refine wp_seq (wp_region_lit ?_)
  refine lW (.bool false) he0 rfl (rn_asg rfl (he0.op rfl) w) ?_
  intro a1 he1
  clear he0 a
  refine wpList_nil (then_ok ?_)
  by_cases hn : na = nb
  · skip
    subst hn
    refine wp_seq ?_
    refine wp_seq (wp_region_lit ?_)
    refine lW (.slice A na ca) he1 rfl (rn_mv rfl (he1.op rfl) w) ?_
    intro a2 he2
    clear he1 a1
    refine lW (.int .i64 na) he2 rfl (rn_lenC rfl (he2.op rfl) w) ?_
    intro a3 he3
    clear he2 a2
    refine lW (.slice B na cb) he3 rfl (rn_mv rfl (he3.op rfl) w) ?_
    intro a4 he4
    clear he3 a3
    refine lW (.int .i64 na) he4 rfl (rn_lenC rfl (he4.op rfl) w) ?_
    intro a5 he5
    clear he4 a4
    refine lW (.bool false) he5 rfl (rn_neI rfl (he5.op rfl) (he5.op rfl) (by simp) w) ?_
    intro a6 he6
    clear he5 a5
    refine wpList_nil (then_ok ?_)
    refine wp_cond_false (he6.op rfl) ?_
    refine wp_skip ?_
    refine then_ok ?_
    refine wp_seq ?_
    refine wp_seq (wp_region_lit ?_)
    refine lW (.int .i64 0) he6 rfl (rn_asg rfl (he6.op rfl) w) ?_
    intro a7 he7
    clear he6 a6
    refine wpList_nil (then_ok ?_)
    refine wp_block ?_
    refine loop_nat (fun q a w' => ∃ (k : Nat), q = na - k ∧ k ≤ na ∧ Env 26 [(0, .slice A na ca), (1, .slice B na cb), (5, .int .i64 k)] a ∧ Hp w [] w' ∧ la.take k = lb.take k) na ⟨0, by omega, by omega, he7.mem ⟨rfl, rfl, rfl, trivial⟩, hH, rfl⟩ ?_
    clear he7 hH
    rintro q a8 w8 ⟨k, rfl, hk, he8, hH8, ht⟩
    as_aux_lemma =>
      by_cases hkn : k < na
      · skip
        refine wp_seq ?_
        refine wp_seq (wp_region_lit ?_)
        refine lW (.int .i64 k) he8 rfl (rn_mv rfl (he8.op rfl) w8) ?_
        intro a9 he9
        clear he8 a8
        refine lW (.slice A na ca) he9 rfl (rn_mv rfl (he9.op rfl) w8) ?_
        intro a10 he10
        clear he9 a9
        refine lW (.int .i64 na) he10 rfl (rn_lenC rfl (he10.op rfl) w8) ?_
        intro a11 he11
        clear he10 a10
        refine lW (.bool true) he11 rfl (rn_lss rfl (he11.op rfl) (he11.op rfl) (decide_eq_true (by omega)) w8) ?_
        intro a12 he12
        clear he11 a11
        refine wpList_nil (then_ok ?_)
        refine wp_cond_true (he12.op rfl) ?_
        refine wp_skip ?_
        refine then_ok ?_
        obtain ⟨oa, rfl⟩ := ha.base (by omega)
        obtain ⟨ob, rfl⟩ := hb.base (by omega)
        obtain ⟨x, hx⟩ : ∃ c, la[k]? = some c := ⟨_, List.getElem?_eq_getElem (by have := ha.1; omega)⟩
        obtain ⟨y, hy⟩ : ∃ c, lb[k]? = some c := ⟨_, List.getElem?_eq_getElem (by have := hb.1; omega)⟩
        obtain ⟨c, hc⟩ : ∃ c, (!decide (x = y)) = c := ⟨_, rfl⟩
        refine wp_seq ?_
        refine wp_block ?_
        refine wp_seq ?_
        refine wp_region_held_drew (S := Hp w []) (by kernel_rfl) (hH8.drew) (fun _ => ?_)
        have hn : New w8 (World.drew w8) := (Fr.refl _ _).drew
        clear hn
        have hH13 := hH8.drew
        clear hH8
        generalize World.drew w8 = w13 at *
        refine hW (fuel := 8) (i := 0) (.slice (some ⟨ba, oa, none⟩) na ca) he12 rfl (by kernel_rfl) (fun _ _ _ h => h) (fun w' _ => rn_mv rfl (he12.op rfl) w') hH13 ?_
        intro a14 he14
        clear he12 a12
        refine hW (fuel := 7) (i := 1) (.int .i64 k) he14 rfl (by kernel_rfl) (fun _ _ _ h => h) (fun w' _ => rn_mv rfl (he14.op rfl) w') hH13 ?_
        intro a15 he15
        clear he14 a14
        refine hW (fuel := 6) (i := 2) (.pointer (some ⟨ba, oa + k * 16, none⟩)) he15 rfl (by kernel_rfl) (fun _ _ _ h => h) (fun w' _ => rn_idx (i := k) rfl (he15.op rfl) (he15.op rfl) hkn (by rw [addr_add]) w') hH13 ?_
        intro a16 he16
        clear he15 a15
        refine hW (fuel := 5) (i := 3) (Ce.v x) he16 rfl (by kernel_rfl) (fun _ _ _ h => h) (fun w' hw' => rn_loadM (i := k) rfl (he16.op rfl) (ha.new hw'.new) hkn rfl hx) hH13 ?_
        intro a17 he17
        clear he16 a16
        refine hW (fuel := 4) (i := 4) (.slice (some ⟨bb, ob, none⟩) na cb) he17 rfl (by kernel_rfl) (fun _ _ _ h => h) (fun w' _ => rn_mv rfl (he17.op rfl) w') hH13 ?_
        intro a18 he18
        clear he17 a17
        refine hW (fuel := 3) (i := 5) (.int .i64 k) he18 rfl (by kernel_rfl) (fun _ _ _ h => h) (fun w' _ => rn_mv rfl (he18.op rfl) w') hH13 ?_
        intro a19 he19
        clear he18 a18
        refine hW (fuel := 2) (i := 6) (.pointer (some ⟨bb, ob + k * 16, none⟩)) he19 rfl (by kernel_rfl) (fun _ _ _ h => h) (fun w' _ => rn_idx (i := k) rfl (he19.op rfl) (he19.op rfl) hkn (by rw [addr_add]) w') hH13 ?_
        intro a20 he20
        clear he19 a19
        refine hW (fuel := 1) (i := 7) (Ce.v y) he20 rfl (by kernel_rfl) (fun _ _ _ h => h) (fun w' hw' => rn_loadM (i := k) rfl (he20.op rfl) (hb.new hw'.new) hkn rfl hy) hH13 ?_
        intro a21 he21
        clear he20 a20
        refine hW (fuel := 0) (i := 8) (.bool c) he21 rfl (by kernel_rfl) (fun _ _ _ h => h) (fun w' _ => rn_neC rfl (he21.op rfl) (he21.op rfl) hc w') hH13 ?_
        intro a22 he22
        clear he21 a21
        refine wpAnyH_done (by kernel_rfl) ?_ _
        refine then_ok ?_
        cases c with
        | true =>
          refine wp_cond_true (he22.op rfl) ?_
          refine wp_seq (wp_region_lit ?_)
          refine lW (.bool false) he22 rfl (rn_asg rfl (he22.op rfl) w13) ?_
          intro a23 he23
          clear he22 a22
          refine wpList_nil (then_ok ?_)
          have hne : la ≠ lb := fun e => by subst e; rw [hx] at hy; simp only [Option.some.injEq] at hy; simp [hy] at hc
          refine wp_ret ?_
          try simp only [Exit.then, Exit.inBlock]
          exact ret_env rfl he23 rfl ⟨by rw [decide_eq_false hne], hH13.new⟩
        | false =>
          refine wp_cond_false (he22.op rfl) ?_
          refine wp_skip ?_
          refine block_ok ?_
          refine then_ok ?_
          refine wp_region_lit ?_
          refine lW (.int .i64 k) he22 rfl (rn_mv rfl (he22.op rfl) w13) ?_
          intro a24 he24
          clear he22 a22
          refine lW (.int .i64 ((k + 1 : Nat) : Int)) he24 rfl (rn_add1 rfl (he24.op rfl) (he24.op rfl) (by rw [IntWalk.i64_in _ ⟨by omega, by omega⟩]; rfl) w13) ?_
          intro a25 he25
          clear he24 a24
          refine lW (.int .i64 ((k + 1 : Nat) : Int)) he25 rfl (rn_asg rfl (he25.op rfl) w13) ?_
          intro a26 he26
          clear he25 a25
          refine wpList_nil (then_ok ?_)
          have hxy : x = y := by simpa using hc
          exact ⟨na - (k + 1), by omega, k + 1, rfl, by omega, he26.mem ⟨rfl, rfl, rfl, trivial⟩, hH13, by rw [List.take_add_one, List.take_add_one, hx, hy, ht, hxy]⟩
      refine wp_seq ?_
      refine wp_seq (wp_region_lit ?_)
      refine lW (.int .i64 k) he8 rfl (rn_mv rfl (he8.op rfl) w8) ?_
      intro a27 he27
      clear he8 a8
      refine lW (.slice A na ca) he27 rfl (rn_mv rfl (he27.op rfl) w8) ?_
      intro a28 he28
      clear he27 a27
      refine lW (.int .i64 na) he28 rfl (rn_lenC rfl (he28.op rfl) w8) ?_
      intro a29 he29
      clear he28 a28
      refine lW (.bool false) he29 rfl (rn_lss rfl (he29.op rfl) (he29.op rfl) (decide_eq_false (by omega)) w8) ?_
      intro a30 he30
      clear he29 a29
      refine wpList_nil (then_ok ?_)
      refine wp_cond_false (he30.op rfl) ?_
      refine wp_exit ?_
      simp only [Exit.then, Exit.inBlock, if_true]
      refine wp_seq (wp_region_lit ?_)
      refine lW (.bool true) he30 rfl (rn_asg rfl (he30.op rfl) w8) ?_
      intro a31 he31
      clear he30 a30
      refine wpList_nil (then_ok ?_)
      have hab : la = lb := by rwa [List.take_of_length_le (by omega), List.take_of_length_le (by omega)] at ht
      refine wp_ret ?_
      try simp only [Exit.then, Exit.inBlock]
      exact ret_env rfl he31 rfl ⟨by rw [decide_eq_true hab], hH8.new⟩
  refine wp_seq ?_
  refine wp_seq (wp_region_lit ?_)
  refine lW (.slice A na ca) he1 rfl (rn_mv rfl (he1.op rfl) w) ?_
  intro a32 he32
  clear he1 a1
  refine lW (.int .i64 na) he32 rfl (rn_lenC rfl (he32.op rfl) w) ?_
  intro a33 he33
  clear he32 a32
  refine lW (.slice B nb cb) he33 rfl (rn_mv rfl (he33.op rfl) w) ?_
  intro a34 he34
  clear he33 a33
  refine lW (.int .i64 nb) he34 rfl (rn_lenC rfl (he34.op rfl) w) ?_
  intro a35 he35
  clear he34 a34
  refine lW (.bool true) he35 rfl (rn_neI rfl (he35.op rfl) (he35.op rfl) (by simp only [bne_iff_ne, ne_eq, Int.ofNat_inj]; exact hn) w) ?_
  intro a36 he36
  clear he35 a35
  refine wpList_nil (then_ok ?_)
  refine wp_cond_true (he36.op rfl) ?_
  refine wp_seq (wp_region_lit ?_)
  refine lW (.bool false) he36 rfl (rn_asg rfl (he36.op rfl) w) ?_
  intro a37 he37
  clear he36 a36
  refine wpList_nil (then_ok ?_)
  have hne : la ≠ lb := fun e => hn (by rw [← l1, ← l2, e])
  refine wp_ret ?_
  try simp only [Exit.then, Exit.inBlock]
  exact ret_env rfl he37 rfl ⟨by rw [decide_eq_false hne], hH.new⟩

end Go.Proofs.YtlpjhaghphmbeaaDoor
