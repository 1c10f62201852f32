/-
  SheetPlays.
-/
import Derived.Test.YtjnghaoboopflaaDoorSKnown
import Derived.Test.YtjnghaoboopflaaDoorSOpen
namespace Go.Proofs.YtjnghaoboopflaaDoor
open Go.RowKit

def fewB (xs : List AV) : Bool := (xs.take 41).all (fun x => decide (x.n ≤ 20)) && decide (xs.length ≤ 40)
set_option linter.unusedSimpArgs false in
set_option maxRecDepth 100000 in
set_option maxHeartbeats 1600000 in
theorem few_b (xs : List AV) (A : Option Addr) (c b : Nat) (v : Bool) (hv : fewB xs = v) (w : World) (hr : RdG rA w b A xs.length xs) : Calls Tryd.prog 10 #[.slice A xs.length c] w fun e w' => e = .returned (.bool v) ∧ New w w' := by
  subst hv
  refine calls_args (vl := [Value.slice A xs.length c]) 25 Tryd.func10 rfl Tryd.ntmps10 (by kernel_rfl) (fun a he => ?_)
  have he0 : Env 25 [(0, Value.slice A xs.length c)] a := he
  clear he
  have hH := Hp.start w
  refine wp_seq ?_
  refine wp_region_lit ?_
  refine lV (Value.bool false) he0 rfl rfl (wanted_plain rfl _) (rn_asg rfl (he0.op rfl) w) ?_
  intro a1 he1
  clear he0 a
  refine wpList_nil ?_
  refine then_ok ?_
  refine wp_seq ?_
  refine wp_seq ?_
  refine wp_region_lit ?_
  refine lV (Value.int .i64 0) he1 rfl rfl (wanted_plain rfl _) (rn_asg rfl (he1.op rfl) w) ?_
  intro a2 he2
  clear he1 a1
  refine wpList_nil ?_
  refine then_ok ?_
  refine wp_block ?_
  refine loop_nat (fun q a w' => ∃ (k : Nat), q = 41 - k ∧ k ≤ xs.length ∧ k ≤ 41 ∧ (xs.take k).all (fun x => decide (x.n ≤ 20)) = true ∧ Env 25 [(0, Value.slice A xs.length c), (3, Value.int .i64 (k : Int))] a ∧ Hp w [] w') 41 ⟨0, by omega, by omega, by omega, by simp, he2.mem ⟨rfl, rfl, trivial⟩, hH⟩ ?_
  clear he2 hH
  rintro q a3 w3 ⟨k, rfl, hk, hk2, hall, he3, hH3⟩
  by_cases h1 : k < xs.length
  · skip
    by_cases h2 : k < 41
    · skip
      refine wp_seq ?_
      refine wp_seq ?_
      refine wp_region_lit ?_
      refine lV (Value.int .i64 (k : Int)) he3 rfl rfl (wanted_plain rfl _) (rn_mv rfl (he3.op rfl) w3) ?_
      intro a4 he4
      clear he3 a3
      refine lV (Value.slice A xs.length c) he4 rfl rfl (wanted_plain rfl _) (rn_mv rfl (he4.op rfl) w3) ?_
      intro a5 he5
      clear he4 a4
      refine lV (Value.int .i64 (xs.length : Nat)) he5 rfl rfl (wanted_plain rfl _) (rn_lenA rfl (he5.op rfl) w3) ?_
      intro a6 he6
      clear he5 a5
      refine lV (Value.bool true) he6 rfl rfl (wanted_plain rfl _) (rn_lss rfl (he6.op rfl) (he6.op rfl) (decide_eq_true (by omega)) w3) ?_
      intro a7 he7
      clear he6 a6
      refine lV (Value.bool true) he7 rfl rfl (wanted_plain rfl _) (rn_mv rfl (he7.op rfl) w3) ?_
      intro a8 he8
      clear he7 a7
      refine lV (Value.int .i64 (k : Int)) he8 rfl rfl (he8.want rfl rfl rfl rfl rfl) (rn_mv rfl (he8.op rfl) w3) ?_
      intro a9 he9
      clear he8 a8
      refine lV (Value.bool true) he9 rfl rfl (he9.want rfl rfl rfl rfl rfl) (rn_lss rfl (he9.op rfl) (he9.op rfl) (decide_eq_true (by omega)) w3) ?_
      intro a10 he10
      clear he9 a9
      refine lV (Value.bool true) he10 rfl rfl (wanted_plain rfl _) (rn_pk rfl (he10.op rfl) (he10.op rfl) w3) ?_
      intro a11 he11
      clear he10 a10
      refine wpList_nil ?_
      refine then_ok ?_
      refine wp_cond_true (he11.op rfl) ?_
      refine wp_skip ?_
      refine then_ok ?_
      obtain ⟨x, hx⟩ : ∃ x, xs[k]? = some x := ⟨_, List.getElem?_eq_getElem h1⟩
      obtain ⟨oo, eA⟩ := hr.base (by omega)
      subst eA
      by_cases h20 : (20 : Int) < x.n
      · skip
        refine wp_seq ?_
        refine wp_block ?_
        refine wp_seq ?_
        refine wp_region_lit ?_
        refine lV (Value.slice (some ⟨b, oo, none⟩) xs.length c) he11 rfl rfl (wanted_plain rfl _) (rn_mv rfl (he11.op rfl) w3) ?_
        intro a12 he12
        clear he11 a11
        refine lV (Value.int .i64 (k : Int)) he12 rfl rfl (wanted_plain rfl _) (rn_mv rfl (he12.op rfl) w3) ?_
        intro a13 he13
        clear he12 a12
        refine lV (Value.pointer (some ⟨b, oo + k * 4, none⟩)) he13 rfl rfl (wanted_plain rfl _) (rn_idxA (i := k) rfl (he13.op rfl) (he13.op rfl) h1 (by rw [addr_add]) w3) ?_
        intro a14 he14
        clear he13 a13
        refine lV (Value.pointer (some ⟨b, oo + k * 4 + 2, none⟩)) he14 rfl rfl (wanted_plain rfl _) (rn_faA2 rfl (he14.op rfl) rfl w3) ?_
        intro a15 he15
        clear he14 a14
        refine lV (Value.pointer (some ⟨b, oo + k * 4 + 2 + 0, none⟩)) he15 rfl rfl (wanted_plain rfl _) (rn_faL0 rfl (he15.op rfl) rfl w3) ?_
        intro a16 he16
        clear he15 a15
        refine lV (Value.slice x.A x.n x.c) he16 rfl rfl (wanted_plain rfl _) (rn_ldAv2 (i := k) rfl (he16.op rfl) (hr.new hH3.new) rfl hx) ?_
        intro a17 he17
        clear he16 a16
        refine lV (Value.int .i64 (x.n : Nat)) he17 rfl rfl (wanted_plain rfl _) (rn_lenC rfl (he17.op rfl) w3) ?_
        intro a18 he18
        clear he17 a17
        refine lV (Value.bool true) he18 rfl rfl (wanted_plain rfl _) (rn_gtr rfl (he18.op rfl) (he18.op rfl) (decide_eq_true h20) w3) ?_
        intro a19 he19
        clear he18 a18
        refine wpList_nil ?_
        refine then_ok ?_
        refine wp_cond_true (he19.op rfl) ?_
        have e1 : fewB xs = false := by
          unfold fewB; rw [Bool.and_eq_false_iff]; left; rw [List.all_eq_false]; exact ⟨x, List.mem_of_getElem? (i := k) (by rw [List.getElem?_take, if_pos h2]; exact hx), by simp; omega⟩
        refine wp_seq ?_
        refine wp_region_lit ?_
        refine lV (Value.bool false) he19 rfl rfl (wanted_plain rfl _) (rn_asg rfl (he19.op rfl) w3) ?_
        intro a20 he20
        clear he19 a19
        refine wpList_nil ?_
        refine then_ok ?_
        refine wp_ret ?_
        try simp only [Exit.then, Exit.inBlock]
        exact ret_env rfl he20 rfl ⟨by rw [e1], hH3.new⟩
      · skip
        refine wp_seq ?_
        refine wp_block ?_
        refine wp_seq ?_
        refine wp_region_lit ?_
        refine lV (Value.slice (some ⟨b, oo, none⟩) xs.length c) he11 rfl rfl (wanted_plain rfl _) (rn_mv rfl (he11.op rfl) w3) ?_
        intro a21 he21
        clear he11 a11
        refine lV (Value.int .i64 (k : Int)) he21 rfl rfl (wanted_plain rfl _) (rn_mv rfl (he21.op rfl) w3) ?_
        intro a22 he22
        clear he21 a21
        refine lV (Value.pointer (some ⟨b, oo + k * 4, none⟩)) he22 rfl rfl (wanted_plain rfl _) (rn_idxA (i := k) rfl (he22.op rfl) (he22.op rfl) h1 (by rw [addr_add]) w3) ?_
        intro a23 he23
        clear he22 a22
        refine lV (Value.pointer (some ⟨b, oo + k * 4 + 2, none⟩)) he23 rfl rfl (wanted_plain rfl _) (rn_faA2 rfl (he23.op rfl) rfl w3) ?_
        intro a24 he24
        clear he23 a23
        refine lV (Value.pointer (some ⟨b, oo + k * 4 + 2 + 0, none⟩)) he24 rfl rfl (wanted_plain rfl _) (rn_faL0 rfl (he24.op rfl) rfl w3) ?_
        intro a25 he25
        clear he24 a24
        refine lV (Value.slice x.A x.n x.c) he25 rfl rfl (wanted_plain rfl _) (rn_ldAv2 (i := k) rfl (he25.op rfl) (hr.new hH3.new) rfl hx) ?_
        intro a26 he26
        clear he25 a25
        refine lV (Value.int .i64 (x.n : Nat)) he26 rfl rfl (wanted_plain rfl _) (rn_lenC rfl (he26.op rfl) w3) ?_
        intro a27 he27
        clear he26 a26
        refine lV (Value.bool false) he27 rfl rfl (wanted_plain rfl _) (rn_gtr rfl (he27.op rfl) (he27.op rfl) (decide_eq_false h20) w3) ?_
        intro a28 he28
        clear he27 a27
        refine wpList_nil ?_
        refine then_ok ?_
        refine wp_cond_false (he28.op rfl) ?_
        refine wp_skip ?_
        refine block_ok ?_
        refine then_ok ?_
        refine wp_region_lit ?_
        refine lV (Value.int .i64 (k : Int)) he28 rfl rfl (wanted_plain rfl _) (rn_mv rfl (he28.op rfl) w3) ?_
        intro a29 he29
        clear he28 a28
        refine lV (Value.int .i64 ((k + 1 : Nat) : Int)) he29 rfl rfl (wanted_plain rfl _) (rn_add1 rfl (he29.op rfl) (he29.op rfl) (by rw [IntWalk.i64_in _ ⟨by omega, by omega⟩]; omega) w3) ?_
        intro a30 he30
        clear he29 a29
        refine lV (Value.int .i64 ((k + 1 : Nat) : Int)) he30 rfl rfl (wanted_plain rfl _) (rn_asg rfl (he30.op rfl) w3) ?_
        intro a31 he31
        clear he30 a30
        refine wpList_nil ?_
        refine then_ok ?_
        have hall2 : (xs.take (k + 1)).all (fun x => decide (x.n ≤ 20)) = true := by rw [List.take_add_one, hx, List.all_append, hall]; simp; omega
        exact ⟨41 - (k + 1), by omega, k + 1, rfl, by omega, by omega, hall2, he31.mem ⟨rfl, rfl, trivial⟩, hH3⟩
    · skip
      refine wp_seq ?_
      refine wp_seq ?_
      refine wp_region_lit ?_
      refine lV (Value.int .i64 (k : Int)) he3 rfl rfl (wanted_plain rfl _) (rn_mv rfl (he3.op rfl) w3) ?_
      intro a32 he32
      clear he3 a3
      refine lV (Value.slice A xs.length c) he32 rfl rfl (wanted_plain rfl _) (rn_mv rfl (he32.op rfl) w3) ?_
      intro a33 he33
      clear he32 a32
      refine lV (Value.int .i64 (xs.length : Nat)) he33 rfl rfl (wanted_plain rfl _) (rn_lenA rfl (he33.op rfl) w3) ?_
      intro a34 he34
      clear he33 a33
      refine lV (Value.bool true) he34 rfl rfl (wanted_plain rfl _) (rn_lss rfl (he34.op rfl) (he34.op rfl) (decide_eq_true (by omega)) w3) ?_
      intro a35 he35
      clear he34 a34
      refine lV (Value.bool true) he35 rfl rfl (wanted_plain rfl _) (rn_mv rfl (he35.op rfl) w3) ?_
      intro a36 he36
      clear he35 a35
      refine lV (Value.int .i64 (k : Int)) he36 rfl rfl (he36.want rfl rfl rfl rfl rfl) (rn_mv rfl (he36.op rfl) w3) ?_
      intro a37 he37
      clear he36 a36
      refine lV (Value.bool false) he37 rfl rfl (he37.want rfl rfl rfl rfl rfl) (rn_lss rfl (he37.op rfl) (he37.op rfl) (decide_eq_false (by omega)) w3) ?_
      intro a38 he38
      clear he37 a37
      refine lV (Value.bool false) he38 rfl rfl (wanted_plain rfl _) (rn_pk rfl (he38.op rfl) (he38.op rfl) w3) ?_
      intro a39 he39
      clear he38 a38
      refine wpList_nil ?_
      refine then_ok ?_
      refine wp_cond_false (he39.op rfl) ?_
      refine wp_exit ?_
      simp only [Exit.then, Exit.inBlock, if_true]
      refine wp_seq ?_
      refine wp_region_lit ?_
      refine lV (Value.slice A xs.length c) he39 rfl rfl (wanted_plain rfl _) (rn_mv rfl (he39.op rfl) w3) ?_
      intro a40 he40
      clear he39 a39
      refine lV (Value.int .i64 (xs.length : Nat)) he40 rfl rfl (wanted_plain rfl _) (rn_lenA rfl (he40.op rfl) w3) ?_
      intro a41 he41
      clear he40 a40
      refine lV (Value.bool (decide (xs.length ≤ 40))) he41 rfl rfl (wanted_plain rfl _) (rn_leq rfl (he41.op rfl) (he41.op rfl) (by rw [decide_eq_decide]; omega) w3) ?_
      intro a42 he42
      clear he41 a41
      refine lV (Value.bool (decide (xs.length ≤ 40))) he42 rfl rfl (wanted_plain rfl _) (rn_asg rfl (he42.op rfl) w3) ?_
      intro a43 he43
      clear he42 a42
      refine wpList_nil ?_
      refine then_ok ?_
      have e1 : fewB xs = decide (xs.length ≤ 40) := by unfold fewB; rw [show xs.take 41 = xs.take k from by
          rcases (show k = 41 ∨ k = xs.length by omega) with h | h
          · rw [h]
          · rw [List.take_of_length_le (by omega), List.take_of_length_le (by omega)], hall, Bool.true_and]
      refine wp_ret ?_
      try simp only [Exit.then, Exit.inBlock]
      exact ret_env rfl he43 rfl ⟨by rw [e1], hH3.new⟩
  · skip
    refine wp_seq ?_
    refine wp_seq ?_
    refine wp_region_lit ?_
    refine lV (Value.int .i64 (k : Int)) he3 rfl rfl (wanted_plain rfl _) (rn_mv rfl (he3.op rfl) w3) ?_
    intro a44 he44
    clear he3 a3
    refine lV (Value.slice A xs.length c) he44 rfl rfl (wanted_plain rfl _) (rn_mv rfl (he44.op rfl) w3) ?_
    intro a45 he45
    clear he44 a44
    refine lV (Value.int .i64 (xs.length : Nat)) he45 rfl rfl (wanted_plain rfl _) (rn_lenA rfl (he45.op rfl) w3) ?_
    intro a46 he46
    clear he45 a45
    refine lV (Value.bool false) he46 rfl rfl (wanted_plain rfl _) (rn_lss rfl (he46.op rfl) (he46.op rfl) (decide_eq_false (by omega)) w3) ?_
    intro a47 he47
    clear he46 a46
    refine lV (Value.bool false) he47 rfl rfl (wanted_plain rfl _) (rn_mv rfl (he47.op rfl) w3) ?_
    intro a48 he48
    clear he47 a47
    refine lSkip he48 rfl rfl (he48.wantNot rfl rfl rfl rfl rfl rfl) ?_
    intro a49 he49
    clear he48 a48
    refine lSkip he49 rfl rfl (he49.wantNot rfl rfl rfl rfl rfl rfl) ?_
    intro a50 he50
    clear he49 a49
    refine lV (Value.bool false) he50 rfl rfl (wanted_plain rfl _) (rn_pk0 rfl (he50.op rfl) (he50.op rfl) w3) ?_
    intro a51 he51
    clear he50 a50
    refine wpList_nil ?_
    refine then_ok ?_
    refine wp_cond_false (he51.op rfl) ?_
    refine wp_exit ?_
    simp only [Exit.then, Exit.inBlock, if_true]
    refine wp_seq ?_
    refine wp_region_lit ?_
    refine lV (Value.slice A xs.length c) he51 rfl rfl (wanted_plain rfl _) (rn_mv rfl (he51.op rfl) w3) ?_
    intro a52 he52
    clear he51 a51
    refine lV (Value.int .i64 (xs.length : Nat)) he52 rfl rfl (wanted_plain rfl _) (rn_lenA rfl (he52.op rfl) w3) ?_
    intro a53 he53
    clear he52 a52
    refine lV (Value.bool (decide (xs.length ≤ 40))) he53 rfl rfl (wanted_plain rfl _) (rn_leq rfl (he53.op rfl) (he53.op rfl) (by rw [decide_eq_decide]; omega) w3) ?_
    intro a54 he54
    clear he53 a53
    refine lV (Value.bool (decide (xs.length ≤ 40))) he54 rfl rfl (wanted_plain rfl _) (rn_asg rfl (he54.op rfl) w3) ?_
    intro a55 he55
    clear he54 a54
    refine wpList_nil ?_
    refine then_ok ?_
    have e1 : fewB xs = decide (xs.length ≤ 40) := by unfold fewB; rw [show xs.take 41 = xs.take k from by
        rcases (show k = 41 ∨ k = xs.length by omega) with h | h
        · rw [h]
        · rw [List.take_of_length_le (by omega), List.take_of_length_le (by omega)], hall, Bool.true_and]
    refine wp_ret ?_
    try simp only [Exit.then, Exit.inBlock]
    exact ret_env rfl he55 rfl ⟨by rw [e1], hH3.new⟩

set_option linter.unusedSimpArgs false in
set_option maxRecDepth 100000 in
set_option maxHeartbeats 1600000 in
theorem sheetPlays_walk (pl : Int) (A : Option Addr) (c b : Nat) (xs : List AV) (w : World) (hr : RdG rA w b A xs.length xs) (hx : ∀ (i : Nat) (x : AV), xs[i]? = some x → ∃ l, SlC w (.slice x.A x.n x.c) l) (hT : Tab w) :
    Calls Tryd.prog 3 #[.int .i64 pl, .slice A xs.length c] w fun e w' => e = .returned (.bool true) ∧ Below w.heap.size w w' := by
  refine calls_args (vl := [Value.int .i64 pl, Value.slice A xs.length c]) 77 Tryd.func3 rfl Tryd.ntmps3 (by kernel_rfl) (fun a he => ?_)
  have he0 : Env 77 [(0, Value.int .i64 pl), (1, Value.slice A xs.length c)] a := he
  clear he
  have hH := Hp.start w
  have hD := Dt.start hT
  refine wp_seq ?_
  refine wp_region_lit ?_
  refine lV (Value.bool false) he0 rfl rfl (wanted_plain rfl _) (rn_asg rfl (he0.op rfl) w) ?_
  intro a1 he1
  clear he0 a
  refine wpList_nil ?_
  refine then_ok ?_
  by_cases h1 : pl < 1
  · skip
    refine wp_seq ?_
    refine wp_seq ?_
    refine wp_region_lit ?_
    refine lV (Value.int .i64 pl) he1 rfl rfl (wanted_plain rfl _) (rn_mv rfl (he1.op rfl) w) ?_
    intro a2 he2
    clear he1 a1
    refine lV (Value.bool true) he2 rfl rfl (wanted_plain rfl _) (rn_lss rfl (he2.op rfl) (he2.op rfl) (decide_eq_true h1) w) ?_
    intro a3 he3
    clear he2 a2
    refine lV (Value.bool true) he3 rfl rfl (wanted_plain rfl _) (rn_mv rfl (he3.op rfl) w) ?_
    intro a4 he4
    clear he3 a3
    refine lSkip he4 rfl rfl (he4.wantNot rfl rfl rfl rfl rfl rfl) ?_
    intro a5 he5
    clear he4 a4
    refine lSkip he5 rfl rfl (he5.wantNot rfl rfl rfl rfl rfl rfl) ?_
    intro a6 he6
    clear he5 a5
    refine lV (Value.bool true) he6 rfl rfl (wanted_plain rfl _) (rn_pk rfl (he6.op rfl) (he6.op rfl) w) ?_
    intro a7 he7
    clear he6 a6
    refine wpList_nil ?_
    refine then_ok ?_
    refine wp_cond_true (he7.op rfl) ?_
    refine wp_seq ?_
    refine wp_region_lit ?_
    refine lV (Value.int .i64 pl) he7 rfl rfl (wanted_plain rfl _) (rn_mv rfl (he7.op rfl) w) ?_
    intro a8 he8
    clear he7 a7
    refine lC he8 rfl rfl Tryd.func7 (by kernel_rfl) rfl rfl (wanted_plain rfl _) rfl (none_b pl (by omega) w) ?_
    intro w9 a10 hn he10
    have hH9 := hH.call hn
    replace hD := (hD).new hn
    clear he8 a8 hH hn
    refine lV (Value.bool true) he10 rfl rfl (wanted_plain rfl _) (rn_mv rfl (he10.op rfl) w9) ?_
    intro a11 he11
    clear he10 a10
    refine lC he11 rfl rfl Tryd.func8 (by kernel_rfl) rfl rfl (he11.want rfl rfl rfl rfl rfl) rfl (known_any w9 hD.tab) ?_
    intro w12 a13 hn he13
    have hH12 := hH9.call hn
    replace hD := (hD).new hn
    clear he11 a11 hH9 hn
    refine lV (Value.bool true) he13 rfl rfl (wanted_plain rfl _) (rn_pk rfl (he13.op rfl) (he13.op rfl) w12) ?_
    intro a14 he14
    clear he13 a13
    refine lV (Value.bool true) he14 rfl rfl (wanted_plain rfl _) (rn_asg rfl (he14.op rfl) w12) ?_
    intro a15 he15
    clear he14 a14
    refine wpList_nil ?_
    refine then_ok ?_
    refine wp_ret ?_
    try simp only [Exit.then, Exit.inBlock]
    exact ret_env rfl he15 rfl ⟨rfl, hD.fr.new_below⟩
  · skip
    by_cases h2 : 1024 < pl
    · skip
      refine wp_seq ?_
      refine wp_seq ?_
      refine wp_region_lit ?_
      refine lV (Value.int .i64 pl) he1 rfl rfl (wanted_plain rfl _) (rn_mv rfl (he1.op rfl) w) ?_
      intro a16 he16
      clear he1 a1
      refine lV (Value.bool false) he16 rfl rfl (wanted_plain rfl _) (rn_lss rfl (he16.op rfl) (he16.op rfl) (decide_eq_false h1) w) ?_
      intro a17 he17
      clear he16 a16
      refine lV (Value.bool false) he17 rfl rfl (wanted_plain rfl _) (rn_mv rfl (he17.op rfl) w) ?_
      intro a18 he18
      clear he17 a17
      refine lV (Value.int .i64 pl) he18 rfl rfl (he18.want rfl rfl rfl rfl rfl) (rn_mv rfl (he18.op rfl) w) ?_
      intro a19 he19
      clear he18 a18
      refine lV (Value.bool true) he19 rfl rfl (he19.want rfl rfl rfl rfl rfl) (rn_gtr rfl (he19.op rfl) (he19.op rfl) (decide_eq_true h2) w) ?_
      intro a20 he20
      clear he19 a19
      refine lV (Value.bool true) he20 rfl rfl (wanted_plain rfl _) (rn_pk0 rfl (he20.op rfl) (he20.op rfl) w) ?_
      intro a21 he21
      clear he20 a20
      refine wpList_nil ?_
      refine then_ok ?_
      refine wp_cond_true (he21.op rfl) ?_
      refine wp_seq ?_
      refine wp_region_lit ?_
      refine lV (Value.int .i64 pl) he21 rfl rfl (wanted_plain rfl _) (rn_mv rfl (he21.op rfl) w) ?_
      intro a22 he22
      clear he21 a21
      refine lC he22 rfl rfl Tryd.func7 (by kernel_rfl) rfl rfl (wanted_plain rfl _) rfl (none_b pl (by omega) w) ?_
      intro w23 a24 hn he24
      have hH23 := hH.call hn
      replace hD := (hD).new hn
      clear he22 a22 hH hn
      refine lV (Value.bool true) he24 rfl rfl (wanted_plain rfl _) (rn_mv rfl (he24.op rfl) w23) ?_
      intro a25 he25
      clear he24 a24
      refine lC he25 rfl rfl Tryd.func8 (by kernel_rfl) rfl rfl (he25.want rfl rfl rfl rfl rfl) rfl (known_any w23 hD.tab) ?_
      intro w26 a27 hn he27
      have hH26 := hH23.call hn
      replace hD := (hD).new hn
      clear he25 a25 hH23 hn
      refine lV (Value.bool true) he27 rfl rfl (wanted_plain rfl _) (rn_pk rfl (he27.op rfl) (he27.op rfl) w26) ?_
      intro a28 he28
      clear he27 a27
      refine lV (Value.bool true) he28 rfl rfl (wanted_plain rfl _) (rn_asg rfl (he28.op rfl) w26) ?_
      intro a29 he29
      clear he28 a28
      refine wpList_nil ?_
      refine then_ok ?_
      refine wp_ret ?_
      try simp only [Exit.then, Exit.inBlock]
      exact ret_env rfl he29 rfl ⟨rfl, hD.fr.new_below⟩
    · skip
      refine wp_seq ?_
      refine wp_seq ?_
      refine wp_region_lit ?_
      refine lV (Value.int .i64 pl) he1 rfl rfl (wanted_plain rfl _) (rn_mv rfl (he1.op rfl) w) ?_
      intro a30 he30
      clear he1 a1
      refine lV (Value.bool false) he30 rfl rfl (wanted_plain rfl _) (rn_lss rfl (he30.op rfl) (he30.op rfl) (decide_eq_false h1) w) ?_
      intro a31 he31
      clear he30 a30
      refine lV (Value.bool false) he31 rfl rfl (wanted_plain rfl _) (rn_mv rfl (he31.op rfl) w) ?_
      intro a32 he32
      clear he31 a31
      refine lV (Value.int .i64 pl) he32 rfl rfl (he32.want rfl rfl rfl rfl rfl) (rn_mv rfl (he32.op rfl) w) ?_
      intro a33 he33
      clear he32 a32
      refine lV (Value.bool false) he33 rfl rfl (he33.want rfl rfl rfl rfl rfl) (rn_gtr rfl (he33.op rfl) (he33.op rfl) (decide_eq_false h2) w) ?_
      intro a34 he34
      clear he33 a33
      refine lV (Value.bool false) he34 rfl rfl (wanted_plain rfl _) (rn_pk0 rfl (he34.op rfl) (he34.op rfl) w) ?_
      intro a35 he35
      clear he34 a34
      refine wpList_nil ?_
      refine then_ok ?_
      refine wp_cond_false (he35.op rfl) ?_
      refine wp_skip ?_
      refine then_ok ?_
      obtain ⟨m, rfl⟩ : ∃ m : Nat, pl = m := ⟨pl.toNat, by omega⟩
      have hm1 : 1 ≤ m := by omega
      have hm9 : m ≤ 1024 := by omega
      refine wp_seq ?_
      refine wp_region_lit ?_
      refine lV (Value.int .i64 (m : Int)) he35 rfl rfl (wanted_plain rfl _) (rn_mv rfl (he35.op rfl) w) ?_
      intro a36 he36
      clear he35 a35
      refine lCx he36 rfl rfl Tryd.func9 (by kernel_rfl) rfl rfl (wanted_plain rfl _) rfl (new_ok m hm1 hm9 w hD.tab) ?_
      rintro _ w37 ⟨ps, rfl, ht⟩
      have hD2 := hD.made ht
      have hH37 := hH.call ht.new
      clear hD
      have hD := hD2
      clear hD2 ht
      refine ⟨_, rfl, ?_⟩
      intro a38 he38
      clear he36 a36 hH
      refine lV (Value.tuple #[Value.pointer (some ⟨ps, 0, none⟩), Value.int .i64 0]) he38 rfl rfl (wanted_plain rfl _) (rn_mv rfl (he38.op rfl) w37) ?_
      intro a39 he39
      clear he38 a38
      refine lV (Value.pointer (some ⟨ps, 0, none⟩)) he39 rfl rfl (wanted_plain rfl _) (rn_ext rfl (he39.op rfl) rfl w37) ?_
      intro a40 he40
      clear he39 a39
      refine lV (Value.int .i64 0) he40 rfl rfl (wanted_plain rfl _) (rn_ext rfl (he40.op rfl) rfl w37) ?_
      intro a41 he41
      clear he40 a40
      refine lV (Value.pointer (some ⟨ps, 0, none⟩)) he41 rfl rfl (wanted_plain rfl _) (rn_asg rfl (he41.op rfl) w37) ?_
      intro a42 he42
      clear he41 a41
      refine lV (Value.int .i64 0) he42 rfl rfl (wanted_plain rfl _) (rn_asg rfl (he42.op rfl) w37) ?_
      intro a43 he43
      clear he42 a42
      refine wpList_nil ?_
      refine then_ok ?_
      obtain ⟨fw, hfw⟩ : ∃ v, fewB xs = v := ⟨_, rfl⟩
      cases fw with
      | false =>
        refine wp_seq ?_
        refine wp_seq ?_
        refine wp_region_lit ?_
        refine lV (Value.pointer (some ⟨ps, 0, none⟩)) he43 rfl rfl (wanted_plain rfl _) (rn_mv rfl (he43.op rfl) w37) ?_
        intro a44 he44
        clear he43 a43
        refine lV (Value.bool false) he44 rfl rfl (wanted_plain rfl _) (rn_eqP1 rfl (he44.op rfl) (fun _ => rfl) w37) ?_
        intro a45 he45
        clear he44 a44
        refine lV (Value.bool false) he45 rfl rfl (wanted_plain rfl _) (rn_mv rfl (he45.op rfl) w37) ?_
        intro a46 he46
        clear he45 a45
        refine lV (Value.int .i64 0) he46 rfl rfl (he46.want rfl rfl rfl rfl rfl) (rn_mv rfl (he46.op rfl) w37) ?_
        intro a47 he47
        clear he46 a46
        refine lV (Value.bool false) he47 rfl rfl (he47.want rfl rfl rfl rfl rfl) (rn_neE rfl (he47.op rfl) (he47.op rfl) (by simp) w37) ?_
        intro a48 he48
        clear he47 a47
        refine lV (Value.bool false) he48 rfl rfl (wanted_plain rfl _) (rn_pk0 rfl (he48.op rfl) (he48.op rfl) w37) ?_
        intro a49 he49
        clear he48 a48
        refine lV (Value.bool false) he49 rfl rfl (wanted_plain rfl _) (rn_mv rfl (he49.op rfl) w37) ?_
        intro a50 he50
        clear he49 a49
        refine lV (Value.slice A xs.length c) he50 rfl rfl (he50.want rfl rfl rfl rfl rfl) (rn_mv rfl (he50.op rfl) w37) ?_
        intro a51 he51
        clear he50 a50
        refine lC he51 rfl rfl Tryd.func10 (by kernel_rfl) rfl rfl (he51.want rfl rfl rfl rfl rfl) rfl (few_b xs A c b false hfw w37 (hr.new hD.fr)) ?_
        intro w52 a53 hn he53
        have hH52 := hH37.call hn
        replace hD := (hD).new hn
        clear he51 a51 hH37 hn
        refine lV (Value.bool true) he53 rfl rfl (he53.want rfl rfl rfl rfl rfl) (rn_not (b := false) rfl (he53.op rfl) w52) ?_
        intro a54 he54
        clear he53 a53
        refine lV (Value.bool true) he54 rfl rfl (wanted_plain rfl _) (rn_pk0 rfl (he54.op rfl) (he54.op rfl) w52) ?_
        intro a55 he55
        clear he54 a54
        refine wpList_nil ?_
        refine then_ok ?_
        refine wp_cond_true (he55.op rfl) ?_
        refine wp_seq ?_
        refine wp_region_lit ?_
        refine lV (Value.pointer (some ⟨ps, 0, none⟩)) he55 rfl rfl (wanted_plain rfl _) (rn_mv rfl (he55.op rfl) w52) ?_
        intro a56 he56
        clear he55 a55
        refine lV (Value.bool true) he56 rfl rfl (wanted_plain rfl _) (rn_neP1 rfl (he56.op rfl) (fun _ => rfl) w52) ?_
        intro a57 he57
        clear he56 a56
        refine lV (Value.bool true) he57 rfl rfl (wanted_plain rfl _) (rn_mv rfl (he57.op rfl) w52) ?_
        intro a58 he58
        clear he57 a57
        refine lV (Value.int .i64 0) he58 rfl rfl (he58.want rfl rfl rfl rfl rfl) (rn_mv rfl (he58.op rfl) w52) ?_
        intro a59 he59
        clear he58 a58
        refine lV (Value.bool true) he59 rfl rfl (he59.want rfl rfl rfl rfl rfl) (rn_eqE rfl (he59.op rfl) (he59.op rfl) (by simp) w52) ?_
        intro a60 he60
        clear he59 a59
        refine lV (Value.bool true) he60 rfl rfl (wanted_plain rfl _) (rn_pk rfl (he60.op rfl) (he60.op rfl) w52) ?_
        intro a61 he61
        clear he60 a60
        refine lV (Value.bool true) he61 rfl rfl (wanted_plain rfl _) (rn_mv rfl (he61.op rfl) w52) ?_
        intro a62 he62
        clear he61 a61
        refine lC he62 rfl rfl Tryd.func8 (by kernel_rfl) rfl rfl (he62.want rfl rfl rfl rfl rfl) rfl (known_any w52 hD.tab) ?_
        intro w63 a64 hn he64
        have hH63 := hH52.call hn
        replace hD := (hD).new hn
        clear he62 a62 hH52 hn
        refine lV (Value.bool true) he64 rfl rfl (wanted_plain rfl _) (rn_pk rfl (he64.op rfl) (he64.op rfl) w63) ?_
        intro a65 he65
        clear he64 a64
        refine lV (Value.bool true) he65 rfl rfl (wanted_plain rfl _) (rn_asg rfl (he65.op rfl) w63) ?_
        intro a66 he66
        clear he65 a65
        refine wpList_nil ?_
        refine then_ok ?_
        refine wp_ret ?_
        try simp only [Exit.then, Exit.inBlock]
        exact ret_env rfl he66 rfl ⟨rfl, hD.fr.new_below⟩
      | true =>
        refine wp_seq ?_
        refine wp_seq ?_
        refine wp_region_lit ?_
        refine lV (Value.pointer (some ⟨ps, 0, none⟩)) he43 rfl rfl (wanted_plain rfl _) (rn_mv rfl (he43.op rfl) w37) ?_
        intro a67 he67
        clear he43 a43
        refine lV (Value.bool false) he67 rfl rfl (wanted_plain rfl _) (rn_eqP1 rfl (he67.op rfl) (fun _ => rfl) w37) ?_
        intro a68 he68
        clear he67 a67
        refine lV (Value.bool false) he68 rfl rfl (wanted_plain rfl _) (rn_mv rfl (he68.op rfl) w37) ?_
        intro a69 he69
        clear he68 a68
        refine lV (Value.int .i64 0) he69 rfl rfl (he69.want rfl rfl rfl rfl rfl) (rn_mv rfl (he69.op rfl) w37) ?_
        intro a70 he70
        clear he69 a69
        refine lV (Value.bool false) he70 rfl rfl (he70.want rfl rfl rfl rfl rfl) (rn_neE rfl (he70.op rfl) (he70.op rfl) (by simp) w37) ?_
        intro a71 he71
        clear he70 a70
        refine lV (Value.bool false) he71 rfl rfl (wanted_plain rfl _) (rn_pk0 rfl (he71.op rfl) (he71.op rfl) w37) ?_
        intro a72 he72
        clear he71 a71
        refine lV (Value.bool false) he72 rfl rfl (wanted_plain rfl _) (rn_mv rfl (he72.op rfl) w37) ?_
        intro a73 he73
        clear he72 a72
        refine lV (Value.slice A xs.length c) he73 rfl rfl (he73.want rfl rfl rfl rfl rfl) (rn_mv rfl (he73.op rfl) w37) ?_
        intro a74 he74
        clear he73 a73
        refine lC he74 rfl rfl Tryd.func10 (by kernel_rfl) rfl rfl (he74.want rfl rfl rfl rfl rfl) rfl (few_b xs A c b true hfw w37 (hr.new hD.fr)) ?_
        intro w75 a76 hn he76
        have hH75 := hH37.call hn
        replace hD := (hD).new hn
        clear he74 a74 hH37 hn
        refine lV (Value.bool false) he76 rfl rfl (he76.want rfl rfl rfl rfl rfl) (rn_not (b := true) rfl (he76.op rfl) w75) ?_
        intro a77 he77
        clear he76 a76
        refine lV (Value.bool false) he77 rfl rfl (wanted_plain rfl _) (rn_pk0 rfl (he77.op rfl) (he77.op rfl) w75) ?_
        intro a78 he78
        clear he77 a77
        refine wpList_nil ?_
        refine then_ok ?_
        refine wp_cond_false (he78.op rfl) ?_
        refine wp_skip ?_
        refine then_ok ?_
        have he79 : Env 77 [(5, Value.pointer (some ⟨ps, 0, none⟩)), (0, Value.int .i64 (m : Int)), (1, Value.slice A xs.length c)] a78 := he78.mem ⟨rfl, rfl, rfl, trivial⟩
        clear he78
        as_aux_lemma =>
          have hl40 : xs.length ≤ 40 := by unfold fewB at hfw; simp only [Bool.and_eq_true, decide_eq_true_eq] at hfw; exact hfw.2
          have hn20 : ∀ x ∈ xs, x.n ≤ 20 := by unfold fewB at hfw; simp only [Bool.and_eq_true, List.all_eq_true, decide_eq_true_eq] at hfw; rw [List.take_of_length_le (by omega)] at hfw; exact hfw.1
          refine wp_seq ?_
          refine wp_region_lit ?_
          refine lV (Value.int .i64 (m : Int)) he79 rfl rfl (wanted_plain rfl _) (rn_mv rfl (he79.op rfl) w75) ?_
          intro a80 he80
          clear he79 a78
          refine lV (Value.agg #[Value.int .i64 (m : Int), Value.int .i64 0, Value.slice none 0 0]) he80 rfl rfl (wanted_plain rfl _) (rn_bQ0 rfl (he80.op rfl) w75) ?_
          intro a81 he81
          clear he80 a80
          refine lNewP (fun p => .pointer (some ⟨p, 0, none⟩)) he81 hH75 rfl rfl (wanted_plain rfl _) (rn_allocQ rfl w75) ?_
          intro p82 w82 a83 hp hn hH82 he83
          replace hD := hD.cons hn hp (hH82.at (i := 0) rfl).lt
          clear he81 a81 hH75 hn hp
          refine lSetF 0 #[Value.int .i64 (m : Int), Value.int .i64 0, Value.slice none 0 0] (cs := #[Value.int .i64 (m : Int), Value.int .i64 0, Value.slice none 0 0]) he83 hH82 rfl (wanted_plain rfl _) rfl rfl rfl rfl rfl (by kernel_rfl) (by kernel_rfl) (by kernel_rfl) rfl ?_
          intro w84 a85 hH84 hf he85
          replace hD := hD.setb (i := 0) rfl rfl hf
          replace hH84 : Hp w [⟨p82, 32, #[Value.int .i64 (m : Int), Value.int .i64 0, Value.slice none 0 0]⟩] w84 := hH84
          clear hf
          clear he83 a83 hH82
          refine wpList_nil ?_
          refine then_ok ?_
          replace hD := Dt.front (A := []) (B := [rdD (.slice none 0 0) []]) (D := [shD ps [] m 0]) hD (fun G h => SepL.one (d := rdD _ _) (LnsF.nil _ _))
          replace hD := hD.pick 1 rfl
          have he86 : Env 77 [(7, Value.pointer (some ⟨p82, 0, none⟩)), (5, Value.pointer (some ⟨ps, 0, none⟩)), (1, Value.slice A xs.length c)] a85 := he85.mem ⟨rfl, rfl, rfl, trivial⟩
          clear he85
          refine wp_seq ?_
          refine wp_seq ?_
          refine wp_region_lit ?_
          refine lV (Value.slice A xs.length c) he86 rfl rfl (wanted_plain rfl _) (rn_mv rfl (he86.op rfl) w84) ?_
          intro a87 he87
          clear he86 a85
          refine lV (Value.int .i64 (xs.length : Nat)) he87 rfl rfl (wanted_plain rfl _) (rn_lenA rfl (he87.op rfl) w84) ?_
          intro a88 he88
          clear he87 a87
          refine lV (Value.int .i64 0) he88 rfl rfl (wanted_plain rfl _) (rn_mv rfl (he88.op rfl) w84) ?_
          intro a89 he89
          clear he88 a88
          refine wpList_nil ?_
          refine then_ok ?_
          have he90 : Env 77 [(53, Value.int .i64 0), (52, Value.int .i64 (xs.length : Nat)), (51, Value.slice A xs.length c), (7, Value.pointer (some ⟨p82, 0, none⟩)), (5, Value.pointer (some ⟨ps, 0, none⟩))] a89 := he89.mem ⟨rfl, rfl, rfl, rfl, rfl, trivial⟩
          clear he89
          refine wp_block ?_
          refine loop_nat (fun q a w' => ∃ (k pg gn : Nat) (L : List Ln) (R : Option Addr) (rc : Nat), q = xs.length - k ∧ k ≤ xs.length ∧ Env 77 [(5, Value.pointer (some ⟨pg, 0, none⟩)), (7, Value.pointer (some ⟨p82, 0, none⟩)), (51, Value.slice A xs.length c), (52, Value.int .i64 (xs.length : Nat)), (53, Value.int .i64 (k : Int))] a ∧ Hp w [⟨p82, 32, #[Value.int .i64 (m : Int), Value.int .i64 (gn : Int), Value.slice R L.length rc]⟩] w' ∧ Dt w w (fun _ => False) 0 [p82] [shD pg L m gn, rdD (.slice R L.length rc) L] w') xs.length ⟨0, ps, 0, [], none, 0, by omega, by omega, he90.mem ⟨rfl, rfl, rfl, rfl, rfl, trivial⟩, hH84, hD⟩ ?_
          clear he90 hH84
          rintro q a91 w91 ⟨k, pg, gn, L, R, rc, rfl, hk, he91, hH91, hD⟩
          by_cases hkn : k < xs.length
          · skip
            refine wp_seq ?_
            refine wp_region_lit ?_
            refine lV (Value.bool true) he91 rfl rfl (wanted_plain rfl _) (rn_lss rfl (he91.op rfl) (he91.op rfl) (decide_eq_true (by omega)) w91) ?_
            intro a92 he92
            clear he91 a91
            refine wpList_nil ?_
            refine then_ok ?_
            refine wp_seq ?_
            refine wp_cond_true (he92.op rfl) ?_
            refine wp_skip ?_
            refine then_ok ?_
            obtain ⟨x, hX⟩ : ∃ x, xs[k]? = some x := ⟨_, List.getElem?_eq_getElem hkn⟩
            have hxn := hn20 x (List.mem_of_getElem? hX)
            obtain ⟨l, hxl⟩ := hx k x hX
            obtain ⟨xa, xc, hxe⟩ := hxl.shape
            obtain ⟨wh, xi, xA, xn, xcc, xs_⟩ := x
            simp only [Value.slice.injEq] at hxe hxn
            obtain ⟨rfl, rfl, rfl⟩ := hxe
            obtain ⟨oo, eA⟩ := hr.base (by omega)
            subst eA
            refine wp_seq ?_
            refine wp_block ?_
            refine wp_seq ?_
            refine wp_region_lit ?_
            refine lV (Value.pointer (some ⟨b, oo + k * 4, none⟩)) he92 rfl rfl (wanted_plain rfl _) (rn_idxA (i := k) rfl (he92.op rfl) (he92.op rfl) hkn (by rw [addr_add]) w91) ?_
            intro a93 he93
            clear he92 a92
            refine lV (Value.agg #[Value.int .i64 wh, Value.int .i64 xi, Value.slice xA l.length xcc, Value.bool xs_]) he93 rfl rfl (wanted_plain rfl _) (rn_ldAv (i := k) rfl (he93.op rfl) (hr.new hD.fr) rfl hX) ?_
            intro a94 he94
            clear he93 a93
            refine lNewP (fun p => .pointer (some ⟨p, 0, none⟩)) he94 hH91 rfl rfl (wanted_plain rfl _) (rn_allocA rfl w91) ?_
            intro p95 w95 a96 hp hn hH95 he96
            replace hD := hD.cons hn hp (hH95.at (i := 0) rfl).lt
            clear he94 a94 hH91 hn hp
            refine lSetF 0 #[Value.int .i64 wh, Value.int .i64 xi, Value.slice xA l.length xcc, Value.bool xs_] (cs := #[Value.int .i64 wh, Value.int .i64 xi, Value.slice xA l.length xcc, Value.bool xs_]) he96 hH95 rfl (wanted_plain rfl _) rfl rfl rfl rfl rfl (by kernel_rfl) (by kernel_rfl) (by kernel_rfl) rfl ?_
            intro w97 a98 hH97 hf he98
            replace hD := hD.setb (i := 0) rfl rfl hf
            replace hH97 : Hp w [⟨p95, 37, #[Value.int .i64 wh, Value.int .i64 xi, Value.slice xA l.length xcc, Value.bool xs_]⟩, ⟨p82, 32, #[Value.int .i64 (m : Int), Value.int .i64 (gn : Int), Value.slice R L.length rc]⟩] w97 := hH97
            clear hf
            clear he96 a96 hH95
            refine wpList_nil ?_
            refine then_ok ?_
            refine wp_seq ?_
            refine wp_region_lit ?_
            refine lV (Value.pointer (some ⟨pg, 0, none⟩)) he98 rfl rfl (wanted_plain rfl _) (rn_mv rfl (he98.op rfl) w97) ?_
            intro a99 he99
            clear he98 a98
            refine lV (Value.agg #[Value.int .i64 (m : Int), Value.int .i64 (gn : Int), Value.slice R L.length rc]) he99 rfl rfl (wanted_plain rfl _) (rn_ldp [Value.int .i64 (m : Int), Value.int .i64 (gn : Int), Value.slice R L.length rc] rfl (he99.op rfl) undQ rfl infoQ3 (hH97.at (i := 1) rfl) rfl) ?_
            intro a100 he100
            clear he99 a99
            refine lV (Value.agg #[Value.int .i64 wh, Value.int .i64 xi, Value.slice xA l.length xcc, Value.bool xs_]) he100 rfl rfl (wanted_plain rfl _) (rn_ldp [Value.int .i64 wh, Value.int .i64 xi, Value.slice xA l.length xcc, Value.bool xs_] rfl (he100.op rfl) undA rfl infoA4 (hH97.at (i := 0) rfl) rfl) ?_
            intro a101 he101
            clear he100 a100
            replace hD := hD.pick 1 rfl
            replace hD := hD.pick 1 rfl
            obtain ⟨F_, hsep, hF, hlo, hstep⟩ := Dt.stepL (A := [shD pg L m gn, rdD (.slice R L.length rc) L]) (D := []) hD
            refine lCx he101 rfl rfl Tryd.func11 (by kernel_rfl) rfl rfl (wanted_plain rfl _) rfl (does_b F_ pg m gn L R rc wh xi _ l xs_ w97 hsep hF hD.tab (SlF.up (SlF.fr hxl.fl hD.fr (fun _ _ h => h)) (fun k_ hk_ hf_ => (hlo k_ hf_).elim id (fun h => by have : k_ < w.heap.size := hk_; omega))) (by omega)) ?_
            rintro _ w102 ⟨p2, L2, gn2, A2, c2, rfl, ht⟩
            obtain ⟨hD2, hHs⟩ := hstep _ _ ht
            have hH102 := hHs _ rfl hH97
            clear hHs hstep hsep hF hlo
            clear hD
            have hD := hD2
            clear hD2 ht
            refine ⟨_, rfl, ?_⟩
            intro a103 he103
            clear he101 a101 hH97
            refine lV (Value.tuple #[Value.pointer (some ⟨p2, 0, none⟩), Value.agg #[Value.int .i64 (m : Int), Value.int .i64 (gn2 : Int), Value.slice A2 L2.length c2], Value.bool true]) he103 rfl rfl (wanted_plain rfl _) (rn_mv rfl (he103.op rfl) w102) ?_
            intro a104 he104
            clear he103 a103
            refine lV (Value.pointer (some ⟨p2, 0, none⟩)) he104 rfl rfl (wanted_plain rfl _) (rn_ext rfl (he104.op rfl) rfl w102) ?_
            intro a105 he105
            clear he104 a104
            refine lV (Value.agg #[Value.int .i64 (m : Int), Value.int .i64 (gn2 : Int), Value.slice A2 L2.length c2]) he105 rfl rfl (wanted_plain rfl _) (rn_ext rfl (he105.op rfl) rfl w102) ?_
            intro a106 he106
            clear he105 a105
            refine lV (Value.bool true) he106 rfl rfl (wanted_plain rfl _) (rn_ext rfl (he106.op rfl) rfl w102) ?_
            intro a107 he107
            clear he106 a106
            refine lNewP (fun p => .pointer (some ⟨p, 0, none⟩)) he107 hH102 rfl rfl (wanted_plain rfl _) (rn_allocQ rfl w102) ?_
            intro p108 w108 a109 hp hn hH108 he109
            replace hD := hD.cons hn hp (hH108.at (i := 0) rfl).lt
            clear he107 a107 hH102 hn hp
            refine lV (Value.pointer (some ⟨p2, 0, none⟩)) he109 rfl rfl (wanted_plain rfl _) (rn_asg rfl (he109.op rfl) w108) ?_
            intro a110 he110
            clear he109 a109
            refine lSetF 0 #[Value.int .i64 (m : Int), Value.int .i64 (gn2 : Int), Value.slice A2 L2.length c2] (cs := #[Value.int .i64 (m : Int), Value.int .i64 (gn2 : Int), Value.slice A2 L2.length c2]) he110 hH108 rfl (wanted_plain rfl _) rfl rfl rfl rfl rfl (by kernel_rfl) (by kernel_rfl) (by kernel_rfl) rfl ?_
            intro w111 a112 hH111 hf he112
            replace hD := hD.setb (i := 0) rfl rfl hf
            replace hH111 : Hp w [⟨p108, 32, #[Value.int .i64 (m : Int), Value.int .i64 (gn2 : Int), Value.slice A2 L2.length c2]⟩, ⟨p95, 37, #[Value.int .i64 wh, Value.int .i64 xi, Value.slice xA l.length xcc, Value.bool xs_]⟩, ⟨p82, 32, #[Value.int .i64 (m : Int), Value.int .i64 (gn : Int), Value.slice R L.length rc]⟩] w111 := hH111
            clear hf
            clear he110 a110 hH108
            refine lV (Value.bool true) he112 rfl rfl (wanted_plain rfl _) (rn_asg rfl (he112.op rfl) w111) ?_
            intro a113 he113
            clear he112 a112
            refine wpList_nil ?_
            refine then_ok ?_
            refine wp_seq ?_
            refine wp_seq ?_
            refine wp_region_lit ?_
            refine lV (Value.bool true) he113 rfl rfl (wanted_plain rfl _) (rn_mv rfl (he113.op rfl) w111) ?_
            intro a114 he114
            clear he113 a113
            refine lV (Value.bool false) he114 rfl rfl (wanted_plain rfl _) (rn_not (b := true) rfl (he114.op rfl) w111) ?_
            intro a115 he115
            clear he114 a114
            refine lV (Value.bool false) he115 rfl rfl (wanted_plain rfl _) (rn_mv rfl (he115.op rfl) w111) ?_
            intro a116 he116
            clear he115 a115
            refine lV (Value.pointer (some ⟨p2, 0, none⟩)) he116 rfl rfl (he116.want rfl rfl rfl rfl rfl) (rn_mv rfl (he116.op rfl) w111) ?_
            intro a117 he117
            clear he116 a116
            refine lV (Value.agg #[Value.int .i64 (m : Int), Value.int .i64 (gn2 : Int), Value.slice A2 L2.length c2]) he117 rfl rfl (he117.want rfl rfl rfl rfl rfl) (rn_ldp [Value.int .i64 (m : Int), Value.int .i64 (gn2 : Int), Value.slice A2 L2.length c2] rfl (he117.op rfl) undQ rfl infoQ3 (hH111.at (i := 0) rfl) rfl) ?_
            intro a118 he118
            clear he117 a117
            refine lC he118 rfl rfl Tryd.func12 (by kernel_rfl) rfl rfl (he118.want rfl rfl rfl rfl rfl) rfl (looks_b _ p2 m gn2 L2 A2 c2 w111 (hD.get (i := 0) rfl).choose_spec hD.tab (LnsF.r (hD.get (i := 1) rfl).choose_spec)) ?_
            intro w119 a120 hn he120
            have hH119 := hH111.call hn
            replace hD := (hD).new hn
            clear he118 a118 hH111 hn
            refine lV (Value.bool false) he120 rfl rfl (he120.want rfl rfl rfl rfl rfl) (rn_not (b := true) rfl (he120.op rfl) w119) ?_
            intro a121 he121
            clear he120 a120
            refine lV (Value.bool false) he121 rfl rfl (wanted_plain rfl _) (rn_pk0 rfl (he121.op rfl) (he121.op rfl) w119) ?_
            intro a122 he122
            clear he121 a121
            refine wpList_nil ?_
            refine then_ok ?_
            refine wp_cond_false (he122.op rfl) ?_
            refine wp_skip ?_
            refine then_ok ?_
            refine wp_region_held_drew (S := Hp w [⟨p108, 32, #[Value.int .i64 (m : Int), Value.int .i64 (gn2 : Int), Value.slice A2 L2.length c2]⟩, ⟨p95, 37, #[Value.int .i64 wh, Value.int .i64 xi, Value.slice xA l.length xcc, Value.bool xs_]⟩]) (by kernel_rfl) ((hH119.drew).drop1 2 rfl) (fun _ => ?_)
            have hn : New w119 (World.drew w119) := (Fr.refl _ _).drew
            replace hD := (hD).new hn
            clear hn
            have hH123 := hH119.drew
            clear hH119
            generalize World.drew w119 = w123 at *
            refine hV (fuel := 3) (i := 0) (Value.pointer (some ⟨p2, 0, none⟩)) he122 rfl rfl rfl (by kernel_rfl) (by kernel_rfl) (by kernel_rfl) (fun _ _ _ h => h) (wanted_plain rfl _) (fun w' _ => rn_mv rfl (he122.op rfl) w') (hH123.drop1 2 rfl) ?_
            intro a124 he124
            clear he122 a122
            refine hV (fuel := 2) (i := 1) (Value.agg #[Value.int .i64 (m : Int), Value.int .i64 (gn2 : Int), Value.slice A2 L2.length c2]) he124 rfl rfl rfl (by kernel_rfl) (by kernel_rfl) (by kernel_rfl) (fun _ _ _ h => h) (wanted_plain rfl _) (fun w' hw' => rn_ldp [Value.int .i64 (m : Int), Value.int .i64 (gn2 : Int), Value.slice A2 L2.length c2] rfl (he124.op rfl) undQ rfl infoQ3 (hw'.at (i := 0) rfl) rfl) (hH123.drop1 2 rfl) ?_
            intro a125 he125
            clear he124 a124
            refine hV (fuel := 1) (i := 2) (Value.pointer (some ⟨p2, 0, none⟩)) he125 rfl rfl rfl (by kernel_rfl) (by kernel_rfl) (by kernel_rfl) (fun _ _ _ h => h) (wanted_plain rfl _) (fun w' _ => rn_asg rfl (he125.op rfl) w') (hH123.drop1 2 rfl) ?_
            intro a126 he126
            clear he125 a125
            refine hSetV (fuel := 0) (n := 3) 2 #[Value.int .i64 (m : Int), Value.int .i64 (gn2 : Int), Value.slice A2 L2.length c2] (cs := #[Value.int .i64 (m : Int), Value.int .i64 (gn2 : Int), Value.slice A2 L2.length c2]) he126 hH123 (by kernel_rfl) rfl rfl (wanted_plain rfl _) rfl rfl rfl rfl rfl (by kernel_rfl) (by kernel_rfl) (by kernel_rfl) rfl ?_
            intro w127 a128 hH127 hf he128
            replace hD := hD.setb (i := 2) rfl rfl hf
            replace hH127 : Hp w [⟨p108, 32, #[Value.int .i64 (m : Int), Value.int .i64 (gn2 : Int), Value.slice A2 L2.length c2]⟩, ⟨p95, 37, #[Value.int .i64 wh, Value.int .i64 xi, Value.slice xA l.length xcc, Value.bool xs_]⟩, ⟨p82, 32, #[Value.int .i64 (m : Int), Value.int .i64 (gn2 : Int), Value.slice A2 L2.length c2]⟩] w127 := hH127
            refine ⟨(hH127.drop1 2 rfl), ?_⟩
            clear hf
            clear he126 a126 hH123
            refine wpAnyH_done (by kernel_rfl) ?_ _
            refine block_ok ?_
            refine then_ok ?_
            have hH129 := hH127.tail rfl
            clear hH127
            replace hD := hD.tail
            have hH130 := hH129.tail rfl
            clear hH129
            replace hD := hD.tail
            refine wp_region_lit ?_
            refine lV (Value.int .i64 ((k + 1 : Nat) : Int)) he128 rfl rfl (wanted_plain rfl _) (rn_add1 rfl (he128.op rfl) (he128.op rfl) (by rw [IntWalk.i64_in _ ⟨by omega, by omega⟩]; omega) w127) ?_
            intro a131 he131
            clear he128 a128
            refine lV (Value.int .i64 ((k + 1 : Nat) : Int)) he131 rfl rfl (wanted_plain rfl _) (rn_mv rfl (he131.op rfl) w127) ?_
            intro a132 he132
            clear he131 a131
            refine wpList_nil ?_
            refine then_ok ?_
            exact ⟨xs.length - (k + 1), by omega, k + 1, p2, gn2, L2, A2, c2, rfl, by omega, he132.mem ⟨rfl, rfl, rfl, rfl, rfl, trivial⟩, hH130, hD⟩
          · skip
            refine wp_seq ?_
            refine wp_region_lit ?_
            refine lV (Value.bool false) he91 rfl rfl (wanted_plain rfl _) (rn_lss rfl (he91.op rfl) (he91.op rfl) (decide_eq_false (by omega)) w91) ?_
            intro a133 he133
            clear he91 a91
            refine wpList_nil ?_
            refine then_ok ?_
            refine wp_seq ?_
            refine wp_cond_false (he133.op rfl) ?_
            refine wp_exit ?_
            simp only [Exit.then, Exit.inBlock, if_true]
            refine wp_seq ?_
            refine wp_region_lit ?_
            refine lC he133 rfl rfl Tryd.func8 (by kernel_rfl) rfl rfl (wanted_plain rfl _) rfl (known_any w91 hD.tab) ?_
            intro w134 a135 hn he135
            have hH134 := hH91.call hn
            replace hD := (hD).new hn
            clear he133 a133 hH91 hn
            refine lV (Value.bool true) he135 rfl rfl (wanted_plain rfl _) (rn_asg rfl (he135.op rfl) w134) ?_
            intro a136 he136
            clear he135 a135
            refine wpList_nil ?_
            refine then_ok ?_
            refine wp_ret ?_
            try simp only [Exit.then, Exit.inBlock]
            exact ret_env rfl he136 rfl ⟨rfl, hD.fr.new_below⟩

end Go.Proofs.YtjnghaoboopflaaDoor
