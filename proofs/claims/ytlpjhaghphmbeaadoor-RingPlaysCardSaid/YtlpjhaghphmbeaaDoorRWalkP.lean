/-
  RingPlays.
-/
import Derived.Test.YtlpjhaghphmbeaaDoorRKnown
import Derived.Test.YtlpjhaghphmbeaaDoorRLooks
import Derived.Test.YtlpjhaghphmbeaaDoorRDoes
namespace Go.Proofs.YtlpjhaghphmbeaaDoor
open Go.RowKit

def fewB (xs : List BV) : Bool := (xs.take 41).all (fun x => decide (x.n ≤ 20)) && decide (xs.length ≤ 40)
set_option linter.unusedSimpArgs false in
set_option maxRecDepth 100000 in
set_option maxHeartbeats 1600000 in
theorem few_b (xs : List BV) (A : Option Addr) (c b : Nat) (v : Bool) (hv : fewB xs = v) (w : World) (hr : RdG rB w b A xs.length xs) : Calls Tryd.prog 10 #[.slice A xs.length c] w fun e w' => e = .returned (.bool v) ∧ New w w' := by
  subst hv
  refine calls_args (vl := [.slice A xs.length c]) 25 Tryd.func10 rfl Tryd.ntmps10 (by kernel_rfl) (fun a he => ?_)
  have he0 : Env 25 [(0, .slice A xs.length c)] a := he
  clear he
  have hH := Hp.start w
  refine wp_seq (wp_region_lit ?_)
  refine lW (.bool false) he0 rfl (rn_asg rfl (he0.op rfl) w) ?_
  intro a1 he1
  clear he0 a
  refine wpList_nil (then_ok ?_)
  refine wp_seq ?_
  refine wp_seq (wp_region_lit ?_)
  refine lW (.int .i64 0) he1 rfl (rn_asg rfl (he1.op rfl) w) ?_
  intro a2 he2
  clear he1 a1
  refine wpList_nil (then_ok ?_)
  refine wp_block ?_
  refine loop_nat (fun q a w' => ∃ (k : Nat), q = 41 - k ∧ k ≤ xs.length ∧ k ≤ 41 ∧ (xs.take k).all (fun x => decide (x.n ≤ 20)) = true ∧ Env 25 [(0, .slice A xs.length c), (3, .int .i64 k)] a ∧ Hp w [] w') 41 ⟨0, by omega, by omega, by omega, by simp, he2.mem ⟨rfl, rfl, trivial⟩, hH⟩ ?_
  clear he2 hH
  rintro q a3 w3 ⟨k, rfl, hk, hk2, hall, he3, hH3⟩
  by_cases h1 : k < xs.length
  · skip
    by_cases h2 : k < 41
    · skip
      refine wp_seq ?_
      refine wp_seq (wp_region_lit ?_)
      refine lW (.int .i64 k) he3 rfl (rn_mv rfl (he3.op rfl) w3) ?_
      intro a4 he4
      clear he3 a3
      refine lW (.slice A xs.length c) he4 rfl (rn_mv rfl (he4.op rfl) w3) ?_
      intro a5 he5
      clear he4 a4
      refine lW (.int .i64 xs.length) he5 rfl (rn_lenA rfl (he5.op rfl) w3) ?_
      intro a6 he6
      clear he5 a5
      refine lW (.bool true) he6 rfl (rn_lss rfl (he6.op rfl) (he6.op rfl) (decide_eq_true (by omega)) w3) ?_
      intro a7 he7
      clear he6 a6
      refine lW (.bool true) he7 rfl (rn_mv rfl (he7.op rfl) w3) ?_
      intro a8 he8
      clear he7 a7
      refine lV (.int .i64 k) he8 rfl rfl (he8.want rfl rfl rfl rfl rfl) (rn_mv rfl (he8.op rfl) w3) ?_
      intro a9 he9
      clear he8 a8
      refine lV (.bool true) he9 rfl rfl (he9.want rfl rfl rfl rfl rfl) (rn_lss rfl (he9.op rfl) (he9.op rfl) (decide_eq_true (by omega)) w3) ?_
      intro a10 he10
      clear he9 a9
      refine lW (.bool true) he10 rfl (rn_pk rfl (he10.op rfl) (he10.op rfl) w3) ?_
      intro a11 he11
      clear he10 a10
      refine wpList_nil (then_ok ?_)
      refine wp_cond_true (he11.op rfl) ?_
      refine wp_skip ?_
      refine then_ok ?_
      obtain ⟨x, hx⟩ : ∃ x, xs[k]? = some x := ⟨_, List.getElem?_eq_getElem h1⟩
      obtain ⟨oo, eA⟩ := hr.base (by omega)
      subst eA
      by_cases h20 : (20 : Int) < x.n
      · skip
        refine wp_seq ?_
        refine wp_block ?_
        refine wp_seq (wp_region_lit ?_)
        refine lW (.slice (some ⟨b, oo, none⟩) xs.length c) he11 rfl (rn_mv rfl (he11.op rfl) w3) ?_
        intro a12 he12
        clear he11 a11
        refine lW (.int .i64 k) he12 rfl (rn_mv rfl (he12.op rfl) w3) ?_
        intro a13 he13
        clear he12 a12
        refine lW (.pointer (some ⟨b, oo + k * 5, none⟩)) he13 rfl (rn_idxA (i := k) rfl (he13.op rfl) (he13.op rfl) h1 (by rw [addr_add]) w3) ?_
        intro a14 he14
        clear he13 a13
        refine lW (.pointer (some ⟨b, oo + k * 5 + 3, none⟩)) he14 rfl (rn_faA3 rfl (he14.op rfl) rfl w3) ?_
        intro a15 he15
        clear he14 a14
        refine lW (.pointer (some ⟨b, oo + k * 5 + 3 + 0, none⟩)) he15 rfl (rn_faL0 rfl (he15.op rfl) rfl w3) ?_
        intro a16 he16
        clear he15 a15
        refine lW (.slice x.A x.n x.c) he16 rfl (rn_ldBv2 (i := k) rfl (he16.op rfl) (hr.new hH3.new) rfl hx) ?_
        intro a17 he17
        clear he16 a16
        refine lW (.int .i64 x.n) he17 rfl (rn_lenC rfl (he17.op rfl) w3) ?_
        intro a18 he18
        clear he17 a17
        refine lW (.bool true) he18 rfl (rn_gtr rfl (he18.op rfl) (he18.op rfl) (decide_eq_true h20) w3) ?_
        intro a19 he19
        clear he18 a18
        refine wpList_nil (then_ok ?_)
        refine wp_cond_true (he19.op rfl) ?_
        have e1 : fewB xs = false := by
          unfold fewB; rw [Bool.and_eq_false_iff]; left; rw [List.all_eq_false]; exact ⟨x, List.mem_of_getElem? (i := k) (by rw [List.getElem?_take, if_pos h2]; exact hx), by simp; omega⟩
        refine wp_seq (wp_region_lit ?_)
        refine lW (.bool false) he19 rfl (rn_asg rfl (he19.op rfl) w3) ?_
        intro a20 he20
        clear he19 a19
        refine wpList_nil (then_ok ?_)
        refine wp_ret ?_
        try simp only [Exit.then, Exit.inBlock]
        exact ret_env rfl he20 rfl ⟨by rw [e1], hH3.new⟩
      refine wp_seq ?_
      refine wp_block ?_
      refine wp_seq (wp_region_lit ?_)
      refine lW (.slice (some ⟨b, oo, none⟩) xs.length c) he11 rfl (rn_mv rfl (he11.op rfl) w3) ?_
      intro a21 he21
      clear he11 a11
      refine lW (.int .i64 k) he21 rfl (rn_mv rfl (he21.op rfl) w3) ?_
      intro a22 he22
      clear he21 a21
      refine lW (.pointer (some ⟨b, oo + k * 5, none⟩)) he22 rfl (rn_idxA (i := k) rfl (he22.op rfl) (he22.op rfl) h1 (by rw [addr_add]) w3) ?_
      intro a23 he23
      clear he22 a22
      refine lW (.pointer (some ⟨b, oo + k * 5 + 3, none⟩)) he23 rfl (rn_faA3 rfl (he23.op rfl) rfl w3) ?_
      intro a24 he24
      clear he23 a23
      refine lW (.pointer (some ⟨b, oo + k * 5 + 3 + 0, none⟩)) he24 rfl (rn_faL0 rfl (he24.op rfl) rfl w3) ?_
      intro a25 he25
      clear he24 a24
      refine lW (.slice x.A x.n x.c) he25 rfl (rn_ldBv2 (i := k) rfl (he25.op rfl) (hr.new hH3.new) rfl hx) ?_
      intro a26 he26
      clear he25 a25
      refine lW (.int .i64 x.n) he26 rfl (rn_lenC rfl (he26.op rfl) w3) ?_
      intro a27 he27
      clear he26 a26
      refine lW (.bool false) he27 rfl (rn_gtr rfl (he27.op rfl) (he27.op rfl) (decide_eq_false h20) w3) ?_
      intro a28 he28
      clear he27 a27
      refine wpList_nil (then_ok ?_)
      refine wp_cond_false (he28.op rfl) ?_
      refine wp_skip ?_
      refine block_ok ?_
      refine then_ok ?_
      refine wp_region_lit ?_
      refine lW (.int .i64 k) he28 rfl (rn_mv rfl (he28.op rfl) w3) ?_
      intro a29 he29
      clear he28 a28
      refine lW (.int .i64 ((k + 1 : Nat) : Int)) he29 rfl (rn_add1 rfl (he29.op rfl) (he29.op rfl) (by rw [IntWalk.i64_in _ ⟨by omega, by omega⟩]; omega) w3) ?_
      intro a30 he30
      clear he29 a29
      refine lW (.int .i64 ((k + 1 : Nat) : Int)) he30 rfl (rn_asg rfl (he30.op rfl) w3) ?_
      intro a31 he31
      clear he30 a30
      refine wpList_nil (then_ok ?_)
      have hall2 : (xs.take (k + 1)).all (fun x => decide (x.n ≤ 20)) = true := by rw [List.take_add_one, hx, List.all_append, hall]; simp; omega
      exact ⟨41 - (k + 1), by omega, k + 1, rfl, by omega, by omega, hall2, he31.mem ⟨rfl, rfl, trivial⟩, hH3⟩
    refine wp_seq ?_
    refine wp_seq (wp_region_lit ?_)
    refine lW (.int .i64 k) he3 rfl (rn_mv rfl (he3.op rfl) w3) ?_
    intro a32 he32
    clear he3 a3
    refine lW (.slice A xs.length c) he32 rfl (rn_mv rfl (he32.op rfl) w3) ?_
    intro a33 he33
    clear he32 a32
    refine lW (.int .i64 xs.length) he33 rfl (rn_lenA rfl (he33.op rfl) w3) ?_
    intro a34 he34
    clear he33 a33
    refine lW (.bool true) he34 rfl (rn_lss rfl (he34.op rfl) (he34.op rfl) (decide_eq_true (by omega)) w3) ?_
    intro a35 he35
    clear he34 a34
    refine lW (.bool true) he35 rfl (rn_mv rfl (he35.op rfl) w3) ?_
    intro a36 he36
    clear he35 a35
    refine lV (.int .i64 k) he36 rfl rfl (he36.want rfl rfl rfl rfl rfl) (rn_mv rfl (he36.op rfl) w3) ?_
    intro a37 he37
    clear he36 a36
    refine lV (.bool false) he37 rfl rfl (he37.want rfl rfl rfl rfl rfl) (rn_lss rfl (he37.op rfl) (he37.op rfl) (decide_eq_false (by omega)) w3) ?_
    intro a38 he38
    clear he37 a37
    refine lW (.bool false) he38 rfl (rn_pk rfl (he38.op rfl) (he38.op rfl) w3) ?_
    intro a39 he39
    clear he38 a38
    refine wpList_nil (then_ok ?_)
    refine wp_cond_false (he39.op rfl) ?_
    refine wp_exit ?_
    simp only [Exit.then, Exit.inBlock, if_true]
    refine wp_seq (wp_region_lit ?_)
    refine lW (.slice A xs.length c) he39 rfl (rn_mv rfl (he39.op rfl) w3) ?_
    intro a40 he40
    clear he39 a39
    refine lW (.int .i64 xs.length) he40 rfl (rn_lenA rfl (he40.op rfl) w3) ?_
    intro a41 he41
    clear he40 a40
    refine lW (.bool (decide (xs.length ≤ 40))) he41 rfl (rn_leq rfl (he41.op rfl) (he41.op rfl) (by rw [decide_eq_decide]; omega) w3) ?_
    intro a42 he42
    clear he41 a41
    refine lW (.bool (decide (xs.length ≤ 40))) he42 rfl (rn_asg rfl (he42.op rfl) w3) ?_
    intro a43 he43
    clear he42 a42
    refine wpList_nil (then_ok ?_)
    have e1 : fewB xs = decide (xs.length ≤ 40) := by unfold fewB; rw [show xs.take 41 = xs.take k from by
        rcases (show k = 41 ∨ k = xs.length by omega) with h | h
        · rw [h]
        · rw [List.take_of_length_le (by omega), List.take_of_length_le (by omega)], hall, Bool.true_and]
    refine wp_ret ?_
    try simp only [Exit.then, Exit.inBlock]
    exact ret_env rfl he43 rfl ⟨by rw [e1], hH3.new⟩
  refine wp_seq ?_
  refine wp_seq (wp_region_lit ?_)
  refine lW (.int .i64 k) he3 rfl (rn_mv rfl (he3.op rfl) w3) ?_
  intro a44 he44
  clear he3 a3
  refine lW (.slice A xs.length c) he44 rfl (rn_mv rfl (he44.op rfl) w3) ?_
  intro a45 he45
  clear he44 a44
  refine lW (.int .i64 xs.length) he45 rfl (rn_lenA rfl (he45.op rfl) w3) ?_
  intro a46 he46
  clear he45 a45
  refine lW (.bool false) he46 rfl (rn_lss rfl (he46.op rfl) (he46.op rfl) (decide_eq_false (by omega)) w3) ?_
  intro a47 he47
  clear he46 a46
  refine lW (.bool false) he47 rfl (rn_mv rfl (he47.op rfl) w3) ?_
  intro a48 he48
  clear he47 a47
  refine lSkip he48 rfl rfl (he48.wantNot rfl rfl rfl rfl rfl rfl) ?_
  intro a49 he49
  clear he48 a48
  refine lSkip he49 rfl rfl (he49.wantNot rfl rfl rfl rfl rfl rfl) ?_
  intro a50 he50
  clear he49 a49
  refine lW (.bool false) he50 rfl (rn_pk0 rfl (he50.op rfl) (he50.op rfl) w3) ?_
  intro a51 he51
  clear he50 a50
  refine wpList_nil (then_ok ?_)
  refine wp_cond_false (he51.op rfl) ?_
  refine wp_exit ?_
  simp only [Exit.then, Exit.inBlock, if_true]
  refine wp_seq (wp_region_lit ?_)
  refine lW (.slice A xs.length c) he51 rfl (rn_mv rfl (he51.op rfl) w3) ?_
  intro a52 he52
  clear he51 a51
  refine lW (.int .i64 xs.length) he52 rfl (rn_lenA rfl (he52.op rfl) w3) ?_
  intro a53 he53
  clear he52 a52
  refine lW (.bool (decide (xs.length ≤ 40))) he53 rfl (rn_leq rfl (he53.op rfl) (he53.op rfl) (by rw [decide_eq_decide]; omega) w3) ?_
  intro a54 he54
  clear he53 a53
  refine lW (.bool (decide (xs.length ≤ 40))) he54 rfl (rn_asg rfl (he54.op rfl) w3) ?_
  intro a55 he55
  clear he54 a54
  refine wpList_nil (then_ok ?_)
  have e1 : fewB xs = decide (xs.length ≤ 40) := by unfold fewB; rw [show xs.take 41 = xs.take k from by
      rcases (show k = 41 ∨ k = xs.length by omega) with h | h
      · rw [h]
      · rw [List.take_of_length_le (by omega), List.take_of_length_le (by omega)], hall, Bool.true_and]
  refine wp_ret ?_
  try simp only [Exit.then, Exit.inBlock]
  exact ret_env rfl he55 rfl ⟨by rw [e1], hH3.new⟩

theorem sep_nilQ (w : World) (G : FP) : SepL [rdD (.slice none 0 0) [], rowG (.slice none 0 0) []] w G :=
  ⟨fun _ => False, fun _ => False, LnsF.nil _ _, SepL.one (d := rowG _ _) (OwnO.nil w _), fun _ h _ => h, fun _ h => h.elim, fun _ h => h.elim⟩
theorem qGet_d (E : Dat) (R : RS) (A B : Option Addr) (c n8 d : Nat) (i : Int) (F : FP) (w : World) (hs : SepL [E] w F) (hE : ∀ w F, E.P w F → (rdD (.slice A R.L.length c) R.L).P w F) (hn8 : R.nx ≤ bigN) : Calls Tryd.prog 13 #[.agg #[.int .i64 R.mo, .int .i64 R.pl, .int .i64 R.fi, .slice A R.L.length c, .slice B n8 d], .int .i64 i] w fun e w' => ∃ A' c', e = .returned (.tuple #[.agg #[.slice A' (getR R i).1.1.length c', .bool (getR R i).1.2], .int .i64 (getR R i).2]) ∧ Turned [andD E (slD (.slice A' (getR R i).1.1.length c') (getR R i).1.1)] F w w' :=
  (qGet R A B c n8 d i F w (hE _ _ hs.the) hn8).mono fun _ _ ⟨A', c', he, hl, hn⟩ => ⟨A', c', he, Fr.weak hn (fun _ _ h => h.elim), F, SepL.one (d := andD E (slD _ _)) ⟨E.fr hs.the hn (fun _ _ h => h), hl⟩, fun _ h => .inl h⟩
theorem qBetween_d (E : Dat) (R : RS) (A B : Option Addr) (c n8 d : Nat) (u v : Int) (F : FP) (w : World) (hs : SepL [E] w F) (hE : ∀ w F, E.P w F → (rdD (.slice A R.L.length c) R.L).P w F) (hn8 : R.nx ≤ bigN) : Calls Tryd.prog 14 #[.agg #[.int .i64 R.mo, .int .i64 R.pl, .int .i64 R.fi, .slice A R.L.length c, .slice B n8 d], .int .i64 u, .int .i64 v] w fun e w' => ∃ A' c', e = .returned (.tuple #[.slice A' (rangeL R u v).length c', .int .i64 (rangeE R u v)]) ∧ Turned [andD E (rdD (.slice A' (rangeL R u v).length c') (rangeL R u v))] F w w' :=
  (qBetween R A B c n8 d u v F w (hE _ _ hs.the) hn8).mono fun _ _ ⟨A', c', he, hl, hn⟩ => ⟨A', c', he, Fr.weak hn (fun _ _ h => h.elim), F, SepL.one (d := andD E (rdD _ _)) ⟨E.fr hs.the hn (fun _ _ h => h), hl⟩, fun _ h => .inl h⟩
set_option linter.unusedSimpArgs false in
set_option maxRecDepth 100000 in
set_option maxHeartbeats 1600000 in
theorem ringPlays_walk (mo pl : Int) (A : Option Addr) (c b : Nat) (xs : List BV) (w : World) (hr : RdG rB w b A xs.length xs) (hx : ∀ (i : Nat) (x : BV), xs[i]? = some x → ∃ l, SlC w (.slice x.A x.n x.c) l) (hT : Tab w) :
    Calls Tryd.prog 3 #[.int .i64 mo, .int .i64 pl, .slice A xs.length c] w fun e w' => e = .returned (.bool true) ∧ Below w.heap.size w w' := by
  have hnb : bigN = 1000000000 := rfl
  refine calls_args (vl := [.int .i64 mo, .int .i64 pl, .slice A xs.length c]) 128 Tryd.func3 rfl Tryd.ntmps3 (by kernel_rfl) (fun a he => ?_)
  have he0 : Env 128 [(0, .int .i64 mo), (1, .int .i64 pl), (2, .slice A xs.length c)] a := he
  clear he
  have hH := Hp.start w
  have hD := Dt.start hT
  refine wp_seq (wp_region_lit ?_)
  refine lW (.bool false) he0 rfl (rn_asg rfl (he0.op rfl) w) ?_
  intro a1 he1
  clear he0 a
  refine wpList_nil (then_ok ?_)
  by_cases h0 : mo < 0
  · skip
    refine wp_seq ?_
    refine wp_seq (wp_region_lit ?_)
    refine lW (.int .i64 mo) he1 rfl (rn_mv rfl (he1.op rfl) w) ?_
    intro a2 he2
    clear he1 a1
    refine lW (.bool true) he2 rfl (rn_lss rfl (he2.op rfl) (he2.op rfl) (decide_eq_true h0) w) ?_
    intro a3 he3
    clear he2 a2
    refine lW (.bool true) he3 rfl (rn_mv rfl (he3.op rfl) w) ?_
    intro a4 he4
    clear he3 a3
    refine lSkip he4 rfl rfl (he4.wantNot rfl rfl rfl rfl rfl rfl) ?_
    intro a5 he5
    clear he4 a4
    refine lSkip he5 rfl rfl (he5.wantNot rfl rfl rfl rfl rfl rfl) ?_
    intro a6 he6
    clear he5 a5
    refine lW (.bool true) he6 rfl (rn_pk rfl (he6.op rfl) (he6.op rfl) w) ?_
    intro a7 he7
    clear he6 a6
    refine lW (.bool true) he7 rfl (rn_mv rfl (he7.op rfl) w) ?_
    intro a8 he8
    clear he7 a7
    refine lSkip he8 rfl rfl (he8.wantNot rfl rfl rfl rfl rfl rfl) ?_
    intro a9 he9
    clear he8 a8
    refine lSkip he9 rfl rfl (he9.wantNot rfl rfl rfl rfl rfl rfl) ?_
    intro a10 he10
    clear he9 a9
    refine lW (.bool true) he10 rfl (rn_pk rfl (he10.op rfl) (he10.op rfl) w) ?_
    intro a11 he11
    clear he10 a10
    refine lW (.bool true) he11 rfl (rn_mv rfl (he11.op rfl) w) ?_
    intro a12 he12
    clear he11 a11
    refine lSkip he12 rfl rfl (he12.wantNot rfl rfl rfl rfl rfl rfl) ?_
    intro a13 he13
    clear he12 a12
    refine lSkip he13 rfl rfl (he13.wantNot rfl rfl rfl rfl rfl rfl) ?_
    intro a14 he14
    clear he13 a13
    refine lW (.bool true) he14 rfl (rn_pk rfl (he14.op rfl) (he14.op rfl) w) ?_
    intro a15 he15
    clear he14 a14
    refine wpList_nil (then_ok ?_)
    refine wp_cond_true (he15.op rfl) ?_
    refine wp_seq (wp_region_lit ?_)
    refine lW (.int .i64 mo) he15 rfl (rn_mv rfl (he15.op rfl) w) ?_
    intro a16 he16
    clear he15 a15
    refine lW (.int .i64 pl) he16 rfl (rn_mv rfl (he16.op rfl) w) ?_
    intro a17 he17
    clear he16 a16
    refine lC he17 rfl rfl Tryd.func7 (by kernel_rfl) rfl rfl (wanted_plain rfl _) rfl (none_b mo pl (by omega) w) ?_
    intro w18 a19 hn he19
    have hH18 := hH.call hn
    replace hD := (hD).new hn
    clear he17 a17 hH hn
    refine lW (.bool true) he19 rfl (rn_mv rfl (he19.op rfl) w18) ?_
    intro a20 he20
    clear he19 a19
    refine lC he20 rfl rfl Tryd.func8 (by kernel_rfl) rfl rfl (he20.want rfl rfl rfl rfl rfl) rfl (known_any w18 hD.tab) ?_
    intro w21 a22 hn he22
    have hH21 := hH18.call hn
    replace hD := (hD).new hn
    clear he20 a20 hH18 hn
    refine lW (.bool true) he22 rfl (rn_pk rfl (he22.op rfl) (he22.op rfl) w21) ?_
    intro a23 he23
    clear he22 a22
    refine lW (.bool true) he23 rfl (rn_asg rfl (he23.op rfl) w21) ?_
    intro a24 he24
    clear he23 a23
    refine wpList_nil (then_ok ?_)
    refine wp_ret ?_
    try simp only [Exit.then, Exit.inBlock]
    exact ret_env rfl he24 rfl ⟨rfl, hD.fr.new_below⟩
  by_cases h1 : 1048576 < mo
  · skip
    refine wp_seq ?_
    refine wp_seq (wp_region_lit ?_)
    refine lW (.int .i64 mo) he1 rfl (rn_mv rfl (he1.op rfl) w) ?_
    intro a25 he25
    clear he1 a1
    refine lW (.bool false) he25 rfl (rn_lss rfl (he25.op rfl) (he25.op rfl) (decide_eq_false h0) w) ?_
    intro a26 he26
    clear he25 a25
    refine lW (.bool false) he26 rfl (rn_mv rfl (he26.op rfl) w) ?_
    intro a27 he27
    clear he26 a26
    refine lV (.int .i64 mo) he27 rfl rfl (he27.want rfl rfl rfl rfl rfl) (rn_mv rfl (he27.op rfl) w) ?_
    intro a28 he28
    clear he27 a27
    refine lV (.bool true) he28 rfl rfl (he28.want rfl rfl rfl rfl rfl) (rn_gtr rfl (he28.op rfl) (he28.op rfl) (decide_eq_true h1) w) ?_
    intro a29 he29
    clear he28 a28
    refine lW (.bool true) he29 rfl (rn_pk0 rfl (he29.op rfl) (he29.op rfl) w) ?_
    intro a30 he30
    clear he29 a29
    refine lW (.bool true) he30 rfl (rn_mv rfl (he30.op rfl) w) ?_
    intro a31 he31
    clear he30 a30
    refine lSkip he31 rfl rfl (he31.wantNot rfl rfl rfl rfl rfl rfl) ?_
    intro a32 he32
    clear he31 a31
    refine lSkip he32 rfl rfl (he32.wantNot rfl rfl rfl rfl rfl rfl) ?_
    intro a33 he33
    clear he32 a32
    refine lW (.bool true) he33 rfl (rn_pk rfl (he33.op rfl) (he33.op rfl) w) ?_
    intro a34 he34
    clear he33 a33
    refine lW (.bool true) he34 rfl (rn_mv rfl (he34.op rfl) w) ?_
    intro a35 he35
    clear he34 a34
    refine lSkip he35 rfl rfl (he35.wantNot rfl rfl rfl rfl rfl rfl) ?_
    intro a36 he36
    clear he35 a35
    refine lSkip he36 rfl rfl (he36.wantNot rfl rfl rfl rfl rfl rfl) ?_
    intro a37 he37
    clear he36 a36
    refine lW (.bool true) he37 rfl (rn_pk rfl (he37.op rfl) (he37.op rfl) w) ?_
    intro a38 he38
    clear he37 a37
    refine wpList_nil (then_ok ?_)
    refine wp_cond_true (he38.op rfl) ?_
    refine wp_seq (wp_region_lit ?_)
    refine lW (.int .i64 mo) he38 rfl (rn_mv rfl (he38.op rfl) w) ?_
    intro a39 he39
    clear he38 a38
    refine lW (.int .i64 pl) he39 rfl (rn_mv rfl (he39.op rfl) w) ?_
    intro a40 he40
    clear he39 a39
    refine lC he40 rfl rfl Tryd.func7 (by kernel_rfl) rfl rfl (wanted_plain rfl _) rfl (none_b mo pl (by omega) w) ?_
    intro w41 a42 hn he42
    have hH41 := hH.call hn
    replace hD := (hD).new hn
    clear he40 a40 hH hn
    refine lW (.bool true) he42 rfl (rn_mv rfl (he42.op rfl) w41) ?_
    intro a43 he43
    clear he42 a42
    refine lC he43 rfl rfl Tryd.func8 (by kernel_rfl) rfl rfl (he43.want rfl rfl rfl rfl rfl) rfl (known_any w41 hD.tab) ?_
    intro w44 a45 hn he45
    have hH44 := hH41.call hn
    replace hD := (hD).new hn
    clear he43 a43 hH41 hn
    refine lW (.bool true) he45 rfl (rn_pk rfl (he45.op rfl) (he45.op rfl) w44) ?_
    intro a46 he46
    clear he45 a45
    refine lW (.bool true) he46 rfl (rn_asg rfl (he46.op rfl) w44) ?_
    intro a47 he47
    clear he46 a46
    refine wpList_nil (then_ok ?_)
    refine wp_ret ?_
    try simp only [Exit.then, Exit.inBlock]
    exact ret_env rfl he47 rfl ⟨rfl, hD.fr.new_below⟩
  by_cases h2 : pl < 1
  · skip
    refine wp_seq ?_
    refine wp_seq (wp_region_lit ?_)
    refine lW (.int .i64 mo) he1 rfl (rn_mv rfl (he1.op rfl) w) ?_
    intro a48 he48
    clear he1 a1
    refine lW (.bool false) he48 rfl (rn_lss rfl (he48.op rfl) (he48.op rfl) (decide_eq_false h0) w) ?_
    intro a49 he49
    clear he48 a48
    refine lW (.bool false) he49 rfl (rn_mv rfl (he49.op rfl) w) ?_
    intro a50 he50
    clear he49 a49
    refine lV (.int .i64 mo) he50 rfl rfl (he50.want rfl rfl rfl rfl rfl) (rn_mv rfl (he50.op rfl) w) ?_
    intro a51 he51
    clear he50 a50
    refine lV (.bool false) he51 rfl rfl (he51.want rfl rfl rfl rfl rfl) (rn_gtr rfl (he51.op rfl) (he51.op rfl) (decide_eq_false h1) w) ?_
    intro a52 he52
    clear he51 a51
    refine lW (.bool false) he52 rfl (rn_pk0 rfl (he52.op rfl) (he52.op rfl) w) ?_
    intro a53 he53
    clear he52 a52
    refine lW (.bool false) he53 rfl (rn_mv rfl (he53.op rfl) w) ?_
    intro a54 he54
    clear he53 a53
    refine lV (.int .i64 pl) he54 rfl rfl (he54.want rfl rfl rfl rfl rfl) (rn_mv rfl (he54.op rfl) w) ?_
    intro a55 he55
    clear he54 a54
    refine lV (.bool true) he55 rfl rfl (he55.want rfl rfl rfl rfl rfl) (rn_lss rfl (he55.op rfl) (he55.op rfl) (decide_eq_true h2) w) ?_
    intro a56 he56
    clear he55 a55
    refine lW (.bool true) he56 rfl (rn_pk0 rfl (he56.op rfl) (he56.op rfl) w) ?_
    intro a57 he57
    clear he56 a56
    refine lW (.bool true) he57 rfl (rn_mv rfl (he57.op rfl) w) ?_
    intro a58 he58
    clear he57 a57
    refine lSkip he58 rfl rfl (he58.wantNot rfl rfl rfl rfl rfl rfl) ?_
    intro a59 he59
    clear he58 a58
    refine lSkip he59 rfl rfl (he59.wantNot rfl rfl rfl rfl rfl rfl) ?_
    intro a60 he60
    clear he59 a59
    refine lW (.bool true) he60 rfl (rn_pk rfl (he60.op rfl) (he60.op rfl) w) ?_
    intro a61 he61
    clear he60 a60
    refine wpList_nil (then_ok ?_)
    refine wp_cond_true (he61.op rfl) ?_
    refine wp_seq (wp_region_lit ?_)
    refine lW (.int .i64 mo) he61 rfl (rn_mv rfl (he61.op rfl) w) ?_
    intro a62 he62
    clear he61 a61
    refine lW (.int .i64 pl) he62 rfl (rn_mv rfl (he62.op rfl) w) ?_
    intro a63 he63
    clear he62 a62
    refine lC he63 rfl rfl Tryd.func7 (by kernel_rfl) rfl rfl (wanted_plain rfl _) rfl (none_b mo pl (by omega) w) ?_
    intro w64 a65 hn he65
    have hH64 := hH.call hn
    replace hD := (hD).new hn
    clear he63 a63 hH hn
    refine lW (.bool true) he65 rfl (rn_mv rfl (he65.op rfl) w64) ?_
    intro a66 he66
    clear he65 a65
    refine lC he66 rfl rfl Tryd.func8 (by kernel_rfl) rfl rfl (he66.want rfl rfl rfl rfl rfl) rfl (known_any w64 hD.tab) ?_
    intro w67 a68 hn he68
    have hH67 := hH64.call hn
    replace hD := (hD).new hn
    clear he66 a66 hH64 hn
    refine lW (.bool true) he68 rfl (rn_pk rfl (he68.op rfl) (he68.op rfl) w67) ?_
    intro a69 he69
    clear he68 a68
    refine lW (.bool true) he69 rfl (rn_asg rfl (he69.op rfl) w67) ?_
    intro a70 he70
    clear he69 a69
    refine wpList_nil (then_ok ?_)
    refine wp_ret ?_
    try simp only [Exit.then, Exit.inBlock]
    exact ret_env rfl he70 rfl ⟨rfl, hD.fr.new_below⟩
  by_cases h3 : 1024 < pl
  · skip
    refine wp_seq ?_
    refine wp_seq (wp_region_lit ?_)
    refine lW (.int .i64 mo) he1 rfl (rn_mv rfl (he1.op rfl) w) ?_
    intro a71 he71
    clear he1 a1
    refine lW (.bool false) he71 rfl (rn_lss rfl (he71.op rfl) (he71.op rfl) (decide_eq_false h0) w) ?_
    intro a72 he72
    clear he71 a71
    refine lW (.bool false) he72 rfl (rn_mv rfl (he72.op rfl) w) ?_
    intro a73 he73
    clear he72 a72
    refine lV (.int .i64 mo) he73 rfl rfl (he73.want rfl rfl rfl rfl rfl) (rn_mv rfl (he73.op rfl) w) ?_
    intro a74 he74
    clear he73 a73
    refine lV (.bool false) he74 rfl rfl (he74.want rfl rfl rfl rfl rfl) (rn_gtr rfl (he74.op rfl) (he74.op rfl) (decide_eq_false h1) w) ?_
    intro a75 he75
    clear he74 a74
    refine lW (.bool false) he75 rfl (rn_pk0 rfl (he75.op rfl) (he75.op rfl) w) ?_
    intro a76 he76
    clear he75 a75
    refine lW (.bool false) he76 rfl (rn_mv rfl (he76.op rfl) w) ?_
    intro a77 he77
    clear he76 a76
    refine lV (.int .i64 pl) he77 rfl rfl (he77.want rfl rfl rfl rfl rfl) (rn_mv rfl (he77.op rfl) w) ?_
    intro a78 he78
    clear he77 a77
    refine lV (.bool false) he78 rfl rfl (he78.want rfl rfl rfl rfl rfl) (rn_lss rfl (he78.op rfl) (he78.op rfl) (decide_eq_false h2) w) ?_
    intro a79 he79
    clear he78 a78
    refine lW (.bool false) he79 rfl (rn_pk0 rfl (he79.op rfl) (he79.op rfl) w) ?_
    intro a80 he80
    clear he79 a79
    refine lW (.bool false) he80 rfl (rn_mv rfl (he80.op rfl) w) ?_
    intro a81 he81
    clear he80 a80
    refine lV (.int .i64 pl) he81 rfl rfl (he81.want rfl rfl rfl rfl rfl) (rn_mv rfl (he81.op rfl) w) ?_
    intro a82 he82
    clear he81 a81
    refine lV (.bool true) he82 rfl rfl (he82.want rfl rfl rfl rfl rfl) (rn_gtr rfl (he82.op rfl) (he82.op rfl) (decide_eq_true h3) w) ?_
    intro a83 he83
    clear he82 a82
    refine lW (.bool true) he83 rfl (rn_pk0 rfl (he83.op rfl) (he83.op rfl) w) ?_
    intro a84 he84
    clear he83 a83
    refine wpList_nil (then_ok ?_)
    refine wp_cond_true (he84.op rfl) ?_
    refine wp_seq (wp_region_lit ?_)
    refine lW (.int .i64 mo) he84 rfl (rn_mv rfl (he84.op rfl) w) ?_
    intro a85 he85
    clear he84 a84
    refine lW (.int .i64 pl) he85 rfl (rn_mv rfl (he85.op rfl) w) ?_
    intro a86 he86
    clear he85 a85
    refine lC he86 rfl rfl Tryd.func7 (by kernel_rfl) rfl rfl (wanted_plain rfl _) rfl (none_b mo pl (by omega) w) ?_
    intro w87 a88 hn he88
    have hH87 := hH.call hn
    replace hD := (hD).new hn
    clear he86 a86 hH hn
    refine lW (.bool true) he88 rfl (rn_mv rfl (he88.op rfl) w87) ?_
    intro a89 he89
    clear he88 a88
    refine lC he89 rfl rfl Tryd.func8 (by kernel_rfl) rfl rfl (he89.want rfl rfl rfl rfl rfl) rfl (known_any w87 hD.tab) ?_
    intro w90 a91 hn he91
    have hH90 := hH87.call hn
    replace hD := (hD).new hn
    clear he89 a89 hH87 hn
    refine lW (.bool true) he91 rfl (rn_pk rfl (he91.op rfl) (he91.op rfl) w90) ?_
    intro a92 he92
    clear he91 a91
    refine lW (.bool true) he92 rfl (rn_asg rfl (he92.op rfl) w90) ?_
    intro a93 he93
    clear he92 a92
    refine wpList_nil (then_ok ?_)
    refine wp_ret ?_
    try simp only [Exit.then, Exit.inBlock]
    exact ret_env rfl he93 rfl ⟨rfl, hD.fr.new_below⟩
  refine wp_seq ?_
  refine wp_seq (wp_region_lit ?_)
  refine lW (.int .i64 mo) he1 rfl (rn_mv rfl (he1.op rfl) w) ?_
  intro a94 he94
  clear he1 a1
  refine lW (.bool false) he94 rfl (rn_lss rfl (he94.op rfl) (he94.op rfl) (decide_eq_false h0) w) ?_
  intro a95 he95
  clear he94 a94
  refine lW (.bool false) he95 rfl (rn_mv rfl (he95.op rfl) w) ?_
  intro a96 he96
  clear he95 a95
  refine lV (.int .i64 mo) he96 rfl rfl (he96.want rfl rfl rfl rfl rfl) (rn_mv rfl (he96.op rfl) w) ?_
  intro a97 he97
  clear he96 a96
  refine lV (.bool false) he97 rfl rfl (he97.want rfl rfl rfl rfl rfl) (rn_gtr rfl (he97.op rfl) (he97.op rfl) (decide_eq_false h1) w) ?_
  intro a98 he98
  clear he97 a97
  refine lW (.bool false) he98 rfl (rn_pk0 rfl (he98.op rfl) (he98.op rfl) w) ?_
  intro a99 he99
  clear he98 a98
  refine lW (.bool false) he99 rfl (rn_mv rfl (he99.op rfl) w) ?_
  intro a100 he100
  clear he99 a99
  refine lV (.int .i64 pl) he100 rfl rfl (he100.want rfl rfl rfl rfl rfl) (rn_mv rfl (he100.op rfl) w) ?_
  intro a101 he101
  clear he100 a100
  refine lV (.bool false) he101 rfl rfl (he101.want rfl rfl rfl rfl rfl) (rn_lss rfl (he101.op rfl) (he101.op rfl) (decide_eq_false h2) w) ?_
  intro a102 he102
  clear he101 a101
  refine lW (.bool false) he102 rfl (rn_pk0 rfl (he102.op rfl) (he102.op rfl) w) ?_
  intro a103 he103
  clear he102 a102
  refine lW (.bool false) he103 rfl (rn_mv rfl (he103.op rfl) w) ?_
  intro a104 he104
  clear he103 a103
  refine lV (.int .i64 pl) he104 rfl rfl (he104.want rfl rfl rfl rfl rfl) (rn_mv rfl (he104.op rfl) w) ?_
  intro a105 he105
  clear he104 a104
  refine lV (.bool false) he105 rfl rfl (he105.want rfl rfl rfl rfl rfl) (rn_gtr rfl (he105.op rfl) (he105.op rfl) (decide_eq_false h3) w) ?_
  intro a106 he106
  clear he105 a105
  refine lW (.bool false) he106 rfl (rn_pk0 rfl (he106.op rfl) (he106.op rfl) w) ?_
  intro a107 he107
  clear he106 a106
  refine wpList_nil (then_ok ?_)
  refine wp_cond_false (he107.op rfl) ?_
  refine wp_skip ?_
  refine then_ok ?_
  obtain ⟨M, rfl⟩ : ∃ m : Nat, mo = m := ⟨mo.toNat, by omega⟩
  obtain ⟨K, rfl⟩ : ∃ m : Nat, pl = m := ⟨pl.toNat, by omega⟩
  refine wp_seq (wp_region_lit ?_)
  refine lW (.int .i64 M) he107 rfl (rn_mv rfl (he107.op rfl) w) ?_
  intro a108 he108
  clear he107 a107
  refine lW (.int .i64 K) he108 rfl (rn_mv rfl (he108.op rfl) w) ?_
  intro a109 he109
  clear he108 a108
  refine lCx he109 rfl rfl Tryd.func9 (by kernel_rfl) rfl rfl (wanted_plain rfl _) rfl (rNew_ok M K (by omega) (by omega) (by omega) w hD.tab) ?_
  rintro _ w110 ⟨ps, rfl, ht⟩
  have hD2 := hD.made ht
  have hH110 := hH.call ht.new
  replace hD := hD2
  clear hD2 ht
  refine ⟨_, rfl, ?_⟩
  intro a111 he111
  clear he109 a109 hH
  refine lW (.tuple #[.pointer (some ⟨ps, 0, none⟩), .int .i64 0]) he111 rfl (rn_mv rfl (he111.op rfl) w110) ?_
  intro a112 he112
  clear he111 a111
  refine lW (.pointer (some ⟨ps, 0, none⟩)) he112 rfl (rn_ext rfl (he112.op rfl) rfl w110) ?_
  intro a113 he113
  clear he112 a112
  refine lW (.int .i64 0) he113 rfl (rn_ext rfl (he113.op rfl) rfl w110) ?_
  intro a114 he114
  clear he113 a113
  refine lW (.pointer (some ⟨ps, 0, none⟩)) he114 rfl (rn_asg rfl (he114.op rfl) w110) ?_
  intro a115 he115
  clear he114 a114
  refine lW (.int .i64 0) he115 rfl (rn_asg rfl (he115.op rfl) w110) ?_
  intro a116 he116
  clear he115 a115
  refine wpList_nil (then_ok ?_)
  obtain ⟨fw, hfw⟩ : ∃ v, fewB xs = v := ⟨_, rfl⟩
  cases fw with
  | false =>
    refine wp_seq ?_
    refine wp_seq (wp_region_lit ?_)
    refine lW (.pointer (some ⟨ps, 0, none⟩)) he116 rfl (rn_mv rfl (he116.op rfl) w110) ?_
    intro a117 he117
    clear he116 a116
    refine lW (.bool false) he117 rfl (rn_eqPr1 rfl (he117.op rfl) (fun _ => rfl) w110) ?_
    intro a118 he118
    clear he117 a117
    refine lW (.bool false) he118 rfl (rn_mv rfl (he118.op rfl) w110) ?_
    intro a119 he119
    clear he118 a118
    refine lV (.int .i64 0) he119 rfl rfl (he119.want rfl rfl rfl rfl rfl) (rn_mv rfl (he119.op rfl) w110) ?_
    intro a120 he120
    clear he119 a119
    refine lV (.bool false) he120 rfl rfl (he120.want rfl rfl rfl rfl rfl) (rn_neE rfl (he120.op rfl) (he120.op rfl) (by simp) w110) ?_
    intro a121 he121
    clear he120 a120
    refine lW (.bool false) he121 rfl (rn_pk0 rfl (he121.op rfl) (he121.op rfl) w110) ?_
    intro a122 he122
    clear he121 a121
    refine lW (.bool false) he122 rfl (rn_mv rfl (he122.op rfl) w110) ?_
    intro a123 he123
    clear he122 a122
    refine lV (.slice A xs.length c) he123 rfl rfl (he123.want rfl rfl rfl rfl rfl) (rn_mv rfl (he123.op rfl) w110) ?_
    intro a124 he124
    clear he123 a123
    refine lC he124 rfl rfl Tryd.func10 (by kernel_rfl) rfl rfl (he124.want rfl rfl rfl rfl rfl) rfl (few_b xs A c b false hfw w110 (hr.new hD.fr)) ?_
    intro w125 a126 hn he126
    have hH125 := hH110.call hn
    replace hD := (hD).new hn
    clear he124 a124 hH110 hn
    refine lV (.bool true) he126 rfl rfl (he126.want rfl rfl rfl rfl rfl) (rn_not (b := false) rfl (he126.op rfl) w125) ?_
    intro a127 he127
    clear he126 a126
    refine lW (.bool true) he127 rfl (rn_pk0 rfl (he127.op rfl) (he127.op rfl) w125) ?_
    intro a128 he128
    clear he127 a127
    refine wpList_nil (then_ok ?_)
    refine wp_cond_true (he128.op rfl) ?_
    refine wp_seq (wp_region_lit ?_)
    refine lW (.pointer (some ⟨ps, 0, none⟩)) he128 rfl (rn_mv rfl (he128.op rfl) w125) ?_
    intro a129 he129
    clear he128 a128
    refine lW (.bool true) he129 rfl (rn_nePr1 rfl (he129.op rfl) (fun _ => rfl) w125) ?_
    intro a130 he130
    clear he129 a129
    refine lW (.bool true) he130 rfl (rn_mv rfl (he130.op rfl) w125) ?_
    intro a131 he131
    clear he130 a130
    refine lV (.int .i64 0) he131 rfl rfl (he131.want rfl rfl rfl rfl rfl) (rn_mv rfl (he131.op rfl) w125) ?_
    intro a132 he132
    clear he131 a131
    refine lV (.bool true) he132 rfl rfl (he132.want rfl rfl rfl rfl rfl) (rn_eqE rfl (he132.op rfl) (he132.op rfl) (by simp) w125) ?_
    intro a133 he133
    clear he132 a132
    refine lW (.bool true) he133 rfl (rn_pk rfl (he133.op rfl) (he133.op rfl) w125) ?_
    intro a134 he134
    clear he133 a133
    refine lW (.bool true) he134 rfl (rn_mv rfl (he134.op rfl) w125) ?_
    intro a135 he135
    clear he134 a134
    refine lC he135 rfl rfl Tryd.func8 (by kernel_rfl) rfl rfl (he135.want rfl rfl rfl rfl rfl) rfl (known_any w125 hD.tab) ?_
    intro w136 a137 hn he137
    have hH136 := hH125.call hn
    replace hD := (hD).new hn
    clear he135 a135 hH125 hn
    refine lW (.bool true) he137 rfl (rn_pk rfl (he137.op rfl) (he137.op rfl) w136) ?_
    intro a138 he138
    clear he137 a137
    refine lW (.bool true) he138 rfl (rn_asg rfl (he138.op rfl) w136) ?_
    intro a139 he139
    clear he138 a138
    refine wpList_nil (then_ok ?_)
    refine wp_ret ?_
    try simp only [Exit.then, Exit.inBlock]
    exact ret_env rfl he139 rfl ⟨rfl, hD.fr.new_below⟩
  | true =>
    refine wp_seq ?_
    refine wp_seq (wp_region_lit ?_)
    refine lW (.pointer (some ⟨ps, 0, none⟩)) he116 rfl (rn_mv rfl (he116.op rfl) w110) ?_
    intro a140 he140
    clear he116 a116
    refine lW (.bool false) he140 rfl (rn_eqPr1 rfl (he140.op rfl) (fun _ => rfl) w110) ?_
    intro a141 he141
    clear he140 a140
    refine lW (.bool false) he141 rfl (rn_mv rfl (he141.op rfl) w110) ?_
    intro a142 he142
    clear he141 a141
    refine lV (.int .i64 0) he142 rfl rfl (he142.want rfl rfl rfl rfl rfl) (rn_mv rfl (he142.op rfl) w110) ?_
    intro a143 he143
    clear he142 a142
    refine lV (.bool false) he143 rfl rfl (he143.want rfl rfl rfl rfl rfl) (rn_neE rfl (he143.op rfl) (he143.op rfl) (by simp) w110) ?_
    intro a144 he144
    clear he143 a143
    refine lW (.bool false) he144 rfl (rn_pk0 rfl (he144.op rfl) (he144.op rfl) w110) ?_
    intro a145 he145
    clear he144 a144
    refine lW (.bool false) he145 rfl (rn_mv rfl (he145.op rfl) w110) ?_
    intro a146 he146
    clear he145 a145
    refine lV (.slice A xs.length c) he146 rfl rfl (he146.want rfl rfl rfl rfl rfl) (rn_mv rfl (he146.op rfl) w110) ?_
    intro a147 he147
    clear he146 a146
    refine lC he147 rfl rfl Tryd.func10 (by kernel_rfl) rfl rfl (he147.want rfl rfl rfl rfl rfl) rfl (few_b xs A c b true hfw w110 (hr.new hD.fr)) ?_
    intro w148 a149 hn he149
    have hH148 := hH110.call hn
    replace hD := (hD).new hn
    clear he147 a147 hH110 hn
    refine lV (.bool false) he149 rfl rfl (he149.want rfl rfl rfl rfl rfl) (rn_not (b := true) rfl (he149.op rfl) w148) ?_
    intro a150 he150
    clear he149 a149
    refine lW (.bool false) he150 rfl (rn_pk0 rfl (he150.op rfl) (he150.op rfl) w148) ?_
    intro a151 he151
    clear he150 a150
    refine wpList_nil (then_ok ?_)
    refine wp_cond_false (he151.op rfl) ?_
    refine wp_skip ?_
    refine then_ok ?_
    have he152 : Env 128 [(7, .pointer (some ⟨ps, 0, none⟩)), (0, .int .i64 M), (1, .int .i64 K), (2, .slice A xs.length c)] a151 := he151.mem ⟨rfl, rfl, rfl, rfl, trivial⟩
    clear he151
    as_aux_lemma =>
      have hl40 : xs.length ≤ 40 := by unfold fewB at hfw; simp only [Bool.and_eq_true, decide_eq_true_eq] at hfw; exact hfw.2
      have hn20 : ∀ x ∈ xs, x.n ≤ 20 := by unfold fewB at hfw; simp only [Bool.and_eq_true, List.all_eq_true, decide_eq_true_eq] at hfw; rw [List.take_of_length_le (by omega)] at hfw; exact hfw.1
      refine wp_seq (wp_region_lit ?_)
      refine lW (.int .i64 M) he152 rfl (rn_mv rfl (he152.op rfl) w148) ?_
      intro a153 he153
      clear he152 a151
      refine lW (.int .i64 K) he153 rfl (rn_mv rfl (he153.op rfl) w148) ?_
      intro a154 he154
      clear he153 a153
      refine lW (.agg #[.int .i64 M, .int .i64 K, .int .i64 0, .slice none 0 0, .slice none 0 0]) he154 rfl (rn_bQ01 rfl (he154.op rfl) (he154.op rfl) w148) ?_
      intro a155 he155
      clear he154 a154
      refine lNewP (fun p => .pointer (some ⟨p, 0, none⟩)) he155 hH148 rfl rfl (wanted_plain rfl _) (rn_allocQ rfl w148) ?_
      intro p156 w156 a157 hp hn hH156 he157
      replace hD := hD.cons hn hp (hH156.at (i := 0) rfl).lt
      clear he155 a155 hH148 hn hp
      refine lSetF 0 #[.int .i64 M, .int .i64 K, .int .i64 0, .slice none 0 0, .slice none 0 0] (cs := #[.int .i64 M, .int .i64 K, .int .i64 0, .slice none 0 0, .slice none 0 0]) he157 hH156 rfl (wanted_plain rfl _) rfl rfl rfl rfl rfl (by kernel_rfl) (by kernel_rfl) (by kernel_rfl) rfl ?_
      intro w158 a159 hH158 hf he159
      replace hD := hD.setb (i := 0) rfl rfl hf
      replace hH158 : Hp w [⟨p156, 33, #[.int .i64 M, .int .i64 K, .int .i64 0, .slice none 0 0, .slice none 0 0]⟩] w158 := hH158
      clear hf
      clear he157 a157 hH156
      refine wpList_nil (then_ok ?_)
      replace hD := Dt.front (A := []) (B := [rdD (.slice none 0 0) [], rowG (.slice none 0 0) []]) (D := [ringD ps ⟨M, K, 0, []⟩]) hD (fun G h => sep_nilQ _ _)
      replace hD := hD.pick 1 rfl
      replace hD := hD.pick 1 rfl
      replace hD := hD.pick 2 rfl
      refine wp_seq ?_
      refine wp_seq (wp_region_lit ?_)
      refine lW (.slice A xs.length c) he159 rfl (rn_mv rfl (he159.op rfl) w158) ?_
      intro a160 he160
      clear he159 a159
      refine lW (.int .i64 xs.length) he160 rfl (rn_lenA rfl (he160.op rfl) w158) ?_
      intro a161 he161
      clear he160 a160
      refine lW (.int .i64 0) he161 rfl (rn_mv rfl (he161.op rfl) w158) ?_
      intro a162 he162
      clear he161 a161
      refine wpList_nil (then_ok ?_)
      have he163 : Env 128 [(70, .int .i64 0), (69, .int .i64 xs.length), (68, .slice A xs.length c), (9, .pointer (some ⟨p156, 0, none⟩)), (7, .pointer (some ⟨ps, 0, none⟩))] a162 := he162.mem ⟨rfl, rfl, rfl, rfl, rfl, trivial⟩
      clear he162
      refine wp_block ?_
      refine loop_nat (fun q a w' => ∃ (k pg : Nat) (R : RS) (QA : Option Addr) (qc : Nat) (QB : Option Addr) (qd : Nat), q = xs.length - k ∧ k ≤ xs.length ∧ R.L.length ≤ k ∧ R.nx ≤ k ∧ Env 128 [(7, .pointer (some ⟨pg, 0, none⟩)), (9, .pointer (some ⟨p156, 0, none⟩)), (68, .slice A xs.length c), (69, .int .i64 xs.length), (70, .int .i64 k)] a ∧ Hp w [⟨p156, 33, #[.int .i64 R.mo, .int .i64 R.pl, .int .i64 R.fi, .slice QA R.L.length qc, .slice QB (pgI R.P).length qd]⟩] w' ∧ Dt w w (fun _ => False) 0 [p156] [ringD pg R, rdD (.slice QA R.L.length qc) R.L, rowG (.slice QB (pgI R.P).length qd) (pgI R.P)] w') xs.length ⟨0, ps, ⟨M, K, 0, []⟩, none, 0, none, 0, by omega, by omega, by simp [flatP], by simp [RS.nx, flatP], he163.mem ⟨rfl, rfl, rfl, rfl, rfl, trivial⟩, hH158, hD⟩ ?_
      clear he163 hH158
      rintro q a164 w164 ⟨k, pg, R, QA, qc, QB, qd, rfl, hk, hRl, hRn, he164, hH164, hD⟩
      by_cases hkn : k < xs.length
      · skip
        refine wp_seq (wp_region_lit ?_)
        refine lW (.bool true) he164 rfl (rn_lss rfl (he164.op rfl) (he164.op rfl) (decide_eq_true (by omega)) w164) ?_
        intro a165 he165
        clear he164 a164
        refine wpList_nil (then_ok ?_)
        refine wp_seq ?_
        refine wp_cond_true (he165.op rfl) ?_
        refine wp_skip ?_
        refine then_ok ?_
        obtain ⟨x, hX⟩ : ∃ x, xs[k]? = some x := ⟨_, List.getElem?_eq_getElem hkn⟩
        have hxn := hn20 x (List.mem_of_getElem? hX)
        obtain ⟨l, hxl⟩ := hx k x hX
        obtain ⟨xa, xc, hxe⟩ := hxl.shape
        obtain ⟨wh, xi, xj, xA, xn, xcc, xs_⟩ := x
        simp only [Value.slice.injEq] at hxe hxn
        obtain ⟨rfl, rfl, rfl⟩ := hxe
        obtain ⟨oo, eA⟩ := hr.base (by omega)
        subst eA
        refine wp_seq ?_
        refine wp_block ?_
        refine wp_seq (wp_region_lit ?_)
        refine lW (.pointer (some ⟨b, oo + k * 5, none⟩)) he165 rfl (rn_idxA (i := k) rfl (he165.op rfl) (he165.op rfl) hkn (by rw [addr_add]) w164) ?_
        intro a166 he166
        clear he165 a165
        refine lW (.agg #[.int .i64 wh, .int .i64 xi, .int .i64 xj, .slice xA l.length xcc, .bool xs_]) he166 rfl (rn_ldBv (i := k) rfl (he166.op rfl) (hr.new hD.fr) rfl hX) ?_
        intro a167 he167
        clear he166 a166
        refine lNewP (fun p => .pointer (some ⟨p, 0, none⟩)) he167 hH164 rfl rfl (wanted_plain rfl _) (rn_allocA rfl w164) ?_
        intro p168 w168 a169 hp hn hH168 he169
        replace hD := hD.cons hn hp (hH168.at (i := 0) rfl).lt
        clear he167 a167 hH164 hn hp
        refine lSetF 0 #[.int .i64 wh, .int .i64 xi, .int .i64 xj, .slice xA l.length xcc, .bool xs_] (cs := #[.int .i64 wh, .int .i64 xi, .int .i64 xj, .slice xA l.length xcc, .bool xs_]) he169 hH168 rfl (wanted_plain rfl _) rfl rfl rfl rfl rfl (by kernel_rfl) (by kernel_rfl) (by kernel_rfl) rfl ?_
        intro w170 a171 hH170 hf he171
        replace hD := hD.setb (i := 0) rfl rfl hf
        replace hH170 : Hp w [⟨p168, 38, #[.int .i64 wh, .int .i64 xi, .int .i64 xj, .slice xA l.length xcc, .bool xs_]⟩, ⟨p156, 33, #[.int .i64 R.mo, .int .i64 R.pl, .int .i64 R.fi, .slice QA R.L.length qc, .slice QB (pgI R.P).length qd]⟩] w170 := hH170
        clear hf
        clear he169 a169 hH168
        refine wpList_nil (then_ok ?_)
        refine wp_seq (wp_region_lit ?_)
        refine lW (.pointer (some ⟨pg, 0, none⟩)) he171 rfl (rn_mv rfl (he171.op rfl) w170) ?_
        intro a172 he172
        clear he171 a171
        refine lW (.agg #[.int .i64 R.mo, .int .i64 R.pl, .int .i64 R.fi, .slice QA R.L.length qc, .slice QB (pgI R.P).length qd]) he172 rfl (rn_ldp _ rfl (he172.op rfl) undQ rfl infoQ5 (hH170.at (i := 1) rfl) rfl) ?_
        intro a173 he173
        clear he172 a172
        refine lW (.agg #[.int .i64 wh, .int .i64 xi, .int .i64 xj, .slice xA l.length xcc, .bool xs_]) he173 rfl (rn_ldp _ rfl (he173.op rfl) undA rfl infoA5 (hH170.at (i := 0) rfl) rfl) ?_
        intro a174 he174
        clear he173 a173
        replace hD := hD.pick 2 rfl
        replace hD := hD.pick 2 rfl
        replace hD := hD.pick 2 rfl
        obtain ⟨F_, hsep, hF, hlo, hstep⟩ := Dt.stepL (A := [ringD pg R, rdD (.slice QA R.L.length qc) R.L, rowG (.slice QB (pgI R.P).length qd) (pgI R.P)]) (D := []) hD
        refine lCx he174 rfl rfl Tryd.func11 (by kernel_rfl) rfl rfl (wanted_plain rfl _) rfl (does_b F_ pg R QA QB qc qd wh xi xj _ l xs_ w170 hsep (by omega) (by omega) hF hD.tab (SlF.up (SlF.fr hxl.fl hD.fr (fun _ _ h => h)) (fun k_ hk_ hf_ => (hlo k_ hf_).elim id (fun h => by have : k_ < w.heap.size := hk_; omega))) (by omega)) ?_
        rintro _ w175 ⟨p2, R2, A2, c2, B2, d2, rfl, hle, ht⟩
        obtain ⟨hD2, hHs⟩ := hstep _ _ ht
        have hH175 := hHs _ rfl hH170
        clear hHs hstep hsep hF hlo
        replace hD := hD2
        clear hD2 ht
        refine ⟨_, rfl, ?_⟩
        intro a176 he176
        clear he174 a174 hH170
        refine lW (.tuple #[.pointer (some ⟨p2, 0, none⟩), .agg #[.int .i64 R2.mo, .int .i64 R2.pl, .int .i64 R2.fi, .slice A2 R2.L.length c2, .slice B2 (pgI R2.P).length d2], .bool true]) he176 rfl (rn_mv rfl (he176.op rfl) w175) ?_
        intro a177 he177
        clear he176 a176
        refine lW (.pointer (some ⟨p2, 0, none⟩)) he177 rfl (rn_ext rfl (he177.op rfl) rfl w175) ?_
        intro a178 he178
        clear he177 a177
        refine lW (.agg #[.int .i64 R2.mo, .int .i64 R2.pl, .int .i64 R2.fi, .slice A2 R2.L.length c2, .slice B2 (pgI R2.P).length d2]) he178 rfl (rn_ext rfl (he178.op rfl) rfl w175) ?_
        intro a179 he179
        clear he178 a178
        refine lW (.bool true) he179 rfl (rn_ext rfl (he179.op rfl) rfl w175) ?_
        intro a180 he180
        clear he179 a179
        refine lNewP (fun p => .pointer (some ⟨p, 0, none⟩)) he180 hH175 rfl rfl (wanted_plain rfl _) (rn_allocQ rfl w175) ?_
        intro p181 w181 a182 hp hn hH181 he182
        replace hD := hD.cons hn hp (hH181.at (i := 0) rfl).lt
        clear he180 a180 hH175 hn hp
        refine lW (.pointer (some ⟨p2, 0, none⟩)) he182 rfl (rn_asg rfl (he182.op rfl) w181) ?_
        intro a183 he183
        clear he182 a182
        refine lSetF 0 #[.int .i64 R2.mo, .int .i64 R2.pl, .int .i64 R2.fi, .slice A2 R2.L.length c2, .slice B2 (pgI R2.P).length d2] (cs := #[.int .i64 R2.mo, .int .i64 R2.pl, .int .i64 R2.fi, .slice A2 R2.L.length c2, .slice B2 (pgI R2.P).length d2]) he183 hH181 rfl (wanted_plain rfl _) rfl rfl rfl rfl rfl (by kernel_rfl) (by kernel_rfl) (by kernel_rfl) rfl ?_
        intro w184 a185 hH184 hf he185
        replace hD := hD.setb (i := 0) rfl rfl hf
        replace hH184 : Hp w [⟨p181, 33, #[.int .i64 R2.mo, .int .i64 R2.pl, .int .i64 R2.fi, .slice A2 R2.L.length c2, .slice B2 (pgI R2.P).length d2]⟩, ⟨p168, 38, #[.int .i64 wh, .int .i64 xi, .int .i64 xj, .slice xA l.length xcc, .bool xs_]⟩, ⟨p156, 33, #[.int .i64 R.mo, .int .i64 R.pl, .int .i64 R.fi, .slice QA R.L.length qc, .slice QB (pgI R.P).length qd]⟩] w184 := hH184
        clear hf
        clear he183 a183 hH181
        refine lW (.bool true) he185 rfl (rn_asg rfl (he185.op rfl) w184) ?_
        intro a186 he186
        clear he185 a185
        refine wpList_nil (then_ok ?_)
        have hR1 := hle.1
        have hR2 := hle.2
        have hok2 := hD.ring_ok
        have hn2 := hok2.nx
        refine wp_seq ?_
        refine wp_seq (wp_region_lit ?_)
        refine lW (.bool true) he186 rfl (rn_mv rfl (he186.op rfl) w184) ?_
        intro a187 he187
        clear he186 a186
        refine lW (.bool false) he187 rfl (rn_not (b := true) rfl (he187.op rfl) w184) ?_
        intro a188 he188
        clear he187 a187
        refine lW (.bool false) he188 rfl (rn_mv rfl (he188.op rfl) w184) ?_
        intro a189 he189
        clear he188 a188
        refine lV (.pointer (some ⟨p2, 0, none⟩)) he189 rfl rfl (he189.want rfl rfl rfl rfl rfl) (rn_mv rfl (he189.op rfl) w184) ?_
        intro a190 he190
        clear he189 a189
        refine lV (.agg #[.int .i64 R2.mo, .int .i64 R2.pl, .int .i64 R2.fi, .slice A2 R2.L.length c2, .slice B2 (pgI R2.P).length d2]) he190 rfl rfl (he190.want rfl rfl rfl rfl rfl) (rn_ldp _ rfl (he190.op rfl) undQ rfl infoQ5 (hH184.at (i := 0) rfl) rfl) ?_
        intro a191 he191
        clear he190 a190
        refine lC he191 rfl rfl Tryd.func12 (by kernel_rfl) rfl rfl (he191.want rfl rfl rfl rfl rfl) rfl (looks_b _ p2 R2 A2 B2 c2 d2 w184 (hD.get (i := 0) rfl).choose_spec (by omega) (LnsF.r (hD.get (i := 1) rfl).choose_spec) hD.tab) ?_
        intro w192 a193 hn he193
        have hH192 := hH184.call hn
        replace hD := (hD).new hn
        clear he191 a191 hH184 hn
        refine lV (.bool false) he193 rfl rfl (he193.want rfl rfl rfl rfl rfl) (rn_not (b := true) rfl (he193.op rfl) w192) ?_
        intro a194 he194
        clear he193 a193
        refine lW (.bool false) he194 rfl (rn_pk0 rfl (he194.op rfl) (he194.op rfl) w192) ?_
        intro a195 he195
        clear he194 a194
        refine wpList_nil (then_ok ?_)
        refine wp_cond_false (he195.op rfl) ?_
        refine wp_skip ?_
        refine then_ok ?_
        refine wp_seq ?_
        refine wp_region_held_drew (S := Hp w [⟨p181, 33, #[.int .i64 R2.mo, .int .i64 R2.pl, .int .i64 R2.fi, .slice A2 R2.L.length c2, .slice B2 (pgI R2.P).length d2]⟩, ⟨p168, 38, #[.int .i64 wh, .int .i64 xi, .int .i64 xj, .slice xA l.length xcc, .bool xs_]⟩]) (by kernel_rfl) ((hH192.drew).drop1 2 rfl) (fun _ => ?_)
        have hn : New w192 (World.drew w192) := (Fr.refl _ _).drew
        replace hD := (hD).new hn
        clear hn
        have hH196 := hH192.drew
        clear hH192
        generalize World.drew w192 = w196 at *
        refine hW (fuel := 3) (i := 0) (.pointer (some ⟨p2, 0, none⟩)) he195 rfl (by kernel_rfl) (fun _ _ _ h => h) (fun w' _ => rn_mv rfl (he195.op rfl) w') (hH196.drop1 2 rfl) ?_
        intro a197 he197
        clear he195 a195
        refine hW (fuel := 2) (i := 1) (.agg #[.int .i64 R2.mo, .int .i64 R2.pl, .int .i64 R2.fi, .slice A2 R2.L.length c2, .slice B2 (pgI R2.P).length d2]) he197 rfl (by kernel_rfl) (fun _ _ _ h => h) (fun w' hw' => rn_ldp _ rfl (he197.op rfl) undQ rfl infoQ5 (hw'.at (i := 0) rfl) rfl) (hH196.drop1 2 rfl) ?_
        intro a198 he198
        clear he197 a197
        refine hW (fuel := 1) (i := 2) (.pointer (some ⟨p2, 0, none⟩)) he198 rfl (by kernel_rfl) (fun _ _ _ h => h) (fun w' _ => rn_asg rfl (he198.op rfl) w') (hH196.drop1 2 rfl) ?_
        intro a199 he199
        clear he198 a198
        refine hSetV (fuel := 0) (n := 3) 2 #[.int .i64 R2.mo, .int .i64 R2.pl, .int .i64 R2.fi, .slice A2 R2.L.length c2, .slice B2 (pgI R2.P).length d2] (cs := #[.int .i64 R2.mo, .int .i64 R2.pl, .int .i64 R2.fi, .slice A2 R2.L.length c2, .slice B2 (pgI R2.P).length d2]) he199 hH196 (by kernel_rfl) rfl rfl (wanted_plain rfl _) rfl rfl rfl rfl rfl (by kernel_rfl) (by kernel_rfl) (by kernel_rfl) rfl ?_
        intro w200 a201 hH200 hf he201
        replace hD := hD.setb (i := 2) rfl rfl hf
        replace hH200 : Hp w [⟨p181, 33, #[.int .i64 R2.mo, .int .i64 R2.pl, .int .i64 R2.fi, .slice A2 R2.L.length c2, .slice B2 (pgI R2.P).length d2]⟩, ⟨p168, 38, #[.int .i64 wh, .int .i64 xi, .int .i64 xj, .slice xA l.length xcc, .bool xs_]⟩, ⟨p156, 33, #[.int .i64 R2.mo, .int .i64 R2.pl, .int .i64 R2.fi, .slice A2 R2.L.length c2, .slice B2 (pgI R2.P).length d2]⟩] w200 := hH200
        refine ⟨(hH200.drop1 2 rfl), ?_⟩
        clear hf
        clear he199 a199 hH196
        refine wpAnyH_done (by kernel_rfl) ?_ _
        refine then_ok ?_
        have he202 : Env 128 [(7, .pointer (some ⟨p2, 0, none⟩)), (11, .pointer (some ⟨p168, 0, none⟩)), (9, .pointer (some ⟨p156, 0, none⟩)), (68, .slice (some ⟨b, oo, none⟩) xs.length c), (69, .int .i64 xs.length), (70, .int .i64 k)] a201 := he201.mem ⟨rfl, rfl, rfl, rfl, rfl, rfl, trivial⟩
        clear he201
        as_aux_lemma =>
          have hgl := getR_len (i := xi) hok2
          refine wp_seq (wp_region_lit ?_)
          refine lW (.agg #[.int .i64 R2.mo, .int .i64 R2.pl, .int .i64 R2.fi, .slice A2 R2.L.length c2, .slice B2 (pgI R2.P).length d2]) he202 rfl (rn_ldp _ rfl (he202.op rfl) undQ rfl infoQ5 (hH200.at (i := 2) rfl) rfl) ?_
          intro a203 he203
          clear he202 a201
          refine lW (.pointer (some ⟨p168, 1, none⟩)) he203 rfl (rn_faA1 rfl (he203.op rfl) rfl w200) ?_
          intro a204 he204
          clear he203 a203
          refine lW (.int .i64 xi) he204 rfl (rn_ld1 rfl (he204.op rfl) Tryd.underlying3 (hH200.at (i := 1) rfl) rfl) ?_
          intro a205 he205
          clear he204 a204
          replace hD := hD.pick 1 rfl
          obtain ⟨F_, hsep, hF, hstep⟩ := Dt.step (A := [rdD (.slice A2 R2.L.length c2) R2.L]) (D := [ringD p2 R2, rowG (.slice B2 (pgI R2.P).length d2) (pgI R2.P)]) hD
          refine lCx he205 rfl rfl Tryd.func13 (by kernel_rfl) rfl rfl (wanted_plain rfl _) rfl (qGet_d (rdD (.slice A2 R2.L.length c2) R2.L) R2 A2 B2 c2 _ d2 xi F_ w200 hsep (fun _ _ h => h) hn2) ?_
          rintro _ w206 ⟨Ag, cg, rfl, ht⟩
          obtain ⟨hD2, hHs⟩ := hstep _ _ ht
          have hH206 := hHs _ rfl hH200
          clear hHs hstep hsep hF
          replace hD := hD2
          clear hD2 ht
          refine ⟨_, rfl, ?_⟩
          intro a207 he207
          clear he205 a205 hH200
          refine lW (.tuple #[.agg #[.slice Ag (getR R2 xi).1.1.length cg, .bool (getR R2 xi).1.2], .int .i64 (getR R2 xi).2]) he207 rfl (rn_mv rfl (he207.op rfl) w206) ?_
          intro a208 he208
          clear he207 a207
          refine lW (.agg #[.slice Ag (getR R2 xi).1.1.length cg, .bool (getR R2 xi).1.2]) he208 rfl (rn_ext rfl (he208.op rfl) rfl w206) ?_
          intro a209 he209
          clear he208 a208
          refine lW (.int .i64 (getR R2 xi).2) he209 rfl (rn_ext rfl (he209.op rfl) rfl w206) ?_
          intro a210 he210
          clear he209 a209
          refine lNewP (fun p => .pointer (some ⟨p, 0, none⟩)) he210 hH206 rfl rfl (wanted_plain rfl _) (rn_allocL rfl w206) ?_
          intro p211 w211 a212 hp hn hH211 he212
          replace hD := hD.cons hn hp (hH211.at (i := 0) rfl).lt
          clear he210 a210 hH206 hn hp
          refine lSetF 0 #[.slice Ag (getR R2 xi).1.1.length cg, .bool (getR R2 xi).1.2] (cs := #[.slice Ag (getR R2 xi).1.1.length cg, .bool (getR R2 xi).1.2]) he212 hH211 rfl (wanted_plain rfl _) rfl rfl rfl rfl rfl (by kernel_rfl) (by kernel_rfl) (by kernel_rfl) rfl ?_
          intro w213 a214 hH213 hf he214
          replace hD := hD.setb (i := 0) rfl rfl hf
          replace hH213 : Hp w [⟨p211, 36, #[.slice Ag (getR R2 xi).1.1.length cg, .bool (getR R2 xi).1.2]⟩, ⟨p181, 33, #[.int .i64 R2.mo, .int .i64 R2.pl, .int .i64 R2.fi, .slice A2 R2.L.length c2, .slice B2 (pgI R2.P).length d2]⟩, ⟨p168, 38, #[.int .i64 wh, .int .i64 xi, .int .i64 xj, .slice xA l.length xcc, .bool xs_]⟩, ⟨p156, 33, #[.int .i64 R2.mo, .int .i64 R2.pl, .int .i64 R2.fi, .slice A2 R2.L.length c2, .slice B2 (pgI R2.P).length d2]⟩] w213 := hH213
          clear hf
          clear he212 a212 hH211
          refine lW (.int .i64 (getR R2 xi).2) he214 rfl (rn_asg rfl (he214.op rfl) w213) ?_
          intro a215 he215
          clear he214 a214
          refine wpList_nil (then_ok ?_)
          refine wp_seq (wp_region_lit ?_)
          refine lW (.agg #[.int .i64 R2.mo, .int .i64 R2.pl, .int .i64 R2.fi, .slice A2 R2.L.length c2, .slice B2 (pgI R2.P).length d2]) he215 rfl (rn_ldp _ rfl (he215.op rfl) undQ rfl infoQ5 (hH213.at (i := 3) rfl) rfl) ?_
          intro a216 he216
          clear he215 a215
          refine lW (.pointer (some ⟨p168, 1, none⟩)) he216 rfl (rn_faA1 rfl (he216.op rfl) rfl w213) ?_
          intro a217 he217
          clear he216 a216
          refine lW (.int .i64 xi) he217 rfl (rn_ld1 rfl (he217.op rfl) Tryd.underlying3 (hH213.at (i := 2) rfl) rfl) ?_
          intro a218 he218
          clear he217 a217
          refine lW (.pointer (some ⟨p168, 2, none⟩)) he218 rfl (rn_faA2 rfl (he218.op rfl) rfl w213) ?_
          intro a219 he219
          clear he218 a218
          refine lW (.int .i64 xj) he219 rfl (rn_ld1 rfl (he219.op rfl) Tryd.underlying3 (hH213.at (i := 2) rfl) rfl) ?_
          intro a220 he220
          clear he219 a219
          obtain ⟨F_, hsep, hF, hstep⟩ := Dt.step (A := [andD (rdD (.slice A2 R2.L.length c2) R2.L) (slD (.slice Ag (getR R2 xi).1.1.length cg) (getR R2 xi).1.1)]) (D := [ringD p2 R2, rowG (.slice B2 (pgI R2.P).length d2) (pgI R2.P)]) hD
          refine lCx he220 rfl rfl Tryd.func14 (by kernel_rfl) rfl rfl (wanted_plain rfl _) rfl (qBetween_d (andD (rdD (.slice A2 R2.L.length c2) R2.L) (slD (.slice Ag (getR R2 xi).1.1.length cg) (getR R2 xi).1.1)) R2 A2 B2 c2 _ d2 xi xj F_ w213 hsep (fun _ _ h => h.1) hn2) ?_
          rintro _ w221 ⟨Al, cl, rfl, ht⟩
          obtain ⟨hD2, hHs⟩ := hstep _ _ ht
          have hH221 := hHs _ rfl hH213
          clear hHs hstep hsep hF
          replace hD := hD2
          clear hD2 ht
          refine ⟨_, rfl, ?_⟩
          intro a222 he222
          clear he220 a220 hH213
          refine lW (.tuple #[.slice Al (rangeL R2 xi xj).length cl, .int .i64 (rangeE R2 xi xj)]) he222 rfl (rn_mv rfl (he222.op rfl) w221) ?_
          intro a223 he223
          clear he222 a222
          refine lW (.slice Al (rangeL R2 xi xj).length cl) he223 rfl (rn_ext rfl (he223.op rfl) rfl w221) ?_
          intro a224 he224
          clear he223 a223
          refine lW (.int .i64 (rangeE R2 xi xj)) he224 rfl (rn_ext rfl (he224.op rfl) rfl w221) ?_
          intro a225 he225
          clear he224 a224
          refine lW (.slice Al (rangeL R2 xi xj).length cl) he225 rfl (rn_asg rfl (he225.op rfl) w221) ?_
          intro a226 he226
          clear he225 a225
          refine lW (.int .i64 (rangeE R2 xi xj)) he226 rfl (rn_asg rfl (he226.op rfl) w221) ?_
          intro a227 he227
          clear he226 a226
          refine wpList_nil (then_ok ?_)
          refine wp_seq (wp_region_lit ?_)
          refine lW (.pointer (some ⟨p2, 0, none⟩)) he227 rfl (rn_mv rfl (he227.op rfl) w221) ?_
          intro a228 he228
          clear he227 a227
          refine lW (.pointer (some ⟨p168, 1, none⟩)) he228 rfl (rn_faA1 rfl (he228.op rfl) rfl w221) ?_
          intro a229 he229
          clear he228 a228
          refine lW (.int .i64 xi) he229 rfl (rn_ld1 rfl (he229.op rfl) Tryd.underlying3 (hH221.at (i := 2) rfl) rfl) ?_
          intro a230 he230
          clear he229 a229
          refine lW (.agg #[.slice Ag (getR R2 xi).1.1.length cg, .bool (getR R2 xi).1.2]) he230 rfl (rn_ldp _ rfl (he230.op rfl) undL rfl infoL2 (hH221.at (i := 0) rfl) rfl) ?_
          intro a231 he231
          clear he230 a230
          refine lW (.int .i64 (getR R2 xi).2) he231 rfl (rn_mv rfl (he231.op rfl) w221) ?_
          intro a232 he232
          clear he231 a231
          refine lC he232 rfl rfl Tryd.func15 (by kernel_rfl) rfl rfl (wanted_plain rfl _) rfl (gets_b p2 R2 xi _ (getR R2 xi).1.1 (getR R2 xi).1.2 (getR R2 xi).2 _ w221 (hD.get (i := 1) rfl).choose_spec rfl (hD.get (i := 0) rfl).choose_spec.1.2.sl hD.tab) ?_
          intro w233 a234 hn he234
          have hH233 := hH221.call hn
          replace hD := (hD).new hn
          clear he232 a232 hH221 hn
          refine lW (.bool false) he234 rfl (rn_not (b := true) rfl (he234.op rfl) w233) ?_
          intro a235 he235
          clear he234 a234
          refine lW (.bool false) he235 rfl (rn_mv rfl (he235.op rfl) w233) ?_
          intro a236 he236
          clear he235 a235
          refine lV (.pointer (some ⟨p2, 0, none⟩)) he236 rfl rfl (he236.want rfl rfl rfl rfl rfl) (rn_mv rfl (he236.op rfl) w233) ?_
          intro a237 he237
          clear he236 a236
          refine lV (.pointer (some ⟨p168, 1, none⟩)) he237 rfl rfl (he237.want rfl rfl rfl rfl rfl) (rn_faA1 rfl (he237.op rfl) rfl w233) ?_
          intro a238 he238
          clear he237 a237
          refine lV (.int .i64 xi) he238 rfl rfl (he238.want rfl rfl rfl rfl rfl) (rn_ld1 rfl (he238.op rfl) Tryd.underlying3 (hH233.at (i := 2) rfl) rfl) ?_
          intro a239 he239
          clear he238 a238
          refine lV (.pointer (some ⟨p168, 2, none⟩)) he239 rfl rfl (he239.want rfl rfl rfl rfl rfl) (rn_faA2 rfl (he239.op rfl) rfl w233) ?_
          intro a240 he240
          clear he239 a239
          refine lV (.int .i64 xj) he240 rfl rfl (he240.want rfl rfl rfl rfl rfl) (rn_ld1 rfl (he240.op rfl) Tryd.underlying3 (hH233.at (i := 2) rfl) rfl) ?_
          intro a241 he241
          clear he240 a240
          refine lV (.int .i64 (rangeE R2 xi xj)) he241 rfl rfl (he241.want rfl rfl rfl rfl rfl) (rn_mv rfl (he241.op rfl) w233) ?_
          intro a242 he242
          clear he241 a241
          refine lV (.slice Al (rangeL R2 xi xj).length cl) he242 rfl rfl (he242.want rfl rfl rfl rfl rfl) (rn_mv rfl (he242.op rfl) w233) ?_
          intro a243 he243
          clear he242 a242
          refine lC he243 rfl rfl Tryd.func16 (by kernel_rfl) rfl rfl (he243.want rfl rfl rfl rfl rfl) rfl (ranges_b p2 R2 xi xj _ (rangeL R2 xi xj) (rangeE R2 xi xj) _ w233 (hD.get (i := 1) rfl).choose_spec (by omega) rfl rfl (LnsF.r (hD.get (i := 0) rfl).choose_spec.2) hD.tab) ?_
          intro w244 a245 hn he245
          have hH244 := hH233.call hn
          replace hD := (hD).new hn
          clear he243 a243 hH233 hn
          refine lV (.bool false) he245 rfl rfl (he245.want rfl rfl rfl rfl rfl) (rn_not (b := true) rfl (he245.op rfl) w244) ?_
          intro a246 he246
          clear he245 a245
          refine lW (.bool false) he246 rfl (rn_pk0 rfl (he246.op rfl) (he246.op rfl) w244) ?_
          intro a247 he247
          clear he246 a246
          refine wpList_nil (then_ok ?_)
          refine wp_cond_false (he247.op rfl) ?_
          refine wp_skip ?_
          refine block_ok ?_
          refine then_ok ?_
          replace hD := Dt.front (A := [andD (andD (rdD (.slice A2 R2.L.length c2) R2.L) (slD (.slice Ag (getR R2 xi).1.1.length cg) (getR R2 xi).1.1)) (rdD (.slice Al (rangeL R2 xi xj).length cl) (rangeL R2 xi xj))]) (B := [rdD (.slice A2 R2.L.length c2) R2.L]) (D := [ringD p2 R2, rowG (.slice B2 (pgI R2.P).length d2) (pgI R2.P)]) hD (fun G h => SepL.one h.the.1.1)
          replace hD := hD.pick 2 rfl
          replace hD := hD.pick 1 rfl
          replace hD := hD.pick 2 rfl
          have hH248 := hH244.tail rfl
          clear hH244
          replace hD := hD.tail
          have hH249 := hH248.tail rfl
          clear hH248
          replace hD := hD.tail
          have hH250 := hH249.tail rfl
          clear hH249
          replace hD := hD.tail
          refine wp_region_lit ?_
          refine lW (.int .i64 ((k + 1 : Nat) : Int)) he247 rfl (rn_add1 rfl (he247.op rfl) (he247.op rfl) (by rw [IntWalk.i64_in _ ⟨by omega, by omega⟩]; omega) w244) ?_
          intro a251 he251
          clear he247 a247
          refine lW (.int .i64 ((k + 1 : Nat) : Int)) he251 rfl (rn_mv rfl (he251.op rfl) w244) ?_
          intro a252 he252
          clear he251 a251
          refine wpList_nil (then_ok ?_)
          exact ⟨xs.length - (k + 1), by omega, k + 1, p2, R2, A2, c2, B2, d2, rfl, by omega, by omega, by omega, he252.mem ⟨rfl, rfl, rfl, rfl, rfl, trivial⟩, hH250, hD⟩
      refine wp_seq (wp_region_lit ?_)
      refine lW (.bool false) he164 rfl (rn_lss rfl (he164.op rfl) (he164.op rfl) (decide_eq_false (by omega)) w164) ?_
      intro a253 he253
      clear he164 a164
      refine wpList_nil (then_ok ?_)
      refine wp_seq ?_
      refine wp_cond_false (he253.op rfl) ?_
      refine wp_exit ?_
      simp only [Exit.then, Exit.inBlock, if_true]
      refine wp_seq (wp_region_lit ?_)
      refine lC he253 rfl rfl Tryd.func8 (by kernel_rfl) rfl rfl (wanted_plain rfl _) rfl (known_any w164 hD.tab) ?_
      intro w254 a255 hn he255
      have hH254 := hH164.call hn
      replace hD := (hD).new hn
      clear he253 a253 hH164 hn
      refine lW (.bool true) he255 rfl (rn_asg rfl (he255.op rfl) w254) ?_
      intro a256 he256
      clear he255 a255
      refine wpList_nil (then_ok ?_)
      refine wp_ret ?_
      try simp only [Exit.then, Exit.inBlock]
      exact ret_env rfl he256 rfl ⟨rfl, hD.fr.new_below⟩

end Go.Proofs.YtlpjhaghphmbeaaDoor
