/-
  Numbers that are parameters, numbers with an index, lists compared: package params and its specification.
-/
import Derived.Test.YtpebpjkhkgakfaaDoorPLib
namespace Go.Proofs.YtpebpjkhkgakfaaDoor
open Go.RowKit

theorem okL_no1 {l : List Int} (h : 16 < l.length) : ¬ okL l := fun hh => by have := hh.1; omega
theorem okL_no2 {l : List Int} (h1 : l.length = 1) (h2 : l.getD 0 0 = -1) : ¬ okL l := fun hh => hh.2.2 (by
  match l, h1 with
  | [x], _ => exact congrArg (fun y => [y]) h2)
theorem okL_no3 {l : List Int} {i : Nat} (h1 : i < l.length) (h2 : ¬ ok1 (l.getD i 0)) : ¬ okL l := fun hh => h2 (hh.2.1 _ (getD_mem h1))
theorem ok_step {l : List Int} {i : Nat} (h : ∀ n ∈ l.take i, ok1 n) (hi : i < l.length) (h2 : ok1 (l.getD i 0)) : ∀ n ∈ l.take (i + 1), ok1 n := by
  intro n hn
  rw [take_snoc (getD_at (d := 0) hi)] at hn
  rcases List.mem_append.1 hn with hn | hn
  · exact h n hn
  · simp only [List.mem_singleton] at hn; subst hn; exact h2
theorem okL_yes {l : List Int} {i : Nat} (h1 : l.length ≤ 16) (h2 : ¬ (l.length = 1 ∧ l.getD 0 0 = -1)) (h : ∀ n ∈ l.take i, ok1 n) (hi : l.length ≤ i) : okL l := by
  rw [List.take_of_length_le hi] at h
  refine ⟨h1, h, ?_⟩
  rintro rfl
  exact h2 ⟨rfl, rfl⟩
theorem getL_ge (l : List Int) (i : Int) : 0 ≤ getL l i 1 := by
  unfold getL
  split <;> omega
theorem one_eq (l : List Int) (i : Int) : (getL l i 1 = 0 → oneL l i = 1) ∧ (getL l i 1 ≠ 0 → oneL l i = getL l i 1) := by
  have := getL_ge l i
  unfold oneL
  omega
theorem same_no {l m : List Int} {i : Nat} (h : ¬ l.getD i 0 = m.getD i 0) : ¬ l = m := fun e => h (by rw [e])
theorem same_step {l m : List Int} {i : Nat} (h : l.take i = m.take i) (h1 : i < l.length) (h2 : i < m.length) (h3 : l.getD i 0 = m.getD i 0) : l.take (i + 1) = m.take (i + 1) := by
  rw [take_snoc (getD_at (d := 0) h1), take_snoc (getD_at (d := 0) h2), h, h3]
theorem same_yes {l m : List Int} {i : Nat} (h : l.take i = m.take i) (h1 : l.length ≤ i) (h2 : m.length ≤ i) : l = m := by
  rw [List.take_of_length_le h1, List.take_of_length_le h2] at h
  exact h
set_option linter.unusedSimpArgs false in
set_option maxRecDepth 100000 in
set_option maxHeartbeats 1600000 in
theorem Valid_c (A : Option Addr) (c b : Nat) (l : List Int) (v : Bool) (hv : decide (okL l) = v) (hl : l.length ≤ 1000000) (w : World) (hr : Rd w b A l.length (ivs l)) : Calls Tryd.prog 10 #[.slice A l.length c] w fun e w' => e = .returned (.bool v) ∧ New w w' := by
  subst hv
  refine calls_args (vl := [Value.slice A l.length c]) 36 Tryd.func10 rfl Tryd.ntmps10 (by kernel_rfl) (fun a he => ?_)
  have he0 : Env 36 [(0, Value.slice A l.length c)] a := he
  clear he
  have hH := Hp.start w
  refine wp_seq ?_
  refine wp_region_lit ?_
  refine lV (Value.bool false) he0 rfl rfl (wanted_plain rfl _) (rn_asg rfl (he0.op rfl) w) ?_
  intro a1 he1
  clear he0 a
  refine wpList_nil ?_
  refine then_ok ?_
  refine wp_seq ?_
  refine wp_seq ?_
  refine wp_region_lit ?_
  refine lV (Value.slice A l.length c) he1 rfl rfl (wanted_plain rfl _) (rn_mv rfl (he1.op rfl) w) ?_
  intro a2 he2
  clear he1 a1
  refine lV (Value.int .i64 ((l.length : Nat) : Int)) he2 rfl rfl (wanted_plain rfl _) (rn_lenJ rfl (he2.op rfl) w) ?_
  intro a3 he3
  clear he2 a2
  by_cases hb0 : 16 < ((l.length : Nat) : Int)
  · skip
    refine lV (Value.bool true) he3 rfl rfl (wanted_plain rfl _) (rn_gtI rfl (he3.op rfl) (he3.op rfl) (decide_eq_true hb0) w) ?_
    intro a4 he4
    clear he3 a3
    refine lV (Value.bool true) he4 rfl rfl (wanted_plain rfl _) (rn_mv rfl (he4.op rfl) w) ?_
    intro a5 he5
    clear he4 a4
    refine lSkip he5 rfl rfl (he5.wantNot rfl rfl rfl rfl rfl rfl) ?_
    intro a6 he6
    clear he5 a5
    refine lSkip he6 rfl rfl (he6.wantNot rfl rfl rfl rfl rfl rfl) ?_
    intro a7 he7
    clear he6 a6
    refine lSkip he7 rfl rfl (he7.wantNot rfl rfl rfl rfl rfl rfl) ?_
    intro a8 he8
    clear he7 a7
    refine lSkip he8 rfl rfl (he8.wantNot rfl rfl rfl rfl rfl rfl) ?_
    intro a9 he9
    clear he8 a8
    refine lSkip he9 rfl rfl (he9.wantU rfl rfl rfl rfl rfl) ?_
    intro a10 he10
    clear he9 a9
    refine lSkip he10 rfl rfl (he10.wantU rfl rfl rfl rfl rfl) ?_
    intro a11 he11
    clear he10 a10
    refine lSkip he11 rfl rfl (he11.wantU rfl rfl rfl rfl rfl) ?_
    intro a12 he12
    clear he11 a11
    refine lSkip he12 rfl rfl (he12.wantU rfl rfl rfl rfl rfl) ?_
    intro a13 he13
    clear he12 a12
    refine lSkip he13 rfl rfl (he13.wantNot rfl rfl rfl rfl rfl rfl) ?_
    intro a14 he14
    clear he13 a13
    refine lV (Value.bool true) he14 rfl rfl (wanted_plain rfl _) (rn_pk rfl (he14.op rfl) (he14.op rfl) w) ?_
    intro a15 he15
    clear he14 a14
    refine wpList_nil ?_
    refine then_ok ?_
    refine wp_cond_true (he15.op rfl) ?_
    refine wp_seq ?_
    refine wp_region_lit ?_
    refine lV (Value.bool false) he15 rfl rfl (wanted_plain rfl _) (rn_asg rfl (he15.op rfl) w) ?_
    intro a16 he16
    clear he15 a15
    refine wpList_nil ?_
    refine then_ok ?_
    refine wp_ret ?_
    try simp only [Exit.then, Exit.inBlock, Exit.noGoto]
    exact ret_env rfl he16 rfl ⟨by (refine congrArg (fun b => Ending.returned (.bool b)) ?_; first | exact (decide_eq_false (okL_no1 (by omega))).symm | exact (decide_eq_false (okL_no2 (by omega) (by assumption))).symm | exact (decide_eq_false (okL_no3 (i := i) (by omega) (by omega))).symm | exact (decide_eq_true (okL_yes (i := i) (by omega) (by omega) hok (by omega))).symm), hH.new⟩
  · skip
    refine lV (Value.bool false) he3 rfl rfl (wanted_plain rfl _) (rn_gtI rfl (he3.op rfl) (he3.op rfl) (decide_eq_false hb0) w) ?_
    intro a4 he4
    clear he3 a3
    refine lV (Value.bool false) he4 rfl rfl (wanted_plain rfl _) (rn_mv rfl (he4.op rfl) w) ?_
    intro a5 he5
    clear he4 a4
    refine lV (Value.slice A l.length c) he5 rfl rfl (he5.want rfl rfl rfl rfl rfl) (rn_mv rfl (he5.op rfl) w) ?_
    intro a6 he6
    clear he5 a5
    refine lV (Value.int .i64 ((l.length : Nat) : Int)) he6 rfl rfl (he6.want rfl rfl rfl rfl rfl) (rn_lenJ rfl (he6.op rfl) w) ?_
    intro a7 he7
    clear he6 a6
    by_cases hb1 : ((l.length : Nat) : Int) = 1
    · skip
      refine lV (Value.bool true) he7 rfl rfl (he7.want rfl rfl rfl rfl rfl) (rn_eqI rfl (he7.op rfl) (he7.op rfl) (beqT hb1) w) ?_
      intro a8 he8
      clear he7 a7
      refine lV (Value.bool true) he8 rfl rfl (he8.want rfl rfl rfl rfl rfl) (rn_mv rfl (he8.op rfl) w) ?_
      intro a9 he9
      clear he8 a8
      refine lV (Value.slice A l.length c) he9 rfl rfl (he9.want rfl rfl rfl rfl rfl) (rn_mv rfl (he9.op rfl) w) ?_
      intro a10 he10
      clear he9 a9
      refine lV (Value.pointer (some ⟨b, offA A + 0, none⟩)) he10 rfl rfl (he10.want rfl rfl rfl rfl rfl) (rn_ixJ (k := 0) (hr.new hH.new) rfl (he10.op rfl) (he10.op rfl) rfl (by omega)) ?_
      intro a11 he11
      clear he10 a10
      refine lV (Value.int .i64 (l.getD 0 0)) he11 rfl rfl (he11.want rfl rfl rfl rfl rfl) (rn_ldJ (hr.new hH.new) rfl (he11.op rfl) (by omega) (getD_at (by omega))) ?_
      intro a12 he12
      clear he11 a11
      by_cases hb2 : (l.getD 0 0) = (-1)
      · skip
        refine lV (Value.bool true) he12 rfl rfl (he12.want rfl rfl rfl rfl rfl) (rn_eqI rfl (he12.op rfl) (he12.op rfl) (beqT hb2) w) ?_
        intro a13 he13
        clear he12 a12
        refine lV (Value.bool true) he13 rfl rfl (he13.want rfl rfl rfl rfl rfl) (rn_pk rfl (he13.op rfl) (he13.op rfl) w) ?_
        intro a14 he14
        clear he13 a13
        refine lV (Value.bool true) he14 rfl rfl (wanted_plain rfl _) (rn_pk0 rfl (he14.op rfl) (he14.op rfl) w) ?_
        intro a15 he15
        clear he14 a14
        refine wpList_nil ?_
        refine then_ok ?_
        refine wp_cond_true (he15.op rfl) ?_
        refine wp_seq ?_
        refine wp_region_lit ?_
        refine lV (Value.bool false) he15 rfl rfl (wanted_plain rfl _) (rn_asg rfl (he15.op rfl) w) ?_
        intro a16 he16
        clear he15 a15
        refine wpList_nil ?_
        refine then_ok ?_
        refine wp_ret ?_
        try simp only [Exit.then, Exit.inBlock, Exit.noGoto]
        exact ret_env rfl he16 rfl ⟨by (refine congrArg (fun b => Ending.returned (.bool b)) ?_; first | exact (decide_eq_false (okL_no1 (by omega))).symm | exact (decide_eq_false (okL_no2 (by omega) (by assumption))).symm | exact (decide_eq_false (okL_no3 (i := i) (by omega) (by omega))).symm | exact (decide_eq_true (okL_yes (i := i) (by omega) (by omega) hok (by omega))).symm), hH.new⟩
      · skip
        refine lV (Value.bool false) he12 rfl rfl (he12.want rfl rfl rfl rfl rfl) (rn_eqI rfl (he12.op rfl) (he12.op rfl) (beqF hb2) w) ?_
        intro a13 he13
        clear he12 a12
        refine lV (Value.bool false) he13 rfl rfl (he13.want rfl rfl rfl rfl rfl) (rn_pk rfl (he13.op rfl) (he13.op rfl) w) ?_
        intro a14 he14
        clear he13 a13
        refine lV (Value.bool false) he14 rfl rfl (wanted_plain rfl _) (rn_pk0 rfl (he14.op rfl) (he14.op rfl) w) ?_
        intro a15 he15
        clear he14 a14
        refine wpList_nil ?_
        refine then_ok ?_
        refine wp_cond_false (he15.op rfl) ?_
        refine wp_skip ?_
        refine then_ok ?_
        refine wp_seq ?_
        refine wp_seq ?_
        refine wp_region_lit ?_
        refine lV (Value.slice A l.length c) he15 rfl rfl (wanted_plain rfl _) (rn_mv rfl (he15.op rfl) w) ?_
        intro a16 he16
        clear he15 a15
        refine lV (Value.int .i64 ((l.length : Nat) : Int)) he16 rfl rfl (wanted_plain rfl _) (rn_lenJ rfl (he16.op rfl) w) ?_
        intro a17 he17
        clear he16 a16
        refine lV (Value.int .i64 0) he17 rfl rfl (wanted_plain rfl _) (rn_mv rfl (he17.op rfl) w) ?_
        intro a18 he18
        clear he17 a17
        refine wpList_nil ?_
        refine then_ok ?_
        refine wp_block ?_
        refine loop_nat (fun q a w' => ∃ (i : Nat), q = l.length - i ∧ i ≤ l.length ∧ (∀ n ∈ l.take i, ok1 n) ∧ Env 36 [(21, Value.int .i64 (i : Int)), (20, Value.int .i64 ((l.length : Nat) : Int)), (19, Value.slice A l.length c)] a ∧ Hp w [] w') _ ⟨0, rfl, Nat.zero_le _, (fun n hn => by simp at hn), he18.mem ⟨rfl, rfl, rfl, trivial⟩, hH⟩ ?_
        clear he18 hH
        rintro q a19 w19 ⟨i, rfl, hi, hok, he19, hH19⟩
        refine wp_seq ?_
        refine wp_region_lit ?_
        by_cases hb3 : (i : Int) < ((l.length : Nat) : Int)
        · skip
          refine lV (Value.bool true) he19 rfl rfl (wanted_plain rfl _) (rn_lsI rfl (he19.op rfl) (he19.op rfl) (decide_eq_true hb3) w19) ?_
          intro a20 he20
          clear he19 a19
          refine wpList_nil ?_
          refine then_ok ?_
          refine wp_seq ?_
          refine wp_cond_true (he20.op rfl) ?_
          refine wp_skip ?_
          refine then_ok ?_
          refine wp_seq ?_
          refine wp_block ?_
          refine wp_seq ?_
          refine wp_region_lit ?_
          refine lV (Value.pointer (some ⟨b, offA A + i, none⟩)) he20 rfl rfl (wanted_plain rfl _) (rn_ixJ (k := i) (hr.new hH19.new) rfl (he20.op rfl) (he20.op rfl) rfl (by omega)) ?_
          intro a21 he21
          clear he20 a20
          refine lV (Value.int .i64 (l.getD i 0)) he21 rfl rfl (wanted_plain rfl _) (rn_ldJ (hr.new hH19.new) rfl (he21.op rfl) (by omega) (getD_at (by omega))) ?_
          intro a22 he22
          clear he21 a21
          refine lV (Value.int .i64 (l.getD i 0)) he22 rfl rfl (wanted_plain rfl _) (rn_asg rfl (he22.op rfl) w19) ?_
          intro a23 he23
          clear he22 a22
          refine wpList_nil ?_
          refine then_ok ?_
          refine wp_seq ?_
          refine wp_region_lit ?_
          refine lV (Value.int .i64 (l.getD i 0)) he23 rfl rfl (wanted_plain rfl _) (rn_mv rfl (he23.op rfl) w19) ?_
          intro a24 he24
          clear he23 a23
          by_cases hb4 : (l.getD i 0) = (-1)
          · skip
            refine lV (Value.bool false) he24 rfl rfl (wanted_plain rfl _) (rn_neI rfl (he24.op rfl) (he24.op rfl) (bneT hb4) w19) ?_
            intro a25 he25
            clear he24 a24
            refine lV (Value.bool false) he25 rfl rfl (wanted_plain rfl _) (rn_mv rfl (he25.op rfl) w19) ?_
            intro a26 he26
            clear he25 a25
            refine lSkip he26 rfl rfl (he26.wantNot rfl rfl rfl rfl rfl rfl) ?_
            intro a27 he27
            clear he26 a26
            refine lSkip he27 rfl rfl (he27.wantNot rfl rfl rfl rfl rfl rfl) ?_
            intro a28 he28
            clear he27 a27
            refine lSkip he28 rfl rfl (he28.wantNot rfl rfl rfl rfl rfl rfl) ?_
            intro a29 he29
            clear he28 a28
            refine lSkip he29 rfl rfl (he29.wantU rfl rfl rfl rfl rfl) ?_
            intro a30 he30
            clear he29 a29
            refine lSkip he30 rfl rfl (he30.wantU rfl rfl rfl rfl rfl) ?_
            intro a31 he31
            clear he30 a30
            refine lSkip he31 rfl rfl (he31.wantNot rfl rfl rfl rfl rfl rfl) ?_
            intro a32 he32
            clear he31 a31
            refine lV (Value.bool false) he32 rfl rfl (wanted_plain rfl _) (rn_pk0 rfl (he32.op rfl) (he32.op rfl) w19) ?_
            intro a33 he33
            clear he32 a32
            refine wpList_nil ?_
            refine then_ok ?_
            refine wp_cond_false (he33.op rfl) ?_
            refine wp_skip ?_
            refine block_ok ?_
            refine then_ok ?_
            refine wp_region_lit ?_
            refine lV (Value.int .i64 ((i + 1 : Nat) : Int)) he33 rfl rfl (wanted_plain rfl _) (rn_addI rfl (he33.op rfl) (he33.op rfl) (by rw [i64w (by omega) (by omega)]; omega) w19) ?_
            intro a34 he34
            clear he33 a33
            refine lV (Value.int .i64 ((i + 1 : Nat) : Int)) he34 rfl rfl (wanted_plain rfl _) (rn_mv rfl (he34.op rfl) w19) ?_
            intro a35 he35
            clear he34 a34
            refine wpList_nil ?_
            refine then_ok ?_
            exact ⟨l.length - (i + 1), by omega, i + 1, rfl, by omega, ok_step hok (by omega) (by omega), he35.mem ⟨rfl, rfl, rfl, trivial⟩, hH19⟩
          · skip
            refine lV (Value.bool true) he24 rfl rfl (wanted_plain rfl _) (rn_neI rfl (he24.op rfl) (he24.op rfl) (bneF hb4) w19) ?_
            intro a25 he25
            clear he24 a24
            refine lV (Value.bool true) he25 rfl rfl (wanted_plain rfl _) (rn_mv rfl (he25.op rfl) w19) ?_
            intro a26 he26
            clear he25 a25
            refine lV (Value.int .i64 (l.getD i 0)) he26 rfl rfl (he26.want rfl rfl rfl rfl rfl) (rn_mv rfl (he26.op rfl) w19) ?_
            intro a27 he27
            clear he26 a26
            by_cases hb5 : (l.getD i 0) < 0
            · skip
              refine lV (Value.bool true) he27 rfl rfl (he27.want rfl rfl rfl rfl rfl) (rn_lsI rfl (he27.op rfl) (he27.op rfl) (decide_eq_true hb5) w19) ?_
              intro a28 he28
              clear he27 a27
              refine lV (Value.bool true) he28 rfl rfl (he28.want rfl rfl rfl rfl rfl) (rn_mv rfl (he28.op rfl) w19) ?_
              intro a29 he29
              clear he28 a28
              refine lSkip he29 rfl rfl (he29.wantNot rfl rfl rfl rfl rfl rfl) ?_
              intro a30 he30
              clear he29 a29
              refine lSkip he30 rfl rfl (he30.wantNot rfl rfl rfl rfl rfl rfl) ?_
              intro a31 he31
              clear he30 a30
              refine lV (Value.bool true) he31 rfl rfl (he31.want rfl rfl rfl rfl rfl) (rn_pk rfl (he31.op rfl) (he31.op rfl) w19) ?_
              intro a32 he32
              clear he31 a31
              refine lV (Value.bool true) he32 rfl rfl (wanted_plain rfl _) (rn_pk rfl (he32.op rfl) (he32.op rfl) w19) ?_
              intro a33 he33
              clear he32 a32
              refine wpList_nil ?_
              refine then_ok ?_
              refine wp_cond_true (he33.op rfl) ?_
              refine wp_seq ?_
              refine wp_region_lit ?_
              refine lV (Value.bool false) he33 rfl rfl (wanted_plain rfl _) (rn_asg rfl (he33.op rfl) w19) ?_
              intro a34 he34
              clear he33 a33
              refine wpList_nil ?_
              refine then_ok ?_
              refine wp_ret ?_
              try simp only [Exit.then, Exit.inBlock, Exit.noGoto]
              exact ret_env rfl he34 rfl ⟨by (refine congrArg (fun b => Ending.returned (.bool b)) ?_; first | exact (decide_eq_false (okL_no1 (by omega))).symm | exact (decide_eq_false (okL_no2 (by omega) (by assumption))).symm | exact (decide_eq_false (okL_no3 (i := i) (by omega) (by omega))).symm | exact (decide_eq_true (okL_yes (i := i) (by omega) (by omega) hok (by omega))).symm), hH19.new⟩
            · skip
              refine lV (Value.bool false) he27 rfl rfl (he27.want rfl rfl rfl rfl rfl) (rn_lsI rfl (he27.op rfl) (he27.op rfl) (decide_eq_false hb5) w19) ?_
              intro a28 he28
              clear he27 a27
              refine lV (Value.bool false) he28 rfl rfl (he28.want rfl rfl rfl rfl rfl) (rn_mv rfl (he28.op rfl) w19) ?_
              intro a29 he29
              clear he28 a28
              refine lV (Value.int .i64 (l.getD i 0)) he29 rfl rfl (he29.want rfl rfl rfl rfl rfl) (rn_mv rfl (he29.op rfl) w19) ?_
              intro a30 he30
              clear he29 a29
              by_cases hb6 : 9999 < (l.getD i 0)
              · skip
                refine lV (Value.bool true) he30 rfl rfl (he30.want rfl rfl rfl rfl rfl) (rn_gtI rfl (he30.op rfl) (he30.op rfl) (decide_eq_true hb6) w19) ?_
                intro a31 he31
                clear he30 a30
                refine lV (Value.bool true) he31 rfl rfl (he31.want rfl rfl rfl rfl rfl) (rn_pk0 rfl (he31.op rfl) (he31.op rfl) w19) ?_
                intro a32 he32
                clear he31 a31
                refine lV (Value.bool true) he32 rfl rfl (wanted_plain rfl _) (rn_pk rfl (he32.op rfl) (he32.op rfl) w19) ?_
                intro a33 he33
                clear he32 a32
                refine wpList_nil ?_
                refine then_ok ?_
                refine wp_cond_true (he33.op rfl) ?_
                refine wp_seq ?_
                refine wp_region_lit ?_
                refine lV (Value.bool false) he33 rfl rfl (wanted_plain rfl _) (rn_asg rfl (he33.op rfl) w19) ?_
                intro a34 he34
                clear he33 a33
                refine wpList_nil ?_
                refine then_ok ?_
                refine wp_ret ?_
                try simp only [Exit.then, Exit.inBlock, Exit.noGoto]
                exact ret_env rfl he34 rfl ⟨by (refine congrArg (fun b => Ending.returned (.bool b)) ?_; first | exact (decide_eq_false (okL_no1 (by omega))).symm | exact (decide_eq_false (okL_no2 (by omega) (by assumption))).symm | exact (decide_eq_false (okL_no3 (i := i) (by omega) (by omega))).symm | exact (decide_eq_true (okL_yes (i := i) (by omega) (by omega) hok (by omega))).symm), hH19.new⟩
              · skip
                refine lV (Value.bool false) he30 rfl rfl (he30.want rfl rfl rfl rfl rfl) (rn_gtI rfl (he30.op rfl) (he30.op rfl) (decide_eq_false hb6) w19) ?_
                intro a31 he31
                clear he30 a30
                refine lV (Value.bool false) he31 rfl rfl (he31.want rfl rfl rfl rfl rfl) (rn_pk0 rfl (he31.op rfl) (he31.op rfl) w19) ?_
                intro a32 he32
                clear he31 a31
                refine lV (Value.bool false) he32 rfl rfl (wanted_plain rfl _) (rn_pk rfl (he32.op rfl) (he32.op rfl) w19) ?_
                intro a33 he33
                clear he32 a32
                refine wpList_nil ?_
                refine then_ok ?_
                refine wp_cond_false (he33.op rfl) ?_
                refine wp_skip ?_
                refine block_ok ?_
                refine then_ok ?_
                refine wp_region_lit ?_
                refine lV (Value.int .i64 ((i + 1 : Nat) : Int)) he33 rfl rfl (wanted_plain rfl _) (rn_addI rfl (he33.op rfl) (he33.op rfl) (by rw [i64w (by omega) (by omega)]; omega) w19) ?_
                intro a34 he34
                clear he33 a33
                refine lV (Value.int .i64 ((i + 1 : Nat) : Int)) he34 rfl rfl (wanted_plain rfl _) (rn_mv rfl (he34.op rfl) w19) ?_
                intro a35 he35
                clear he34 a34
                refine wpList_nil ?_
                refine then_ok ?_
                exact ⟨l.length - (i + 1), by omega, i + 1, rfl, by omega, ok_step hok (by omega) (by omega), he35.mem ⟨rfl, rfl, rfl, trivial⟩, hH19⟩
        · skip
          refine lV (Value.bool false) he19 rfl rfl (wanted_plain rfl _) (rn_lsI rfl (he19.op rfl) (he19.op rfl) (decide_eq_false hb3) w19) ?_
          intro a20 he20
          clear he19 a19
          refine wpList_nil ?_
          refine then_ok ?_
          refine wp_seq ?_
          refine wp_cond_false (he20.op rfl) ?_
          refine wp_exit ?_
          refine then_exit ?_
          refine then_exit ?_
          refine block_exit ?_
          refine then_ok ?_
          refine wp_seq ?_
          refine wp_region_lit ?_
          refine lV (Value.bool true) he20 rfl rfl (wanted_plain rfl _) (rn_asg rfl (he20.op rfl) w19) ?_
          intro a21 he21
          clear he20 a20
          refine wpList_nil ?_
          refine then_ok ?_
          refine wp_ret ?_
          try simp only [Exit.then, Exit.inBlock, Exit.noGoto]
          exact ret_env rfl he21 rfl ⟨by (refine congrArg (fun b => Ending.returned (.bool b)) ?_; first | exact (decide_eq_false (okL_no1 (by omega))).symm | exact (decide_eq_false (okL_no2 (by omega) (by assumption))).symm | exact (decide_eq_false (okL_no3 (i := i) (by omega) (by omega))).symm | exact (decide_eq_true (okL_yes (i := i) (by omega) (by omega) hok (by omega))).symm), hH19.new⟩
    · skip
      refine lV (Value.bool false) he7 rfl rfl (he7.want rfl rfl rfl rfl rfl) (rn_eqI rfl (he7.op rfl) (he7.op rfl) (beqF hb1) w) ?_
      intro a8 he8
      clear he7 a7
      refine lV (Value.bool false) he8 rfl rfl (he8.want rfl rfl rfl rfl rfl) (rn_mv rfl (he8.op rfl) w) ?_
      intro a9 he9
      clear he8 a8
      refine lSkip he9 rfl rfl (he9.wantNot rfl rfl rfl rfl rfl rfl) ?_
      intro a10 he10
      clear he9 a9
      refine lSkip he10 rfl rfl (he10.wantNot rfl rfl rfl rfl rfl rfl) ?_
      intro a11 he11
      clear he10 a10
      refine lSkip he11 rfl rfl (he11.wantNot rfl rfl rfl rfl rfl rfl) ?_
      intro a12 he12
      clear he11 a11
      refine lSkip he12 rfl rfl (he12.wantNot rfl rfl rfl rfl rfl rfl) ?_
      intro a13 he13
      clear he12 a12
      refine lV (Value.bool false) he13 rfl rfl (he13.want rfl rfl rfl rfl rfl) (rn_pk0 rfl (he13.op rfl) (he13.op rfl) w) ?_
      intro a14 he14
      clear he13 a13
      refine lV (Value.bool false) he14 rfl rfl (wanted_plain rfl _) (rn_pk0 rfl (he14.op rfl) (he14.op rfl) w) ?_
      intro a15 he15
      clear he14 a14
      refine wpList_nil ?_
      refine then_ok ?_
      refine wp_cond_false (he15.op rfl) ?_
      refine wp_skip ?_
      refine then_ok ?_
      refine wp_seq ?_
      refine wp_seq ?_
      refine wp_region_lit ?_
      refine lV (Value.slice A l.length c) he15 rfl rfl (wanted_plain rfl _) (rn_mv rfl (he15.op rfl) w) ?_
      intro a16 he16
      clear he15 a15
      refine lV (Value.int .i64 ((l.length : Nat) : Int)) he16 rfl rfl (wanted_plain rfl _) (rn_lenJ rfl (he16.op rfl) w) ?_
      intro a17 he17
      clear he16 a16
      refine lV (Value.int .i64 0) he17 rfl rfl (wanted_plain rfl _) (rn_mv rfl (he17.op rfl) w) ?_
      intro a18 he18
      clear he17 a17
      refine wpList_nil ?_
      refine then_ok ?_
      refine wp_block ?_
      refine loop_nat (fun q a w' => ∃ (i : Nat), q = l.length - i ∧ i ≤ l.length ∧ (∀ n ∈ l.take i, ok1 n) ∧ Env 36 [(21, Value.int .i64 (i : Int)), (20, Value.int .i64 ((l.length : Nat) : Int)), (19, Value.slice A l.length c)] a ∧ Hp w [] w') _ ⟨0, rfl, Nat.zero_le _, (fun n hn => by simp at hn), he18.mem ⟨rfl, rfl, rfl, trivial⟩, hH⟩ ?_
      clear he18 hH
      rintro q a19 w19 ⟨i, rfl, hi, hok, he19, hH19⟩
      refine wp_seq ?_
      refine wp_region_lit ?_
      by_cases hb2 : (i : Int) < ((l.length : Nat) : Int)
      · skip
        refine lV (Value.bool true) he19 rfl rfl (wanted_plain rfl _) (rn_lsI rfl (he19.op rfl) (he19.op rfl) (decide_eq_true hb2) w19) ?_
        intro a20 he20
        clear he19 a19
        refine wpList_nil ?_
        refine then_ok ?_
        refine wp_seq ?_
        refine wp_cond_true (he20.op rfl) ?_
        refine wp_skip ?_
        refine then_ok ?_
        refine wp_seq ?_
        refine wp_block ?_
        refine wp_seq ?_
        refine wp_region_lit ?_
        refine lV (Value.pointer (some ⟨b, offA A + i, none⟩)) he20 rfl rfl (wanted_plain rfl _) (rn_ixJ (k := i) (hr.new hH19.new) rfl (he20.op rfl) (he20.op rfl) rfl (by omega)) ?_
        intro a21 he21
        clear he20 a20
        refine lV (Value.int .i64 (l.getD i 0)) he21 rfl rfl (wanted_plain rfl _) (rn_ldJ (hr.new hH19.new) rfl (he21.op rfl) (by omega) (getD_at (by omega))) ?_
        intro a22 he22
        clear he21 a21
        refine lV (Value.int .i64 (l.getD i 0)) he22 rfl rfl (wanted_plain rfl _) (rn_asg rfl (he22.op rfl) w19) ?_
        intro a23 he23
        clear he22 a22
        refine wpList_nil ?_
        refine then_ok ?_
        refine wp_seq ?_
        refine wp_region_lit ?_
        refine lV (Value.int .i64 (l.getD i 0)) he23 rfl rfl (wanted_plain rfl _) (rn_mv rfl (he23.op rfl) w19) ?_
        intro a24 he24
        clear he23 a23
        by_cases hb3 : (l.getD i 0) = (-1)
        · skip
          refine lV (Value.bool false) he24 rfl rfl (wanted_plain rfl _) (rn_neI rfl (he24.op rfl) (he24.op rfl) (bneT hb3) w19) ?_
          intro a25 he25
          clear he24 a24
          refine lV (Value.bool false) he25 rfl rfl (wanted_plain rfl _) (rn_mv rfl (he25.op rfl) w19) ?_
          intro a26 he26
          clear he25 a25
          refine lSkip he26 rfl rfl (he26.wantNot rfl rfl rfl rfl rfl rfl) ?_
          intro a27 he27
          clear he26 a26
          refine lSkip he27 rfl rfl (he27.wantNot rfl rfl rfl rfl rfl rfl) ?_
          intro a28 he28
          clear he27 a27
          refine lSkip he28 rfl rfl (he28.wantNot rfl rfl rfl rfl rfl rfl) ?_
          intro a29 he29
          clear he28 a28
          refine lSkip he29 rfl rfl (he29.wantU rfl rfl rfl rfl rfl) ?_
          intro a30 he30
          clear he29 a29
          refine lSkip he30 rfl rfl (he30.wantU rfl rfl rfl rfl rfl) ?_
          intro a31 he31
          clear he30 a30
          refine lSkip he31 rfl rfl (he31.wantNot rfl rfl rfl rfl rfl rfl) ?_
          intro a32 he32
          clear he31 a31
          refine lV (Value.bool false) he32 rfl rfl (wanted_plain rfl _) (rn_pk0 rfl (he32.op rfl) (he32.op rfl) w19) ?_
          intro a33 he33
          clear he32 a32
          refine wpList_nil ?_
          refine then_ok ?_
          refine wp_cond_false (he33.op rfl) ?_
          refine wp_skip ?_
          refine block_ok ?_
          refine then_ok ?_
          refine wp_region_lit ?_
          refine lV (Value.int .i64 ((i + 1 : Nat) : Int)) he33 rfl rfl (wanted_plain rfl _) (rn_addI rfl (he33.op rfl) (he33.op rfl) (by rw [i64w (by omega) (by omega)]; omega) w19) ?_
          intro a34 he34
          clear he33 a33
          refine lV (Value.int .i64 ((i + 1 : Nat) : Int)) he34 rfl rfl (wanted_plain rfl _) (rn_mv rfl (he34.op rfl) w19) ?_
          intro a35 he35
          clear he34 a34
          refine wpList_nil ?_
          refine then_ok ?_
          exact ⟨l.length - (i + 1), by omega, i + 1, rfl, by omega, ok_step hok (by omega) (by omega), he35.mem ⟨rfl, rfl, rfl, trivial⟩, hH19⟩
        · skip
          refine lV (Value.bool true) he24 rfl rfl (wanted_plain rfl _) (rn_neI rfl (he24.op rfl) (he24.op rfl) (bneF hb3) w19) ?_
          intro a25 he25
          clear he24 a24
          refine lV (Value.bool true) he25 rfl rfl (wanted_plain rfl _) (rn_mv rfl (he25.op rfl) w19) ?_
          intro a26 he26
          clear he25 a25
          refine lV (Value.int .i64 (l.getD i 0)) he26 rfl rfl (he26.want rfl rfl rfl rfl rfl) (rn_mv rfl (he26.op rfl) w19) ?_
          intro a27 he27
          clear he26 a26
          by_cases hb4 : (l.getD i 0) < 0
          · skip
            refine lV (Value.bool true) he27 rfl rfl (he27.want rfl rfl rfl rfl rfl) (rn_lsI rfl (he27.op rfl) (he27.op rfl) (decide_eq_true hb4) w19) ?_
            intro a28 he28
            clear he27 a27
            refine lV (Value.bool true) he28 rfl rfl (he28.want rfl rfl rfl rfl rfl) (rn_mv rfl (he28.op rfl) w19) ?_
            intro a29 he29
            clear he28 a28
            refine lSkip he29 rfl rfl (he29.wantNot rfl rfl rfl rfl rfl rfl) ?_
            intro a30 he30
            clear he29 a29
            refine lSkip he30 rfl rfl (he30.wantNot rfl rfl rfl rfl rfl rfl) ?_
            intro a31 he31
            clear he30 a30
            refine lV (Value.bool true) he31 rfl rfl (he31.want rfl rfl rfl rfl rfl) (rn_pk rfl (he31.op rfl) (he31.op rfl) w19) ?_
            intro a32 he32
            clear he31 a31
            refine lV (Value.bool true) he32 rfl rfl (wanted_plain rfl _) (rn_pk rfl (he32.op rfl) (he32.op rfl) w19) ?_
            intro a33 he33
            clear he32 a32
            refine wpList_nil ?_
            refine then_ok ?_
            refine wp_cond_true (he33.op rfl) ?_
            refine wp_seq ?_
            refine wp_region_lit ?_
            refine lV (Value.bool false) he33 rfl rfl (wanted_plain rfl _) (rn_asg rfl (he33.op rfl) w19) ?_
            intro a34 he34
            clear he33 a33
            refine wpList_nil ?_
            refine then_ok ?_
            refine wp_ret ?_
            try simp only [Exit.then, Exit.inBlock, Exit.noGoto]
            exact ret_env rfl he34 rfl ⟨by (refine congrArg (fun b => Ending.returned (.bool b)) ?_; first | exact (decide_eq_false (okL_no1 (by omega))).symm | exact (decide_eq_false (okL_no2 (by omega) (by assumption))).symm | exact (decide_eq_false (okL_no3 (i := i) (by omega) (by omega))).symm | exact (decide_eq_true (okL_yes (i := i) (by omega) (by omega) hok (by omega))).symm), hH19.new⟩
          · skip
            refine lV (Value.bool false) he27 rfl rfl (he27.want rfl rfl rfl rfl rfl) (rn_lsI rfl (he27.op rfl) (he27.op rfl) (decide_eq_false hb4) w19) ?_
            intro a28 he28
            clear he27 a27
            refine lV (Value.bool false) he28 rfl rfl (he28.want rfl rfl rfl rfl rfl) (rn_mv rfl (he28.op rfl) w19) ?_
            intro a29 he29
            clear he28 a28
            refine lV (Value.int .i64 (l.getD i 0)) he29 rfl rfl (he29.want rfl rfl rfl rfl rfl) (rn_mv rfl (he29.op rfl) w19) ?_
            intro a30 he30
            clear he29 a29
            by_cases hb5 : 9999 < (l.getD i 0)
            · skip
              refine lV (Value.bool true) he30 rfl rfl (he30.want rfl rfl rfl rfl rfl) (rn_gtI rfl (he30.op rfl) (he30.op rfl) (decide_eq_true hb5) w19) ?_
              intro a31 he31
              clear he30 a30
              refine lV (Value.bool true) he31 rfl rfl (he31.want rfl rfl rfl rfl rfl) (rn_pk0 rfl (he31.op rfl) (he31.op rfl) w19) ?_
              intro a32 he32
              clear he31 a31
              refine lV (Value.bool true) he32 rfl rfl (wanted_plain rfl _) (rn_pk rfl (he32.op rfl) (he32.op rfl) w19) ?_
              intro a33 he33
              clear he32 a32
              refine wpList_nil ?_
              refine then_ok ?_
              refine wp_cond_true (he33.op rfl) ?_
              refine wp_seq ?_
              refine wp_region_lit ?_
              refine lV (Value.bool false) he33 rfl rfl (wanted_plain rfl _) (rn_asg rfl (he33.op rfl) w19) ?_
              intro a34 he34
              clear he33 a33
              refine wpList_nil ?_
              refine then_ok ?_
              refine wp_ret ?_
              try simp only [Exit.then, Exit.inBlock, Exit.noGoto]
              exact ret_env rfl he34 rfl ⟨by (refine congrArg (fun b => Ending.returned (.bool b)) ?_; first | exact (decide_eq_false (okL_no1 (by omega))).symm | exact (decide_eq_false (okL_no2 (by omega) (by assumption))).symm | exact (decide_eq_false (okL_no3 (i := i) (by omega) (by omega))).symm | exact (decide_eq_true (okL_yes (i := i) (by omega) (by omega) hok (by omega))).symm), hH19.new⟩
            · skip
              refine lV (Value.bool false) he30 rfl rfl (he30.want rfl rfl rfl rfl rfl) (rn_gtI rfl (he30.op rfl) (he30.op rfl) (decide_eq_false hb5) w19) ?_
              intro a31 he31
              clear he30 a30
              refine lV (Value.bool false) he31 rfl rfl (he31.want rfl rfl rfl rfl rfl) (rn_pk0 rfl (he31.op rfl) (he31.op rfl) w19) ?_
              intro a32 he32
              clear he31 a31
              refine lV (Value.bool false) he32 rfl rfl (wanted_plain rfl _) (rn_pk rfl (he32.op rfl) (he32.op rfl) w19) ?_
              intro a33 he33
              clear he32 a32
              refine wpList_nil ?_
              refine then_ok ?_
              refine wp_cond_false (he33.op rfl) ?_
              refine wp_skip ?_
              refine block_ok ?_
              refine then_ok ?_
              refine wp_region_lit ?_
              refine lV (Value.int .i64 ((i + 1 : Nat) : Int)) he33 rfl rfl (wanted_plain rfl _) (rn_addI rfl (he33.op rfl) (he33.op rfl) (by rw [i64w (by omega) (by omega)]; omega) w19) ?_
              intro a34 he34
              clear he33 a33
              refine lV (Value.int .i64 ((i + 1 : Nat) : Int)) he34 rfl rfl (wanted_plain rfl _) (rn_mv rfl (he34.op rfl) w19) ?_
              intro a35 he35
              clear he34 a34
              refine wpList_nil ?_
              refine then_ok ?_
              exact ⟨l.length - (i + 1), by omega, i + 1, rfl, by omega, ok_step hok (by omega) (by omega), he35.mem ⟨rfl, rfl, rfl, trivial⟩, hH19⟩
      · skip
        refine lV (Value.bool false) he19 rfl rfl (wanted_plain rfl _) (rn_lsI rfl (he19.op rfl) (he19.op rfl) (decide_eq_false hb2) w19) ?_
        intro a20 he20
        clear he19 a19
        refine wpList_nil ?_
        refine then_ok ?_
        refine wp_seq ?_
        refine wp_cond_false (he20.op rfl) ?_
        refine wp_exit ?_
        refine then_exit ?_
        refine then_exit ?_
        refine block_exit ?_
        refine then_ok ?_
        refine wp_seq ?_
        refine wp_region_lit ?_
        refine lV (Value.bool true) he20 rfl rfl (wanted_plain rfl _) (rn_asg rfl (he20.op rfl) w19) ?_
        intro a21 he21
        clear he20 a20
        refine wpList_nil ?_
        refine then_ok ?_
        refine wp_ret ?_
        try simp only [Exit.then, Exit.inBlock, Exit.noGoto]
        exact ret_env rfl he21 rfl ⟨by (refine congrArg (fun b => Ending.returned (.bool b)) ?_; first | exact (decide_eq_false (okL_no1 (by omega))).symm | exact (decide_eq_false (okL_no2 (by omega) (by assumption))).symm | exact (decide_eq_false (okL_no3 (i := i) (by omega) (by omega))).symm | exact (decide_eq_true (okL_yes (i := i) (by omega) (by omega) hok (by omega))).symm), hH19.new⟩
theorem okL_yes2 {l : List Int} {i : Nat} (h1 : l.length ≤ 16) (h : ∀ n ∈ l.take i, ok1 n ∧ ¬ (n = -1 ∧ l.length = 1)) (hi : l.length ≤ i) : okL l := by
  rw [List.take_of_length_le hi] at h
  refine ⟨h1, fun n hn => (h n hn).1, ?_⟩
  rintro rfl
  exact (h (-1) (by simp)).2 ⟨rfl, rfl⟩
theorem ok_step2 {l : List Int} {i : Nat} (h : ∀ n ∈ l.take i, ok1 n ∧ ¬ (n = -1 ∧ l.length = 1)) (hi : i < l.length) (h2 : ok1 (l.getD i 0) ∧ ¬ (l.getD i 0 = -1 ∧ l.length = 1)) : ∀ n ∈ l.take (i + 1), ok1 n ∧ ¬ (n = -1 ∧ l.length = 1) := by
  intro n hn
  rw [take_snoc (getD_at (d := 0) hi)] at hn
  rcases List.mem_append.1 hn with hn | hn
  · exact h n hn
  · simp only [List.mem_singleton] at hn; subst hn; exact h2
set_option linter.unusedSimpArgs false in
set_option maxRecDepth 100000 in
set_option maxHeartbeats 1600000 in
theorem RValid_c (A : Option Addr) (c b : Nat) (l : List Int) (v : Bool) (hv : decide (okL l) = v) (hl : l.length ≤ 1000000) (w : World) (hr : Rd w b A l.length (ivs l)) : Calls Tryd.prog 11 #[.slice A l.length c] w fun e w' => e = .returned (.bool v) ∧ New w w' := by
  subst hv
  refine calls_args (vl := [Value.slice A l.length c]) 37 Tryd.func11 rfl Tryd.ntmps11 (by kernel_rfl) (fun a he => ?_)
  have he0 : Env 37 [(0, Value.slice A l.length c)] a := he
  clear he
  have hH := Hp.start w
  refine wp_seq ?_
  refine wp_region_lit ?_
  refine lV (Value.bool false) he0 rfl rfl (wanted_plain rfl _) (rn_asg rfl (he0.op rfl) w) ?_
  intro a1 he1
  clear he0 a
  refine wpList_nil ?_
  refine then_ok ?_
  refine wp_seq ?_
  refine wp_seq ?_
  refine wp_region_lit ?_
  refine lV (Value.slice A l.length c) he1 rfl rfl (wanted_plain rfl _) (rn_mv rfl (he1.op rfl) w) ?_
  intro a2 he2
  clear he1 a1
  refine lV (Value.int .i64 ((l.length : Nat) : Int)) he2 rfl rfl (wanted_plain rfl _) (rn_lenJ rfl (he2.op rfl) w) ?_
  intro a3 he3
  clear he2 a2
  by_cases hb0 : 16 < ((l.length : Nat) : Int)
  · skip
    refine lV (Value.bool true) he3 rfl rfl (wanted_plain rfl _) (rn_gtI rfl (he3.op rfl) (he3.op rfl) (decide_eq_true hb0) w) ?_
    intro a4 he4
    clear he3 a3
    refine wpList_nil ?_
    refine then_ok ?_
    refine wp_cond_true (he4.op rfl) ?_
    refine wp_seq ?_
    refine wp_region_lit ?_
    refine lV (Value.bool false) he4 rfl rfl (wanted_plain rfl _) (rn_asg rfl (he4.op rfl) w) ?_
    intro a5 he5
    clear he4 a4
    refine wpList_nil ?_
    refine then_ok ?_
    refine wp_ret ?_
    try simp only [Exit.then, Exit.inBlock, Exit.noGoto]
    exact ret_env rfl he5 rfl ⟨by (refine congrArg (fun b => Ending.returned (.bool b)) ?_; first | exact (decide_eq_false (okL_no1 (by omega))).symm | exact (decide_eq_false (okL_no3 (i := i) (by omega) (by omega))).symm | (obtain rfl : i = 0 := (by omega); exact (decide_eq_false (okL_no2 (by omega) (by assumption))).symm) | exact (decide_eq_true (okL_yes2 (i := i) (by omega) hok (by omega))).symm), hH.new⟩
  · skip
    refine lV (Value.bool false) he3 rfl rfl (wanted_plain rfl _) (rn_gtI rfl (he3.op rfl) (he3.op rfl) (decide_eq_false hb0) w) ?_
    intro a4 he4
    clear he3 a3
    refine wpList_nil ?_
    refine then_ok ?_
    refine wp_cond_false (he4.op rfl) ?_
    refine wp_skip ?_
    refine then_ok ?_
    refine wp_seq ?_
    refine wp_seq ?_
    refine wp_region_lit ?_
    refine lV (Value.int .i64 0) he4 rfl rfl (wanted_plain rfl _) (rn_asg rfl (he4.op rfl) w) ?_
    intro a5 he5
    clear he4 a4
    refine wpList_nil ?_
    refine then_ok ?_
    refine wp_block ?_
    refine loop_nat (fun q a w' => ∃ (i : Nat), q = l.length - i ∧ i ≤ l.length ∧ (∀ n ∈ l.take i, ok1 n ∧ ¬ (n = -1 ∧ l.length = 1)) ∧ Env 37 [(3, Value.int .i64 (i : Int)), (0, Value.slice A l.length c)] a ∧ Hp w [] w') _ ⟨0, rfl, Nat.zero_le _, (fun n hn => by simp at hn), he5.mem ⟨rfl, rfl, trivial⟩, hH⟩ ?_
    clear he5 hH
    rintro q a6 w6 ⟨i, rfl, hi, hok, he6, hH6⟩
    refine wp_seq ?_
    refine wp_seq ?_
    refine wp_region_lit ?_
    refine lV (Value.int .i64 (i : Int)) he6 rfl rfl (wanted_plain rfl _) (rn_mv rfl (he6.op rfl) w6) ?_
    intro a7 he7
    clear he6 a6
    refine lV (Value.slice A l.length c) he7 rfl rfl (wanted_plain rfl _) (rn_mv rfl (he7.op rfl) w6) ?_
    intro a8 he8
    clear he7 a7
    refine lV (Value.int .i64 ((l.length : Nat) : Int)) he8 rfl rfl (wanted_plain rfl _) (rn_lenJ rfl (he8.op rfl) w6) ?_
    intro a9 he9
    clear he8 a8
    by_cases hb1 : (i : Int) < ((l.length : Nat) : Int)
    · skip
      refine lV (Value.bool true) he9 rfl rfl (wanted_plain rfl _) (rn_lsI rfl (he9.op rfl) (he9.op rfl) (decide_eq_true hb1) w6) ?_
      intro a10 he10
      clear he9 a9
      refine wpList_nil ?_
      refine then_ok ?_
      refine wp_cond_true (he10.op rfl) ?_
      refine wp_skip ?_
      refine then_ok ?_
      refine wp_seq ?_
      refine wp_block ?_
      refine wp_seq ?_
      refine wp_region_lit ?_
      refine lV (Value.slice A l.length c) he10 rfl rfl (wanted_plain rfl _) (rn_mv rfl (he10.op rfl) w6) ?_
      intro a11 he11
      clear he10 a10
      refine lV (Value.int .i64 (i : Int)) he11 rfl rfl (wanted_plain rfl _) (rn_mv rfl (he11.op rfl) w6) ?_
      intro a12 he12
      clear he11 a11
      refine lV (Value.pointer (some ⟨b, offA A + i, none⟩)) he12 rfl rfl (wanted_plain rfl _) (rn_ixJ (k := i) (hr.new hH6.new) rfl (he12.op rfl) (he12.op rfl) rfl (by omega)) ?_
      intro a13 he13
      clear he12 a12
      refine lV (Value.int .i64 (l.getD i 0)) he13 rfl rfl (wanted_plain rfl _) (rn_ldJ (hr.new hH6.new) rfl (he13.op rfl) (by omega) (getD_at (by omega))) ?_
      intro a14 he14
      clear he13 a13
      by_cases hb2 : (l.getD i 0) < (-1)
      · skip
        refine lV (Value.bool true) he14 rfl rfl (wanted_plain rfl _) (rn_lsI rfl (he14.op rfl) (he14.op rfl) (decide_eq_true hb2) w6) ?_
        intro a15 he15
        clear he14 a14
        refine lV (Value.bool true) he15 rfl rfl (wanted_plain rfl _) (rn_mv rfl (he15.op rfl) w6) ?_
        intro a16 he16
        clear he15 a15
        refine lSkip he16 rfl rfl (he16.wantNot rfl rfl rfl rfl rfl rfl) ?_
        intro a17 he17
        clear he16 a16
        refine lSkip he17 rfl rfl (he17.wantNot rfl rfl rfl rfl rfl rfl) ?_
        intro a18 he18
        clear he17 a17
        refine lSkip he18 rfl rfl (he18.wantNot rfl rfl rfl rfl rfl rfl) ?_
        intro a19 he19
        clear he18 a18
        refine lSkip he19 rfl rfl (he19.wantNot rfl rfl rfl rfl rfl rfl) ?_
        intro a20 he20
        clear he19 a19
        refine lSkip he20 rfl rfl (he20.wantNot rfl rfl rfl rfl rfl rfl) ?_
        intro a21 he21
        clear he20 a20
        refine lV (Value.bool true) he21 rfl rfl (wanted_plain rfl _) (rn_pk rfl (he21.op rfl) (he21.op rfl) w6) ?_
        intro a22 he22
        clear he21 a21
        refine lV (Value.bool true) he22 rfl rfl (wanted_plain rfl _) (rn_mv rfl (he22.op rfl) w6) ?_
        intro a23 he23
        clear he22 a22
        refine lSkip he23 rfl rfl (he23.wantNot rfl rfl rfl rfl rfl rfl) ?_
        intro a24 he24
        clear he23 a23
        refine lSkip he24 rfl rfl (he24.wantNot rfl rfl rfl rfl rfl rfl) ?_
        intro a25 he25
        clear he24 a24
        refine lSkip he25 rfl rfl (he25.wantNot rfl rfl rfl rfl rfl rfl) ?_
        intro a26 he26
        clear he25 a25
        refine lSkip he26 rfl rfl (he26.wantNot rfl rfl rfl rfl rfl rfl) ?_
        intro a27 he27
        clear he26 a26
        refine lSkip he27 rfl rfl (he27.wantNot rfl rfl rfl rfl rfl rfl) ?_
        intro a28 he28
        clear he27 a27
        refine lSkip he28 rfl rfl (he28.wantNot rfl rfl rfl rfl rfl rfl) ?_
        intro a29 he29
        clear he28 a28
        refine lSkip he29 rfl rfl (he29.wantU rfl rfl rfl rfl rfl) ?_
        intro a30 he30
        clear he29 a29
        refine lSkip he30 rfl rfl (he30.wantU rfl rfl rfl rfl rfl) ?_
        intro a31 he31
        clear he30 a30
        refine lSkip he31 rfl rfl (he31.wantU rfl rfl rfl rfl rfl) ?_
        intro a32 he32
        clear he31 a31
        refine lSkip he32 rfl rfl (he32.wantNot rfl rfl rfl rfl rfl rfl) ?_
        intro a33 he33
        clear he32 a32
        refine lV (Value.bool true) he33 rfl rfl (wanted_plain rfl _) (rn_pk rfl (he33.op rfl) (he33.op rfl) w6) ?_
        intro a34 he34
        clear he33 a33
        refine wpList_nil ?_
        refine then_ok ?_
        refine wp_cond_true (he34.op rfl) ?_
        refine wp_seq ?_
        refine wp_region_lit ?_
        refine lV (Value.bool false) he34 rfl rfl (wanted_plain rfl _) (rn_asg rfl (he34.op rfl) w6) ?_
        intro a35 he35
        clear he34 a34
        refine wpList_nil ?_
        refine then_ok ?_
        refine wp_ret ?_
        try simp only [Exit.then, Exit.inBlock, Exit.noGoto]
        exact ret_env rfl he35 rfl ⟨by (refine congrArg (fun b => Ending.returned (.bool b)) ?_; first | exact (decide_eq_false (okL_no1 (by omega))).symm | exact (decide_eq_false (okL_no3 (i := i) (by omega) (by omega))).symm | (obtain rfl : i = 0 := (by omega); exact (decide_eq_false (okL_no2 (by omega) (by assumption))).symm) | exact (decide_eq_true (okL_yes2 (i := i) (by omega) hok (by omega))).symm), hH6.new⟩
      · skip
        refine lV (Value.bool false) he14 rfl rfl (wanted_plain rfl _) (rn_lsI rfl (he14.op rfl) (he14.op rfl) (decide_eq_false hb2) w6) ?_
        intro a15 he15
        clear he14 a14
        refine lV (Value.bool false) he15 rfl rfl (wanted_plain rfl _) (rn_mv rfl (he15.op rfl) w6) ?_
        intro a16 he16
        clear he15 a15
        refine lV (Value.slice A l.length c) he16 rfl rfl (he16.want rfl rfl rfl rfl rfl) (rn_mv rfl (he16.op rfl) w6) ?_
        intro a17 he17
        clear he16 a16
        refine lV (Value.int .i64 (i : Int)) he17 rfl rfl (he17.want rfl rfl rfl rfl rfl) (rn_mv rfl (he17.op rfl) w6) ?_
        intro a18 he18
        clear he17 a17
        refine lV (Value.pointer (some ⟨b, offA A + i, none⟩)) he18 rfl rfl (he18.want rfl rfl rfl rfl rfl) (rn_ixJ (k := i) (hr.new hH6.new) rfl (he18.op rfl) (he18.op rfl) rfl (by omega)) ?_
        intro a19 he19
        clear he18 a18
        refine lV (Value.int .i64 (l.getD i 0)) he19 rfl rfl (he19.want rfl rfl rfl rfl rfl) (rn_ldJ (hr.new hH6.new) rfl (he19.op rfl) (by omega) (getD_at (by omega))) ?_
        intro a20 he20
        clear he19 a19
        by_cases hb3 : 9999 < (l.getD i 0)
        · skip
          refine lV (Value.bool true) he20 rfl rfl (he20.want rfl rfl rfl rfl rfl) (rn_gtI rfl (he20.op rfl) (he20.op rfl) (decide_eq_true hb3) w6) ?_
          intro a21 he21
          clear he20 a20
          refine lV (Value.bool true) he21 rfl rfl (wanted_plain rfl _) (rn_pk0 rfl (he21.op rfl) (he21.op rfl) w6) ?_
          intro a22 he22
          clear he21 a21
          refine lV (Value.bool true) he22 rfl rfl (wanted_plain rfl _) (rn_mv rfl (he22.op rfl) w6) ?_
          intro a23 he23
          clear he22 a22
          refine lSkip he23 rfl rfl (he23.wantNot rfl rfl rfl rfl rfl rfl) ?_
          intro a24 he24
          clear he23 a23
          refine lSkip he24 rfl rfl (he24.wantNot rfl rfl rfl rfl rfl rfl) ?_
          intro a25 he25
          clear he24 a24
          refine lSkip he25 rfl rfl (he25.wantNot rfl rfl rfl rfl rfl rfl) ?_
          intro a26 he26
          clear he25 a25
          refine lSkip he26 rfl rfl (he26.wantNot rfl rfl rfl rfl rfl rfl) ?_
          intro a27 he27
          clear he26 a26
          refine lSkip he27 rfl rfl (he27.wantNot rfl rfl rfl rfl rfl rfl) ?_
          intro a28 he28
          clear he27 a27
          refine lSkip he28 rfl rfl (he28.wantNot rfl rfl rfl rfl rfl rfl) ?_
          intro a29 he29
          clear he28 a28
          refine lSkip he29 rfl rfl (he29.wantU rfl rfl rfl rfl rfl) ?_
          intro a30 he30
          clear he29 a29
          refine lSkip he30 rfl rfl (he30.wantU rfl rfl rfl rfl rfl) ?_
          intro a31 he31
          clear he30 a30
          refine lSkip he31 rfl rfl (he31.wantU rfl rfl rfl rfl rfl) ?_
          intro a32 he32
          clear he31 a31
          refine lSkip he32 rfl rfl (he32.wantNot rfl rfl rfl rfl rfl rfl) ?_
          intro a33 he33
          clear he32 a32
          refine lV (Value.bool true) he33 rfl rfl (wanted_plain rfl _) (rn_pk rfl (he33.op rfl) (he33.op rfl) w6) ?_
          intro a34 he34
          clear he33 a33
          refine wpList_nil ?_
          refine then_ok ?_
          refine wp_cond_true (he34.op rfl) ?_
          refine wp_seq ?_
          refine wp_region_lit ?_
          refine lV (Value.bool false) he34 rfl rfl (wanted_plain rfl _) (rn_asg rfl (he34.op rfl) w6) ?_
          intro a35 he35
          clear he34 a34
          refine wpList_nil ?_
          refine then_ok ?_
          refine wp_ret ?_
          try simp only [Exit.then, Exit.inBlock, Exit.noGoto]
          exact ret_env rfl he35 rfl ⟨by (refine congrArg (fun b => Ending.returned (.bool b)) ?_; first | exact (decide_eq_false (okL_no1 (by omega))).symm | exact (decide_eq_false (okL_no3 (i := i) (by omega) (by omega))).symm | (obtain rfl : i = 0 := (by omega); exact (decide_eq_false (okL_no2 (by omega) (by assumption))).symm) | exact (decide_eq_true (okL_yes2 (i := i) (by omega) hok (by omega))).symm), hH6.new⟩
        · skip
          refine lV (Value.bool false) he20 rfl rfl (he20.want rfl rfl rfl rfl rfl) (rn_gtI rfl (he20.op rfl) (he20.op rfl) (decide_eq_false hb3) w6) ?_
          intro a21 he21
          clear he20 a20
          refine lV (Value.bool false) he21 rfl rfl (wanted_plain rfl _) (rn_pk0 rfl (he21.op rfl) (he21.op rfl) w6) ?_
          intro a22 he22
          clear he21 a21
          refine lV (Value.bool false) he22 rfl rfl (wanted_plain rfl _) (rn_mv rfl (he22.op rfl) w6) ?_
          intro a23 he23
          clear he22 a22
          refine lV (Value.slice A l.length c) he23 rfl rfl (he23.want rfl rfl rfl rfl rfl) (rn_mv rfl (he23.op rfl) w6) ?_
          intro a24 he24
          clear he23 a23
          refine lV (Value.int .i64 (i : Int)) he24 rfl rfl (he24.want rfl rfl rfl rfl rfl) (rn_mv rfl (he24.op rfl) w6) ?_
          intro a25 he25
          clear he24 a24
          refine lV (Value.pointer (some ⟨b, offA A + i, none⟩)) he25 rfl rfl (he25.want rfl rfl rfl rfl rfl) (rn_ixJ (k := i) (hr.new hH6.new) rfl (he25.op rfl) (he25.op rfl) rfl (by omega)) ?_
          intro a26 he26
          clear he25 a25
          refine lV (Value.int .i64 (l.getD i 0)) he26 rfl rfl (he26.want rfl rfl rfl rfl rfl) (rn_ldJ (hr.new hH6.new) rfl (he26.op rfl) (by omega) (getD_at (by omega))) ?_
          intro a27 he27
          clear he26 a26
          by_cases hb4 : (l.getD i 0) = (-1)
          · skip
            refine lV (Value.bool true) he27 rfl rfl (he27.want rfl rfl rfl rfl rfl) (rn_eqI rfl (he27.op rfl) (he27.op rfl) (beqT hb4) w6) ?_
            intro a28 he28
            clear he27 a27
            refine lV (Value.bool true) he28 rfl rfl (he28.want rfl rfl rfl rfl rfl) (rn_mv rfl (he28.op rfl) w6) ?_
            intro a29 he29
            clear he28 a28
            refine lV (Value.slice A l.length c) he29 rfl rfl (he29.want rfl rfl rfl rfl rfl) (rn_mv rfl (he29.op rfl) w6) ?_
            intro a30 he30
            clear he29 a29
            refine lV (Value.int .i64 ((l.length : Nat) : Int)) he30 rfl rfl (he30.want rfl rfl rfl rfl rfl) (rn_lenJ rfl (he30.op rfl) w6) ?_
            intro a31 he31
            clear he30 a30
            by_cases hb5 : ((l.length : Nat) : Int) = 1
            · skip
              refine lV (Value.bool true) he31 rfl rfl (he31.want rfl rfl rfl rfl rfl) (rn_eqI rfl (he31.op rfl) (he31.op rfl) (beqT hb5) w6) ?_
              intro a32 he32
              clear he31 a31
              refine lV (Value.bool true) he32 rfl rfl (he32.want rfl rfl rfl rfl rfl) (rn_pk rfl (he32.op rfl) (he32.op rfl) w6) ?_
              intro a33 he33
              clear he32 a32
              refine lV (Value.bool true) he33 rfl rfl (wanted_plain rfl _) (rn_pk0 rfl (he33.op rfl) (he33.op rfl) w6) ?_
              intro a34 he34
              clear he33 a33
              refine wpList_nil ?_
              refine then_ok ?_
              refine wp_cond_true (he34.op rfl) ?_
              refine wp_seq ?_
              refine wp_region_lit ?_
              refine lV (Value.bool false) he34 rfl rfl (wanted_plain rfl _) (rn_asg rfl (he34.op rfl) w6) ?_
              intro a35 he35
              clear he34 a34
              refine wpList_nil ?_
              refine then_ok ?_
              refine wp_ret ?_
              try simp only [Exit.then, Exit.inBlock, Exit.noGoto]
              exact ret_env rfl he35 rfl ⟨by (refine congrArg (fun b => Ending.returned (.bool b)) ?_; first | exact (decide_eq_false (okL_no1 (by omega))).symm | exact (decide_eq_false (okL_no3 (i := i) (by omega) (by omega))).symm | (obtain rfl : i = 0 := (by omega); exact (decide_eq_false (okL_no2 (by omega) (by assumption))).symm) | exact (decide_eq_true (okL_yes2 (i := i) (by omega) hok (by omega))).symm), hH6.new⟩
            · skip
              refine lV (Value.bool false) he31 rfl rfl (he31.want rfl rfl rfl rfl rfl) (rn_eqI rfl (he31.op rfl) (he31.op rfl) (beqF hb5) w6) ?_
              intro a32 he32
              clear he31 a31
              refine lV (Value.bool false) he32 rfl rfl (he32.want rfl rfl rfl rfl rfl) (rn_pk rfl (he32.op rfl) (he32.op rfl) w6) ?_
              intro a33 he33
              clear he32 a32
              refine lV (Value.bool false) he33 rfl rfl (wanted_plain rfl _) (rn_pk0 rfl (he33.op rfl) (he33.op rfl) w6) ?_
              intro a34 he34
              clear he33 a33
              refine wpList_nil ?_
              refine then_ok ?_
              refine wp_cond_false (he34.op rfl) ?_
              refine wp_skip ?_
              refine block_ok ?_
              refine then_ok ?_
              refine wp_region_lit ?_
              refine lV (Value.int .i64 (i : Int)) he34 rfl rfl (wanted_plain rfl _) (rn_mv rfl (he34.op rfl) w6) ?_
              intro a35 he35
              clear he34 a34
              refine lV (Value.int .i64 ((i + 1 : Nat) : Int)) he35 rfl rfl (wanted_plain rfl _) (rn_addI rfl (he35.op rfl) (he35.op rfl) (by rw [i64w (by omega) (by omega)]; omega) w6) ?_
              intro a36 he36
              clear he35 a35
              refine lV (Value.int .i64 ((i + 1 : Nat) : Int)) he36 rfl rfl (wanted_plain rfl _) (rn_asg rfl (he36.op rfl) w6) ?_
              intro a37 he37
              clear he36 a36
              refine wpList_nil ?_
              refine then_ok ?_
              exact ⟨l.length - (i + 1), by omega, i + 1, rfl, by omega, ok_step2 hok (by omega) (by omega), he37.mem ⟨rfl, rfl, trivial⟩, hH6⟩
          · skip
            refine lV (Value.bool false) he27 rfl rfl (he27.want rfl rfl rfl rfl rfl) (rn_eqI rfl (he27.op rfl) (he27.op rfl) (beqF hb4) w6) ?_
            intro a28 he28
            clear he27 a27
            refine lV (Value.bool false) he28 rfl rfl (he28.want rfl rfl rfl rfl rfl) (rn_mv rfl (he28.op rfl) w6) ?_
            intro a29 he29
            clear he28 a28
            refine lSkip he29 rfl rfl (he29.wantNot rfl rfl rfl rfl rfl rfl) ?_
            intro a30 he30
            clear he29 a29
            refine lSkip he30 rfl rfl (he30.wantNot rfl rfl rfl rfl rfl rfl) ?_
            intro a31 he31
            clear he30 a30
            refine lSkip he31 rfl rfl (he31.wantNot rfl rfl rfl rfl rfl rfl) ?_
            intro a32 he32
            clear he31 a31
            refine lV (Value.bool false) he32 rfl rfl (he32.want rfl rfl rfl rfl rfl) (rn_pk0 rfl (he32.op rfl) (he32.op rfl) w6) ?_
            intro a33 he33
            clear he32 a32
            refine lV (Value.bool false) he33 rfl rfl (wanted_plain rfl _) (rn_pk0 rfl (he33.op rfl) (he33.op rfl) w6) ?_
            intro a34 he34
            clear he33 a33
            refine wpList_nil ?_
            refine then_ok ?_
            refine wp_cond_false (he34.op rfl) ?_
            refine wp_skip ?_
            refine block_ok ?_
            refine then_ok ?_
            refine wp_region_lit ?_
            refine lV (Value.int .i64 (i : Int)) he34 rfl rfl (wanted_plain rfl _) (rn_mv rfl (he34.op rfl) w6) ?_
            intro a35 he35
            clear he34 a34
            refine lV (Value.int .i64 ((i + 1 : Nat) : Int)) he35 rfl rfl (wanted_plain rfl _) (rn_addI rfl (he35.op rfl) (he35.op rfl) (by rw [i64w (by omega) (by omega)]; omega) w6) ?_
            intro a36 he36
            clear he35 a35
            refine lV (Value.int .i64 ((i + 1 : Nat) : Int)) he36 rfl rfl (wanted_plain rfl _) (rn_asg rfl (he36.op rfl) w6) ?_
            intro a37 he37
            clear he36 a36
            refine wpList_nil ?_
            refine then_ok ?_
            exact ⟨l.length - (i + 1), by omega, i + 1, rfl, by omega, ok_step2 hok (by omega) (by omega), he37.mem ⟨rfl, rfl, trivial⟩, hH6⟩
    · skip
      refine lV (Value.bool false) he9 rfl rfl (wanted_plain rfl _) (rn_lsI rfl (he9.op rfl) (he9.op rfl) (decide_eq_false hb1) w6) ?_
      intro a10 he10
      clear he9 a9
      refine wpList_nil ?_
      refine then_ok ?_
      refine wp_cond_false (he10.op rfl) ?_
      refine wp_exit ?_
      refine then_exit ?_
      refine then_exit ?_
      refine block_exit ?_
      refine then_ok ?_
      refine wp_seq ?_
      refine wp_region_lit ?_
      refine lV (Value.bool true) he10 rfl rfl (wanted_plain rfl _) (rn_asg rfl (he10.op rfl) w6) ?_
      intro a11 he11
      clear he10 a10
      refine wpList_nil ?_
      refine then_ok ?_
      refine wp_ret ?_
      try simp only [Exit.then, Exit.inBlock, Exit.noGoto]
      exact ret_env rfl he11 rfl ⟨by (refine congrArg (fun b => Ending.returned (.bool b)) ?_; first | exact (decide_eq_false (okL_no1 (by omega))).symm | exact (decide_eq_false (okL_no3 (i := i) (by omega) (by omega))).symm | (obtain rfl : i = 0 := (by omega); exact (decide_eq_false (okL_no2 (by omega) (by assumption))).symm) | exact (decide_eq_true (okL_yes2 (i := i) (by omega) hok (by omega))).symm), hH6.new⟩
set_option linter.unusedSimpArgs false in
set_option maxRecDepth 100000 in
set_option maxHeartbeats 1600000 in
theorem Get_c (A : Option Addr) (c b : Nat) (l : List Int) (i m : Int) (_hl : l.length ≤ 1000000) (w : World) (hr : Rd w b A l.length (ivs l)) : Calls Tryd.prog 12 #[.slice A l.length c, .int .i64 i, .int .i64 m] w fun e w' => e = .returned (.int .i64 (getL l i m)) ∧ New w w' := by
  refine calls_args (vl := [Value.slice A l.length c, Value.int .i64 i, Value.int .i64 m]) 27 Tryd.func12 rfl Tryd.ntmps12 (by kernel_rfl) (fun a he => ?_)
  have he0 : Env 27 [(0, Value.slice A l.length c), (1, Value.int .i64 i), (2, Value.int .i64 m)] a := he
  clear he
  have hH := Hp.start w
  refine wp_seq ?_
  refine wp_region_lit ?_
  refine lV (Value.int .i64 0) he0 rfl rfl (wanted_plain rfl _) (rn_asg rfl (he0.op rfl) w) ?_
  intro a1 he1
  clear he0 a
  refine wpList_nil ?_
  refine then_ok ?_
  refine wp_seq ?_
  refine wp_seq ?_
  refine wp_region_lit ?_
  refine lV (Value.int .i64 i) he1 rfl rfl (wanted_plain rfl _) (rn_mv rfl (he1.op rfl) w) ?_
  intro a2 he2
  clear he1 a1
  by_cases hb0 : i < 0
  · skip
    refine lV (Value.bool true) he2 rfl rfl (wanted_plain rfl _) (rn_lsI rfl (he2.op rfl) (he2.op rfl) (decide_eq_true hb0) w) ?_
    intro a3 he3
    clear he2 a2
    refine lV (Value.bool true) he3 rfl rfl (wanted_plain rfl _) (rn_mv rfl (he3.op rfl) w) ?_
    intro a4 he4
    clear he3 a3
    refine lSkip he4 rfl rfl (he4.wantNot rfl rfl rfl rfl rfl rfl) ?_
    intro a5 he5
    clear he4 a4
    refine lSkip he5 rfl rfl (he5.wantNot rfl rfl rfl rfl rfl rfl) ?_
    intro a6 he6
    clear he5 a5
    refine lSkip he6 rfl rfl (he6.wantNot rfl rfl rfl rfl rfl rfl) ?_
    intro a7 he7
    clear he6 a6
    refine lSkip he7 rfl rfl (he7.wantNot rfl rfl rfl rfl rfl rfl) ?_
    intro a8 he8
    clear he7 a7
    refine lV (Value.bool true) he8 rfl rfl (wanted_plain rfl _) (rn_pk rfl (he8.op rfl) (he8.op rfl) w) ?_
    intro a9 he9
    clear he8 a8
    refine lV (Value.bool true) he9 rfl rfl (wanted_plain rfl _) (rn_mv rfl (he9.op rfl) w) ?_
    intro a10 he10
    clear he9 a9
    refine lSkip he10 rfl rfl (he10.wantNot rfl rfl rfl rfl rfl rfl) ?_
    intro a11 he11
    clear he10 a10
    refine lSkip he11 rfl rfl (he11.wantNot rfl rfl rfl rfl rfl rfl) ?_
    intro a12 he12
    clear he11 a11
    refine lSkip he12 rfl rfl (he12.wantNot rfl rfl rfl rfl rfl rfl) ?_
    intro a13 he13
    clear he12 a12
    refine lSkip he13 rfl rfl (he13.wantNot rfl rfl rfl rfl rfl rfl) ?_
    intro a14 he14
    clear he13 a13
    refine lSkip he14 rfl rfl (he14.wantNot rfl rfl rfl rfl rfl rfl) ?_
    intro a15 he15
    clear he14 a14
    refine lV (Value.bool true) he15 rfl rfl (wanted_plain rfl _) (rn_pk rfl (he15.op rfl) (he15.op rfl) w) ?_
    intro a16 he16
    clear he15 a15
    refine wpList_nil ?_
    refine then_ok ?_
    refine wp_cond_true (he16.op rfl) ?_
    refine wp_seq ?_
    refine wp_region_lit ?_
    refine lV (Value.int .i64 m) he16 rfl rfl (wanted_plain rfl _) (rn_mv rfl (he16.op rfl) w) ?_
    intro a17 he17
    clear he16 a16
    refine lV (Value.int .i64 m) he17 rfl rfl (wanted_plain rfl _) (rn_asg rfl (he17.op rfl) w) ?_
    intro a18 he18
    clear he17 a17
    refine wpList_nil ?_
    refine then_ok ?_
    refine wp_ret ?_
    try simp only [Exit.then, Exit.inBlock, Exit.noGoto]
    exact ret_env rfl he18 rfl ⟨by (refine congrArg (fun n => Ending.returned (.int .i64 n)) ?_; unfold getL; first | rw [if_pos ⟨by omega, by omega, by omega⟩] | rw [if_neg (by omega)]), hH.new⟩
  · skip
    refine lV (Value.bool false) he2 rfl rfl (wanted_plain rfl _) (rn_lsI rfl (he2.op rfl) (he2.op rfl) (decide_eq_false hb0) w) ?_
    intro a3 he3
    clear he2 a2
    refine lV (Value.bool false) he3 rfl rfl (wanted_plain rfl _) (rn_mv rfl (he3.op rfl) w) ?_
    intro a4 he4
    clear he3 a3
    refine lV (Value.int .i64 i) he4 rfl rfl (he4.want rfl rfl rfl rfl rfl) (rn_mv rfl (he4.op rfl) w) ?_
    intro a5 he5
    clear he4 a4
    refine lV (Value.slice A l.length c) he5 rfl rfl (he5.want rfl rfl rfl rfl rfl) (rn_mv rfl (he5.op rfl) w) ?_
    intro a6 he6
    clear he5 a5
    refine lV (Value.int .i64 ((l.length : Nat) : Int)) he6 rfl rfl (he6.want rfl rfl rfl rfl rfl) (rn_lenJ rfl (he6.op rfl) w) ?_
    intro a7 he7
    clear he6 a6
    by_cases hb1 : ((l.length : Nat) : Int) ≤ i
    · skip
      refine lV (Value.bool true) he7 rfl rfl (he7.want rfl rfl rfl rfl rfl) (rn_geI rfl (he7.op rfl) (he7.op rfl) (decide_eq_true hb1) w) ?_
      intro a8 he8
      clear he7 a7
      refine lV (Value.bool true) he8 rfl rfl (wanted_plain rfl _) (rn_pk0 rfl (he8.op rfl) (he8.op rfl) w) ?_
      intro a9 he9
      clear he8 a8
      refine lV (Value.bool true) he9 rfl rfl (wanted_plain rfl _) (rn_mv rfl (he9.op rfl) w) ?_
      intro a10 he10
      clear he9 a9
      refine lSkip he10 rfl rfl (he10.wantNot rfl rfl rfl rfl rfl rfl) ?_
      intro a11 he11
      clear he10 a10
      refine lSkip he11 rfl rfl (he11.wantNot rfl rfl rfl rfl rfl rfl) ?_
      intro a12 he12
      clear he11 a11
      refine lSkip he12 rfl rfl (he12.wantNot rfl rfl rfl rfl rfl rfl) ?_
      intro a13 he13
      clear he12 a12
      refine lSkip he13 rfl rfl (he13.wantNot rfl rfl rfl rfl rfl rfl) ?_
      intro a14 he14
      clear he13 a13
      refine lSkip he14 rfl rfl (he14.wantNot rfl rfl rfl rfl rfl rfl) ?_
      intro a15 he15
      clear he14 a14
      refine lV (Value.bool true) he15 rfl rfl (wanted_plain rfl _) (rn_pk rfl (he15.op rfl) (he15.op rfl) w) ?_
      intro a16 he16
      clear he15 a15
      refine wpList_nil ?_
      refine then_ok ?_
      refine wp_cond_true (he16.op rfl) ?_
      refine wp_seq ?_
      refine wp_region_lit ?_
      refine lV (Value.int .i64 m) he16 rfl rfl (wanted_plain rfl _) (rn_mv rfl (he16.op rfl) w) ?_
      intro a17 he17
      clear he16 a16
      refine lV (Value.int .i64 m) he17 rfl rfl (wanted_plain rfl _) (rn_asg rfl (he17.op rfl) w) ?_
      intro a18 he18
      clear he17 a17
      refine wpList_nil ?_
      refine then_ok ?_
      refine wp_ret ?_
      try simp only [Exit.then, Exit.inBlock, Exit.noGoto]
      exact ret_env rfl he18 rfl ⟨by (refine congrArg (fun n => Ending.returned (.int .i64 n)) ?_; unfold getL; first | rw [if_pos ⟨by omega, by omega, by omega⟩] | rw [if_neg (by omega)]), hH.new⟩
    · skip
      refine lV (Value.bool false) he7 rfl rfl (he7.want rfl rfl rfl rfl rfl) (rn_geI rfl (he7.op rfl) (he7.op rfl) (decide_eq_false hb1) w) ?_
      intro a8 he8
      clear he7 a7
      refine lV (Value.bool false) he8 rfl rfl (wanted_plain rfl _) (rn_pk0 rfl (he8.op rfl) (he8.op rfl) w) ?_
      intro a9 he9
      clear he8 a8
      refine lV (Value.bool false) he9 rfl rfl (wanted_plain rfl _) (rn_mv rfl (he9.op rfl) w) ?_
      intro a10 he10
      clear he9 a9
      refine lV (Value.slice A l.length c) he10 rfl rfl (he10.want rfl rfl rfl rfl rfl) (rn_mv rfl (he10.op rfl) w) ?_
      intro a11 he11
      clear he10 a10
      refine lV (Value.int .i64 i) he11 rfl rfl (he11.want rfl rfl rfl rfl rfl) (rn_mv rfl (he11.op rfl) w) ?_
      intro a12 he12
      clear he11 a11
      refine lV (Value.pointer (some ⟨b, offA A + (Int.toNat i), none⟩)) he12 rfl rfl (he12.want rfl rfl rfl rfl rfl) (rn_ixJ (k := (Int.toNat i)) (hr.new hH.new) rfl (he12.op rfl) (he12.op rfl) (by omega) (by omega)) ?_
      intro a13 he13
      clear he12 a12
      refine lV (Value.int .i64 (l.getD (Int.toNat i) 0)) he13 rfl rfl (he13.want rfl rfl rfl rfl rfl) (rn_ldJ (hr.new hH.new) rfl (he13.op rfl) (by omega) (getD_at (by omega))) ?_
      intro a14 he14
      clear he13 a13
      by_cases hb2 : (l.getD (Int.toNat i) 0) < 0
      · skip
        refine lV (Value.bool true) he14 rfl rfl (he14.want rfl rfl rfl rfl rfl) (rn_lsI rfl (he14.op rfl) (he14.op rfl) (decide_eq_true hb2) w) ?_
        intro a15 he15
        clear he14 a14
        refine lV (Value.bool true) he15 rfl rfl (wanted_plain rfl _) (rn_pk0 rfl (he15.op rfl) (he15.op rfl) w) ?_
        intro a16 he16
        clear he15 a15
        refine wpList_nil ?_
        refine then_ok ?_
        refine wp_cond_true (he16.op rfl) ?_
        refine wp_seq ?_
        refine wp_region_lit ?_
        refine lV (Value.int .i64 m) he16 rfl rfl (wanted_plain rfl _) (rn_mv rfl (he16.op rfl) w) ?_
        intro a17 he17
        clear he16 a16
        refine lV (Value.int .i64 m) he17 rfl rfl (wanted_plain rfl _) (rn_asg rfl (he17.op rfl) w) ?_
        intro a18 he18
        clear he17 a17
        refine wpList_nil ?_
        refine then_ok ?_
        refine wp_ret ?_
        try simp only [Exit.then, Exit.inBlock, Exit.noGoto]
        exact ret_env rfl he18 rfl ⟨by (refine congrArg (fun n => Ending.returned (.int .i64 n)) ?_; unfold getL; first | rw [if_pos ⟨by omega, by omega, by omega⟩] | rw [if_neg (by omega)]), hH.new⟩
      · skip
        refine lV (Value.bool false) he14 rfl rfl (he14.want rfl rfl rfl rfl rfl) (rn_lsI rfl (he14.op rfl) (he14.op rfl) (decide_eq_false hb2) w) ?_
        intro a15 he15
        clear he14 a14
        refine lV (Value.bool false) he15 rfl rfl (wanted_plain rfl _) (rn_pk0 rfl (he15.op rfl) (he15.op rfl) w) ?_
        intro a16 he16
        clear he15 a15
        refine wpList_nil ?_
        refine then_ok ?_
        refine wp_cond_false (he16.op rfl) ?_
        refine wp_skip ?_
        refine then_ok ?_
        refine wp_seq ?_
        refine wp_region_lit ?_
        refine lV (Value.slice A l.length c) he16 rfl rfl (wanted_plain rfl _) (rn_mv rfl (he16.op rfl) w) ?_
        intro a17 he17
        clear he16 a16
        refine lV (Value.int .i64 i) he17 rfl rfl (wanted_plain rfl _) (rn_mv rfl (he17.op rfl) w) ?_
        intro a18 he18
        clear he17 a17
        refine lV (Value.pointer (some ⟨b, offA A + (Int.toNat i), none⟩)) he18 rfl rfl (wanted_plain rfl _) (rn_ixJ (k := (Int.toNat i)) (hr.new hH.new) rfl (he18.op rfl) (he18.op rfl) (by omega) (by omega)) ?_
        intro a19 he19
        clear he18 a18
        refine lV (Value.int .i64 (l.getD (Int.toNat i) 0)) he19 rfl rfl (wanted_plain rfl _) (rn_ldJ (hr.new hH.new) rfl (he19.op rfl) (by omega) (getD_at (by omega))) ?_
        intro a20 he20
        clear he19 a19
        refine lV (Value.int .i64 (l.getD (Int.toNat i) 0)) he20 rfl rfl (wanted_plain rfl _) (rn_asg rfl (he20.op rfl) w) ?_
        intro a21 he21
        clear he20 a20
        refine wpList_nil ?_
        refine then_ok ?_
        refine wp_ret ?_
        try simp only [Exit.then, Exit.inBlock, Exit.noGoto]
        exact ret_env rfl he21 rfl ⟨by (refine congrArg (fun n => Ending.returned (.int .i64 n)) ?_; unfold getL; first | rw [if_pos ⟨by omega, by omega, by omega⟩] | rw [if_neg (by omega)]), hH.new⟩
set_option linter.unusedSimpArgs false in
set_option maxRecDepth 100000 in
set_option maxHeartbeats 1600000 in
theorem RGet_c (A : Option Addr) (c b : Nat) (l : List Int) (i m : Int) (_hl : l.length ≤ 1000000) (w : World) (hr : Rd w b A l.length (ivs l)) : Calls Tryd.prog 13 #[.slice A l.length c, .int .i64 i, .int .i64 m] w fun e w' => e = .returned (.int .i64 (getL l i m)) ∧ New w w' := by
  refine calls_args (vl := [Value.slice A l.length c, Value.int .i64 i, Value.int .i64 m]) 27 Tryd.func13 rfl Tryd.ntmps13 (by kernel_rfl) (fun a he => ?_)
  have he0 : Env 27 [(0, Value.slice A l.length c), (1, Value.int .i64 i), (2, Value.int .i64 m)] a := he
  clear he
  have hH := Hp.start w
  refine wp_seq ?_
  refine wp_region_lit ?_
  refine lV (Value.int .i64 0) he0 rfl rfl (wanted_plain rfl _) (rn_asg rfl (he0.op rfl) w) ?_
  intro a1 he1
  clear he0 a
  refine wpList_nil ?_
  refine then_ok ?_
  refine wp_seq ?_
  refine wp_seq ?_
  refine wp_region_lit ?_
  refine lV (Value.int .i64 i) he1 rfl rfl (wanted_plain rfl _) (rn_mv rfl (he1.op rfl) w) ?_
  intro a2 he2
  clear he1 a1
  by_cases hb0 : 0 ≤ i
  · skip
    refine lV (Value.bool true) he2 rfl rfl (wanted_plain rfl _) (rn_geI rfl (he2.op rfl) (he2.op rfl) (decide_eq_true hb0) w) ?_
    intro a3 he3
    clear he2 a2
    refine lV (Value.bool true) he3 rfl rfl (wanted_plain rfl _) (rn_mv rfl (he3.op rfl) w) ?_
    intro a4 he4
    clear he3 a3
    refine lV (Value.int .i64 i) he4 rfl rfl (he4.want rfl rfl rfl rfl rfl) (rn_mv rfl (he4.op rfl) w) ?_
    intro a5 he5
    clear he4 a4
    refine lV (Value.slice A l.length c) he5 rfl rfl (he5.want rfl rfl rfl rfl rfl) (rn_mv rfl (he5.op rfl) w) ?_
    intro a6 he6
    clear he5 a5
    refine lV (Value.int .i64 ((l.length : Nat) : Int)) he6 rfl rfl (he6.want rfl rfl rfl rfl rfl) (rn_lenJ rfl (he6.op rfl) w) ?_
    intro a7 he7
    clear he6 a6
    by_cases hb1 : i < ((l.length : Nat) : Int)
    · skip
      refine lV (Value.bool true) he7 rfl rfl (he7.want rfl rfl rfl rfl rfl) (rn_lsI rfl (he7.op rfl) (he7.op rfl) (decide_eq_true hb1) w) ?_
      intro a8 he8
      clear he7 a7
      refine lV (Value.bool true) he8 rfl rfl (wanted_plain rfl _) (rn_pk rfl (he8.op rfl) (he8.op rfl) w) ?_
      intro a9 he9
      clear he8 a8
      refine lV (Value.bool true) he9 rfl rfl (wanted_plain rfl _) (rn_mv rfl (he9.op rfl) w) ?_
      intro a10 he10
      clear he9 a9
      refine lV (Value.slice A l.length c) he10 rfl rfl (he10.want rfl rfl rfl rfl rfl) (rn_mv rfl (he10.op rfl) w) ?_
      intro a11 he11
      clear he10 a10
      refine lV (Value.int .i64 i) he11 rfl rfl (he11.want rfl rfl rfl rfl rfl) (rn_mv rfl (he11.op rfl) w) ?_
      intro a12 he12
      clear he11 a11
      refine lV (Value.pointer (some ⟨b, offA A + (Int.toNat i), none⟩)) he12 rfl rfl (he12.want rfl rfl rfl rfl rfl) (rn_ixJ (k := (Int.toNat i)) (hr.new hH.new) rfl (he12.op rfl) (he12.op rfl) (by omega) (by omega)) ?_
      intro a13 he13
      clear he12 a12
      refine lV (Value.int .i64 (l.getD (Int.toNat i) 0)) he13 rfl rfl (he13.want rfl rfl rfl rfl rfl) (rn_ldJ (hr.new hH.new) rfl (he13.op rfl) (by omega) (getD_at (by omega))) ?_
      intro a14 he14
      clear he13 a13
      by_cases hb2 : 0 ≤ (l.getD (Int.toNat i) 0)
      · skip
        refine lV (Value.bool true) he14 rfl rfl (he14.want rfl rfl rfl rfl rfl) (rn_geI rfl (he14.op rfl) (he14.op rfl) (decide_eq_true hb2) w) ?_
        intro a15 he15
        clear he14 a14
        refine lV (Value.bool true) he15 rfl rfl (wanted_plain rfl _) (rn_pk rfl (he15.op rfl) (he15.op rfl) w) ?_
        intro a16 he16
        clear he15 a15
        refine wpList_nil ?_
        refine then_ok ?_
        refine wp_cond_true (he16.op rfl) ?_
        refine wp_seq ?_
        refine wp_region_lit ?_
        refine lV (Value.slice A l.length c) he16 rfl rfl (wanted_plain rfl _) (rn_mv rfl (he16.op rfl) w) ?_
        intro a17 he17
        clear he16 a16
        refine lV (Value.int .i64 i) he17 rfl rfl (wanted_plain rfl _) (rn_mv rfl (he17.op rfl) w) ?_
        intro a18 he18
        clear he17 a17
        refine lV (Value.pointer (some ⟨b, offA A + (Int.toNat i), none⟩)) he18 rfl rfl (wanted_plain rfl _) (rn_ixJ (k := (Int.toNat i)) (hr.new hH.new) rfl (he18.op rfl) (he18.op rfl) (by omega) (by omega)) ?_
        intro a19 he19
        clear he18 a18
        refine lV (Value.int .i64 (l.getD (Int.toNat i) 0)) he19 rfl rfl (wanted_plain rfl _) (rn_ldJ (hr.new hH.new) rfl (he19.op rfl) (by omega) (getD_at (by omega))) ?_
        intro a20 he20
        clear he19 a19
        refine lV (Value.int .i64 (l.getD (Int.toNat i) 0)) he20 rfl rfl (wanted_plain rfl _) (rn_asg rfl (he20.op rfl) w) ?_
        intro a21 he21
        clear he20 a20
        refine wpList_nil ?_
        refine then_ok ?_
        refine wp_ret ?_
        try simp only [Exit.then, Exit.inBlock, Exit.noGoto]
        exact ret_env rfl he21 rfl ⟨by (refine congrArg (fun n => Ending.returned (.int .i64 n)) ?_; unfold getL; first | rw [if_pos ⟨by omega, by omega, by omega⟩] | rw [if_neg (by omega)]), hH.new⟩
      · skip
        refine lV (Value.bool false) he14 rfl rfl (he14.want rfl rfl rfl rfl rfl) (rn_geI rfl (he14.op rfl) (he14.op rfl) (decide_eq_false hb2) w) ?_
        intro a15 he15
        clear he14 a14
        refine lV (Value.bool false) he15 rfl rfl (wanted_plain rfl _) (rn_pk rfl (he15.op rfl) (he15.op rfl) w) ?_
        intro a16 he16
        clear he15 a15
        refine wpList_nil ?_
        refine then_ok ?_
        refine wp_cond_false (he16.op rfl) ?_
        refine wp_skip ?_
        refine then_ok ?_
        refine wp_seq ?_
        refine wp_region_lit ?_
        refine lV (Value.int .i64 m) he16 rfl rfl (wanted_plain rfl _) (rn_mv rfl (he16.op rfl) w) ?_
        intro a17 he17
        clear he16 a16
        refine lV (Value.int .i64 m) he17 rfl rfl (wanted_plain rfl _) (rn_asg rfl (he17.op rfl) w) ?_
        intro a18 he18
        clear he17 a17
        refine wpList_nil ?_
        refine then_ok ?_
        refine wp_ret ?_
        try simp only [Exit.then, Exit.inBlock, Exit.noGoto]
        exact ret_env rfl he18 rfl ⟨by (refine congrArg (fun n => Ending.returned (.int .i64 n)) ?_; unfold getL; first | rw [if_pos ⟨by omega, by omega, by omega⟩] | rw [if_neg (by omega)]), hH.new⟩
    · skip
      refine lV (Value.bool false) he7 rfl rfl (he7.want rfl rfl rfl rfl rfl) (rn_lsI rfl (he7.op rfl) (he7.op rfl) (decide_eq_false hb1) w) ?_
      intro a8 he8
      clear he7 a7
      refine lV (Value.bool false) he8 rfl rfl (wanted_plain rfl _) (rn_pk rfl (he8.op rfl) (he8.op rfl) w) ?_
      intro a9 he9
      clear he8 a8
      refine lV (Value.bool false) he9 rfl rfl (wanted_plain rfl _) (rn_mv rfl (he9.op rfl) w) ?_
      intro a10 he10
      clear he9 a9
      refine lSkip he10 rfl rfl (he10.wantNot rfl rfl rfl rfl rfl rfl) ?_
      intro a11 he11
      clear he10 a10
      refine lSkip he11 rfl rfl (he11.wantNot rfl rfl rfl rfl rfl rfl) ?_
      intro a12 he12
      clear he11 a11
      refine lSkip he12 rfl rfl (he12.wantNot rfl rfl rfl rfl rfl rfl) ?_
      intro a13 he13
      clear he12 a12
      refine lSkip he13 rfl rfl (he13.wantNot rfl rfl rfl rfl rfl rfl) ?_
      intro a14 he14
      clear he13 a13
      refine lSkip he14 rfl rfl (he14.wantNot rfl rfl rfl rfl rfl rfl) ?_
      intro a15 he15
      clear he14 a14
      refine lV (Value.bool false) he15 rfl rfl (wanted_plain rfl _) (rn_pk0 rfl (he15.op rfl) (he15.op rfl) w) ?_
      intro a16 he16
      clear he15 a15
      refine wpList_nil ?_
      refine then_ok ?_
      refine wp_cond_false (he16.op rfl) ?_
      refine wp_skip ?_
      refine then_ok ?_
      refine wp_seq ?_
      refine wp_region_lit ?_
      refine lV (Value.int .i64 m) he16 rfl rfl (wanted_plain rfl _) (rn_mv rfl (he16.op rfl) w) ?_
      intro a17 he17
      clear he16 a16
      refine lV (Value.int .i64 m) he17 rfl rfl (wanted_plain rfl _) (rn_asg rfl (he17.op rfl) w) ?_
      intro a18 he18
      clear he17 a17
      refine wpList_nil ?_
      refine then_ok ?_
      refine wp_ret ?_
      try simp only [Exit.then, Exit.inBlock, Exit.noGoto]
      exact ret_env rfl he18 rfl ⟨by (refine congrArg (fun n => Ending.returned (.int .i64 n)) ?_; unfold getL; first | rw [if_pos ⟨by omega, by omega, by omega⟩] | rw [if_neg (by omega)]), hH.new⟩
  · skip
    refine lV (Value.bool false) he2 rfl rfl (wanted_plain rfl _) (rn_geI rfl (he2.op rfl) (he2.op rfl) (decide_eq_false hb0) w) ?_
    intro a3 he3
    clear he2 a2
    refine lV (Value.bool false) he3 rfl rfl (wanted_plain rfl _) (rn_mv rfl (he3.op rfl) w) ?_
    intro a4 he4
    clear he3 a3
    refine lSkip he4 rfl rfl (he4.wantNot rfl rfl rfl rfl rfl rfl) ?_
    intro a5 he5
    clear he4 a4
    refine lSkip he5 rfl rfl (he5.wantNot rfl rfl rfl rfl rfl rfl) ?_
    intro a6 he6
    clear he5 a5
    refine lSkip he6 rfl rfl (he6.wantNot rfl rfl rfl rfl rfl rfl) ?_
    intro a7 he7
    clear he6 a6
    refine lSkip he7 rfl rfl (he7.wantNot rfl rfl rfl rfl rfl rfl) ?_
    intro a8 he8
    clear he7 a7
    refine lV (Value.bool false) he8 rfl rfl (wanted_plain rfl _) (rn_pk0 rfl (he8.op rfl) (he8.op rfl) w) ?_
    intro a9 he9
    clear he8 a8
    refine lV (Value.bool false) he9 rfl rfl (wanted_plain rfl _) (rn_mv rfl (he9.op rfl) w) ?_
    intro a10 he10
    clear he9 a9
    refine lSkip he10 rfl rfl (he10.wantNot rfl rfl rfl rfl rfl rfl) ?_
    intro a11 he11
    clear he10 a10
    refine lSkip he11 rfl rfl (he11.wantNot rfl rfl rfl rfl rfl rfl) ?_
    intro a12 he12
    clear he11 a11
    refine lSkip he12 rfl rfl (he12.wantNot rfl rfl rfl rfl rfl rfl) ?_
    intro a13 he13
    clear he12 a12
    refine lSkip he13 rfl rfl (he13.wantNot rfl rfl rfl rfl rfl rfl) ?_
    intro a14 he14
    clear he13 a13
    refine lSkip he14 rfl rfl (he14.wantNot rfl rfl rfl rfl rfl rfl) ?_
    intro a15 he15
    clear he14 a14
    refine lV (Value.bool false) he15 rfl rfl (wanted_plain rfl _) (rn_pk0 rfl (he15.op rfl) (he15.op rfl) w) ?_
    intro a16 he16
    clear he15 a15
    refine wpList_nil ?_
    refine then_ok ?_
    refine wp_cond_false (he16.op rfl) ?_
    refine wp_skip ?_
    refine then_ok ?_
    refine wp_seq ?_
    refine wp_region_lit ?_
    refine lV (Value.int .i64 m) he16 rfl rfl (wanted_plain rfl _) (rn_mv rfl (he16.op rfl) w) ?_
    intro a17 he17
    clear he16 a16
    refine lV (Value.int .i64 m) he17 rfl rfl (wanted_plain rfl _) (rn_asg rfl (he17.op rfl) w) ?_
    intro a18 he18
    clear he17 a17
    refine wpList_nil ?_
    refine then_ok ?_
    refine wp_ret ?_
    try simp only [Exit.then, Exit.inBlock, Exit.noGoto]
    exact ret_env rfl he18 rfl ⟨by (refine congrArg (fun n => Ending.returned (.int .i64 n)) ?_; unfold getL; first | rw [if_pos ⟨by omega, by omega, by omega⟩] | rw [if_neg (by omega)]), hH.new⟩
set_option linter.unusedSimpArgs false in
set_option maxRecDepth 100000 in
set_option maxHeartbeats 1600000 in
theorem One_c (A : Option Addr) (c b : Nat) (l : List Int) (i : Int) (hl : l.length ≤ 1000000) (w : World) (hr : Rd w b A l.length (ivs l)) : Calls Tryd.prog 14 #[.slice A l.length c, .int .i64 i] w fun e w' => e = .returned (.int .i64 (oneL l i)) ∧ New w w' := by
  refine calls_args (vl := [Value.slice A l.length c, Value.int .i64 i]) 9 Tryd.func14 rfl Tryd.ntmps14 (by kernel_rfl) (fun a he => ?_)
  have he0 : Env 9 [(0, Value.slice A l.length c), (1, Value.int .i64 i)] a := he
  clear he
  have hH := Hp.start w
  refine wp_seq ?_
  refine wp_region_lit ?_
  refine lV (Value.int .i64 0) he0 rfl rfl (wanted_plain rfl _) (rn_asg rfl (he0.op rfl) w) ?_
  intro a1 he1
  clear he0 a
  refine wpList_nil ?_
  refine then_ok ?_
  refine wp_seq ?_
  refine wp_region_lit ?_
  refine lV (Value.slice A l.length c) he1 rfl rfl (wanted_plain rfl _) (rn_mv rfl (he1.op rfl) w) ?_
  intro a2 he2
  clear he1 a1
  refine lV (Value.int .i64 i) he2 rfl rfl (wanted_plain rfl _) (rn_mv rfl (he2.op rfl) w) ?_
  intro a3 he3
  clear he2 a2
  refine lC he3 rfl rfl Tryd.func12 (by kernel_rfl) rfl rfl (wanted_plain rfl _) rfl (Get_c A c b l i 1 (by omega) w (hr.new hH.new)) ?_
  intro w4 a5 hn he5
  have hH4 := hH.call hn
  clear he3 a3 hH hn
  refine lV (Value.int .i64 (max (getL l i 1) 1)) he5 rfl rfl (wanted_plain rfl _) (rn_maxI rfl (he5.op rfl) (he5.op rfl) rfl w4) ?_
  intro a6 he6
  clear he5 a5
  refine lV (Value.int .i64 (max (getL l i 1) 1)) he6 rfl rfl (wanted_plain rfl _) (rn_asg rfl (he6.op rfl) w4) ?_
  intro a7 he7
  clear he6 a6
  refine wpList_nil ?_
  refine then_ok ?_
  refine wp_ret ?_
  try simp only [Exit.then, Exit.inBlock, Exit.noGoto]
  exact ret_env rfl he7 rfl ⟨by rfl, hH4.new⟩
set_option linter.unusedSimpArgs false in
set_option maxRecDepth 100000 in
set_option maxHeartbeats 1600000 in
theorem Fine_c (r : Int) (v : Bool) (hv : decide (fineI r) = v) (w : World) : Calls Tryd.prog 22 #[.int .i32 r] w fun e w' => e = .returned (.bool v) ∧ New w w' := by
  subst hv
  refine calls_args (vl := [Value.int .i32 r]) 13 Tryd.func22 rfl Tryd.ntmps22 (by kernel_rfl) (fun a he => ?_)
  have he0 : Env 13 [(0, Value.int .i32 r)] a := he
  clear he
  have hH := Hp.start w
  refine wp_seq ?_
  refine wp_region_lit ?_
  refine lV (Value.bool false) he0 rfl rfl (wanted_plain rfl _) (rn_asg rfl (he0.op rfl) w) ?_
  intro a1 he1
  clear he0 a
  refine wpList_nil ?_
  refine then_ok ?_
  refine wp_seq ?_
  refine wp_region_lit ?_
  refine lV (Value.int .i32 r) he1 rfl rfl (wanted_plain rfl _) (rn_mv rfl (he1.op rfl) w) ?_
  intro a2 he2
  clear he1 a1
  by_cases hb0 : r = 59
  · skip
    refine lV (Value.bool true) he2 rfl rfl (wanted_plain rfl _) (rn_eqR rfl (he2.op rfl) (he2.op rfl) (beqT hb0) w) ?_
    intro a3 he3
    clear he2 a2
    refine lV (Value.bool true) he3 rfl rfl (wanted_plain rfl _) (rn_mv rfl (he3.op rfl) w) ?_
    intro a4 he4
    clear he3 a3
    refine lSkip he4 rfl rfl (he4.wantNot rfl rfl rfl rfl rfl rfl) ?_
    intro a5 he5
    clear he4 a4
    refine lSkip he5 rfl rfl (he5.wantNot rfl rfl rfl rfl rfl rfl) ?_
    intro a6 he6
    clear he5 a5
    refine lSkip he6 rfl rfl (he6.wantNot rfl rfl rfl rfl rfl rfl) ?_
    intro a7 he7
    clear he6 a6
    refine lSkip he7 rfl rfl (he7.wantU rfl rfl rfl rfl rfl) ?_
    intro a8 he8
    clear he7 a7
    refine lSkip he8 rfl rfl (he8.wantU rfl rfl rfl rfl rfl) ?_
    intro a9 he9
    clear he8 a8
    refine lSkip he9 rfl rfl (he9.wantNot rfl rfl rfl rfl rfl rfl) ?_
    intro a10 he10
    clear he9 a9
    refine lV (Value.bool true) he10 rfl rfl (wanted_plain rfl _) (rn_pk rfl (he10.op rfl) (he10.op rfl) w) ?_
    intro a11 he11
    clear he10 a10
    refine lV (Value.bool true) he11 rfl rfl (wanted_plain rfl _) (rn_asg rfl (he11.op rfl) w) ?_
    intro a12 he12
    clear he11 a11
    refine wpList_nil ?_
    refine then_ok ?_
    refine wp_ret ?_
    try simp only [Exit.then, Exit.inBlock, Exit.noGoto]
    exact ret_env rfl he12 rfl ⟨by (refine congrArg (fun b => Ending.returned (.bool b)) ?_; first | exact (decide_eq_true (by omega)).symm | exact (decide_eq_false (by omega)).symm), hH.new⟩
  · skip
    refine lV (Value.bool false) he2 rfl rfl (wanted_plain rfl _) (rn_eqR rfl (he2.op rfl) (he2.op rfl) (beqF hb0) w) ?_
    intro a3 he3
    clear he2 a2
    refine lV (Value.bool false) he3 rfl rfl (wanted_plain rfl _) (rn_mv rfl (he3.op rfl) w) ?_
    intro a4 he4
    clear he3 a3
    refine lV (Value.int .i32 r) he4 rfl rfl (he4.want rfl rfl rfl rfl rfl) (rn_mv rfl (he4.op rfl) w) ?_
    intro a5 he5
    clear he4 a4
    by_cases hb1 : 48 ≤ r
    · skip
      refine lV (Value.bool true) he5 rfl rfl (he5.want rfl rfl rfl rfl rfl) (rn_geR rfl (he5.op rfl) (he5.op rfl) (decide_eq_true hb1) w) ?_
      intro a6 he6
      clear he5 a5
      refine lV (Value.bool true) he6 rfl rfl (he6.want rfl rfl rfl rfl rfl) (rn_mv rfl (he6.op rfl) w) ?_
      intro a7 he7
      clear he6 a6
      refine lV (Value.int .i32 r) he7 rfl rfl (he7.want rfl rfl rfl rfl rfl) (rn_mv rfl (he7.op rfl) w) ?_
      intro a8 he8
      clear he7 a7
      by_cases hb2 : r ≤ 57
      · skip
        refine lV (Value.bool true) he8 rfl rfl (he8.want rfl rfl rfl rfl rfl) (rn_leR rfl (he8.op rfl) (he8.op rfl) (decide_eq_true hb2) w) ?_
        intro a9 he9
        clear he8 a8
        refine lV (Value.bool true) he9 rfl rfl (he9.want rfl rfl rfl rfl rfl) (rn_pk rfl (he9.op rfl) (he9.op rfl) w) ?_
        intro a10 he10
        clear he9 a9
        refine lV (Value.bool true) he10 rfl rfl (wanted_plain rfl _) (rn_pk0 rfl (he10.op rfl) (he10.op rfl) w) ?_
        intro a11 he11
        clear he10 a10
        refine lV (Value.bool true) he11 rfl rfl (wanted_plain rfl _) (rn_asg rfl (he11.op rfl) w) ?_
        intro a12 he12
        clear he11 a11
        refine wpList_nil ?_
        refine then_ok ?_
        refine wp_ret ?_
        try simp only [Exit.then, Exit.inBlock, Exit.noGoto]
        exact ret_env rfl he12 rfl ⟨by (refine congrArg (fun b => Ending.returned (.bool b)) ?_; first | exact (decide_eq_true (by omega)).symm | exact (decide_eq_false (by omega)).symm), hH.new⟩
      · skip
        refine lV (Value.bool false) he8 rfl rfl (he8.want rfl rfl rfl rfl rfl) (rn_leR rfl (he8.op rfl) (he8.op rfl) (decide_eq_false hb2) w) ?_
        intro a9 he9
        clear he8 a8
        refine lV (Value.bool false) he9 rfl rfl (he9.want rfl rfl rfl rfl rfl) (rn_pk rfl (he9.op rfl) (he9.op rfl) w) ?_
        intro a10 he10
        clear he9 a9
        refine lV (Value.bool false) he10 rfl rfl (wanted_plain rfl _) (rn_pk0 rfl (he10.op rfl) (he10.op rfl) w) ?_
        intro a11 he11
        clear he10 a10
        refine lV (Value.bool false) he11 rfl rfl (wanted_plain rfl _) (rn_asg rfl (he11.op rfl) w) ?_
        intro a12 he12
        clear he11 a11
        refine wpList_nil ?_
        refine then_ok ?_
        refine wp_ret ?_
        try simp only [Exit.then, Exit.inBlock, Exit.noGoto]
        exact ret_env rfl he12 rfl ⟨by (refine congrArg (fun b => Ending.returned (.bool b)) ?_; first | exact (decide_eq_true (by omega)).symm | exact (decide_eq_false (by omega)).symm), hH.new⟩
    · skip
      refine lV (Value.bool false) he5 rfl rfl (he5.want rfl rfl rfl rfl rfl) (rn_geR rfl (he5.op rfl) (he5.op rfl) (decide_eq_false hb1) w) ?_
      intro a6 he6
      clear he5 a5
      refine lV (Value.bool false) he6 rfl rfl (he6.want rfl rfl rfl rfl rfl) (rn_mv rfl (he6.op rfl) w) ?_
      intro a7 he7
      clear he6 a6
      refine lSkip he7 rfl rfl (he7.wantNot rfl rfl rfl rfl rfl rfl) ?_
      intro a8 he8
      clear he7 a7
      refine lSkip he8 rfl rfl (he8.wantNot rfl rfl rfl rfl rfl rfl) ?_
      intro a9 he9
      clear he8 a8
      refine lV (Value.bool false) he9 rfl rfl (he9.want rfl rfl rfl rfl rfl) (rn_pk0 rfl (he9.op rfl) (he9.op rfl) w) ?_
      intro a10 he10
      clear he9 a9
      refine lV (Value.bool false) he10 rfl rfl (wanted_plain rfl _) (rn_pk0 rfl (he10.op rfl) (he10.op rfl) w) ?_
      intro a11 he11
      clear he10 a10
      refine lV (Value.bool false) he11 rfl rfl (wanted_plain rfl _) (rn_asg rfl (he11.op rfl) w) ?_
      intro a12 he12
      clear he11 a11
      refine wpList_nil ?_
      refine then_ok ?_
      refine wp_ret ?_
      try simp only [Exit.then, Exit.inBlock, Exit.noGoto]
      exact ret_env rfl he12 rfl ⟨by (refine congrArg (fun b => Ending.returned (.bool b)) ?_; first | exact (decide_eq_true (by omega)).symm | exact (decide_eq_false (by omega)).symm), hH.new⟩
set_option linter.unusedSimpArgs false in
set_option maxRecDepth 100000 in
set_option maxHeartbeats 1600000 in
theorem Same_c (A : Option Addr) (c b : Nat) (l : List Int) (A2 : Option Addr) (c2 b2 : Nat) (l2 : List Int) (v : Bool) (hv : decide (l = l2) = v) (hl : l.length ≤ 1000000) (_hl2 : l2.length ≤ 1000000) (w : World) (hr : Rd w b A l.length (ivs l)) (hr2 : Rd w b2 A2 l2.length (ivs l2)) : Calls Tryd.prog 24 #[.slice A l.length c, .slice A2 l2.length c2] w fun e w' => e = .returned (.bool v) ∧ New w w' := by
  subst hv
  refine calls_args (vl := [Value.slice A l.length c, Value.slice A2 l2.length c2]) 26 Tryd.func24 rfl Tryd.ntmps24 (by kernel_rfl) (fun a he => ?_)
  have he0 : Env 26 [(0, Value.slice A l.length c), (1, Value.slice A2 l2.length c2)] a := he
  clear he
  have hH := Hp.start w
  refine wp_seq ?_
  refine wp_region_lit ?_
  refine lV (Value.bool false) he0 rfl rfl (wanted_plain rfl _) (rn_asg rfl (he0.op rfl) w) ?_
  intro a1 he1
  clear he0 a
  refine wpList_nil ?_
  refine then_ok ?_
  refine wp_seq ?_
  refine wp_seq ?_
  refine wp_region_lit ?_
  refine lV (Value.slice A l.length c) he1 rfl rfl (wanted_plain rfl _) (rn_mv rfl (he1.op rfl) w) ?_
  intro a2 he2
  clear he1 a1
  refine lV (Value.int .i64 ((l.length : Nat) : Int)) he2 rfl rfl (wanted_plain rfl _) (rn_lenJ rfl (he2.op rfl) w) ?_
  intro a3 he3
  clear he2 a2
  refine lV (Value.slice A2 l2.length c2) he3 rfl rfl (wanted_plain rfl _) (rn_mv rfl (he3.op rfl) w) ?_
  intro a4 he4
  clear he3 a3
  refine lV (Value.int .i64 ((l2.length : Nat) : Int)) he4 rfl rfl (wanted_plain rfl _) (rn_lenJ rfl (he4.op rfl) w) ?_
  intro a5 he5
  clear he4 a4
  by_cases hb0 : ((l.length : Nat) : Int) = ((l2.length : Nat) : Int)
  · skip
    refine lV (Value.bool false) he5 rfl rfl (wanted_plain rfl _) (rn_neI rfl (he5.op rfl) (he5.op rfl) (bneT hb0) w) ?_
    intro a6 he6
    clear he5 a5
    refine wpList_nil ?_
    refine then_ok ?_
    refine wp_cond_false (he6.op rfl) ?_
    refine wp_skip ?_
    refine then_ok ?_
    refine wp_seq ?_
    refine wp_seq ?_
    refine wp_region_lit ?_
    refine lV (Value.int .i64 0) he6 rfl rfl (wanted_plain rfl _) (rn_asg rfl (he6.op rfl) w) ?_
    intro a7 he7
    clear he6 a6
    refine wpList_nil ?_
    refine then_ok ?_
    refine wp_block ?_
    refine loop_nat (fun q a w' => ∃ (i : Nat), q = l.length - i ∧ i ≤ l.length ∧ l.take i = l2.take i ∧ Env 26 [(5, Value.int .i64 (i : Int)), (1, Value.slice A2 l2.length c2), (0, Value.slice A l.length c)] a ∧ Hp w [] w') _ ⟨0, rfl, Nat.zero_le _, rfl, he7.mem ⟨rfl, rfl, rfl, trivial⟩, hH⟩ ?_
    clear he7 hH
    rintro q a8 w8 ⟨i, rfl, hi, hs, he8, hH8⟩
    refine wp_seq ?_
    refine wp_seq ?_
    refine wp_region_lit ?_
    refine lV (Value.int .i64 (i : Int)) he8 rfl rfl (wanted_plain rfl _) (rn_mv rfl (he8.op rfl) w8) ?_
    intro a9 he9
    clear he8 a8
    refine lV (Value.slice A l.length c) he9 rfl rfl (wanted_plain rfl _) (rn_mv rfl (he9.op rfl) w8) ?_
    intro a10 he10
    clear he9 a9
    refine lV (Value.int .i64 ((l.length : Nat) : Int)) he10 rfl rfl (wanted_plain rfl _) (rn_lenJ rfl (he10.op rfl) w8) ?_
    intro a11 he11
    clear he10 a10
    by_cases hb1 : (i : Int) < ((l.length : Nat) : Int)
    · skip
      refine lV (Value.bool true) he11 rfl rfl (wanted_plain rfl _) (rn_lsI rfl (he11.op rfl) (he11.op rfl) (decide_eq_true hb1) w8) ?_
      intro a12 he12
      clear he11 a11
      refine wpList_nil ?_
      refine then_ok ?_
      refine wp_cond_true (he12.op rfl) ?_
      refine wp_skip ?_
      refine then_ok ?_
      refine wp_seq ?_
      refine wp_block ?_
      refine wp_seq ?_
      refine wp_region_held_drew (S := Hp w []) (by kernel_rfl) (hH8.drew) (fun _ => ?_)
      have hn : New w8 (World.drew w8) := (Fr.refl _ _).drew
      clear hn
      have hH13 := hH8.drew
      clear hH8
      generalize World.drew w8 = w13 at *
      refine hV (fuel := 8) (i := 0) (Value.slice A l.length c) he12 rfl rfl rfl (by kernel_rfl) (by kernel_rfl) (by kernel_rfl) (fun _ _ _ h => h) (wanted_plain rfl _) (fun w' _ => rn_mv rfl (he12.op rfl) w') hH13 ?_
      intro a14 he14
      clear he12 a12
      refine hV (fuel := 7) (i := 1) (Value.int .i64 (i : Int)) he14 rfl rfl rfl (by kernel_rfl) (by kernel_rfl) (by kernel_rfl) (fun _ _ _ h => h) (wanted_plain rfl _) (fun w' _ => rn_mv rfl (he14.op rfl) w') hH13 ?_
      intro a15 he15
      clear he14 a14
      refine hV (fuel := 6) (i := 2) (Value.pointer (some ⟨b, offA A + i, none⟩)) he15 rfl rfl rfl (by kernel_rfl) (by kernel_rfl) (by kernel_rfl) (fun _ _ _ h => h) (wanted_plain rfl _) (fun w' hw' => rn_ixJ (k := i) (hr.new hw'.new) rfl (he15.op rfl) (he15.op rfl) rfl (by omega)) hH13 ?_
      intro a16 he16
      clear he15 a15
      refine hV (fuel := 5) (i := 3) (Value.int .i64 (l.getD i 0)) he16 rfl rfl rfl (by kernel_rfl) (by kernel_rfl) (by kernel_rfl) (fun _ _ _ h => h) (wanted_plain rfl _) (fun w' hw' => rn_ldJ (hr.new hw'.new) rfl (he16.op rfl) (by omega) (getD_at (by omega))) hH13 ?_
      intro a17 he17
      clear he16 a16
      refine hV (fuel := 4) (i := 4) (Value.slice A2 l2.length c2) he17 rfl rfl rfl (by kernel_rfl) (by kernel_rfl) (by kernel_rfl) (fun _ _ _ h => h) (wanted_plain rfl _) (fun w' _ => rn_mv rfl (he17.op rfl) w') hH13 ?_
      intro a18 he18
      clear he17 a17
      refine hV (fuel := 3) (i := 5) (Value.int .i64 (i : Int)) he18 rfl rfl rfl (by kernel_rfl) (by kernel_rfl) (by kernel_rfl) (fun _ _ _ h => h) (wanted_plain rfl _) (fun w' _ => rn_mv rfl (he18.op rfl) w') hH13 ?_
      intro a19 he19
      clear he18 a18
      refine hV (fuel := 2) (i := 6) (Value.pointer (some ⟨b2, offA A2 + i, none⟩)) he19 rfl rfl rfl (by kernel_rfl) (by kernel_rfl) (by kernel_rfl) (fun _ _ _ h => h) (wanted_plain rfl _) (fun w' hw' => rn_ixJ (k := i) (hr2.new hw'.new) rfl (he19.op rfl) (he19.op rfl) rfl (by omega)) hH13 ?_
      intro a20 he20
      clear he19 a19
      refine hV (fuel := 1) (i := 7) (Value.int .i64 (l2.getD i 0)) he20 rfl rfl rfl (by kernel_rfl) (by kernel_rfl) (by kernel_rfl) (fun _ _ _ h => h) (wanted_plain rfl _) (fun w' hw' => rn_ldJ (hr2.new hw'.new) rfl (he20.op rfl) (by omega) (getD_at (by omega))) hH13 ?_
      intro a21 he21
      clear he20 a20
      by_cases hb2 : (l.getD i 0) = (l2.getD i 0)
      · skip
        refine hV (fuel := 0) (i := 8) (Value.bool false) he21 rfl rfl rfl (by kernel_rfl) (by kernel_rfl) (by kernel_rfl) (fun _ _ _ h => h) (wanted_plain rfl _) (fun w' _ => rn_neI rfl (he21.op rfl) (he21.op rfl) (bneT hb2) w') hH13 ?_
        intro a22 he22
        clear he21 a21
        refine wpAnyH_done (by kernel_rfl) ?_ _
        refine then_ok ?_
        refine wp_cond_false (he22.op rfl) ?_
        refine wp_skip ?_
        refine block_ok ?_
        refine then_ok ?_
        refine wp_region_lit ?_
        refine lV (Value.int .i64 (i : Int)) he22 rfl rfl (wanted_plain rfl _) (rn_mv rfl (he22.op rfl) w13) ?_
        intro a23 he23
        clear he22 a22
        refine lV (Value.int .i64 ((i + 1 : Nat) : Int)) he23 rfl rfl (wanted_plain rfl _) (rn_addI rfl (he23.op rfl) (he23.op rfl) (by rw [i64w (by omega) (by omega)]; omega) w13) ?_
        intro a24 he24
        clear he23 a23
        refine lV (Value.int .i64 ((i + 1 : Nat) : Int)) he24 rfl rfl (wanted_plain rfl _) (rn_asg rfl (he24.op rfl) w13) ?_
        intro a25 he25
        clear he24 a24
        refine wpList_nil ?_
        refine then_ok ?_
        exact ⟨l.length - (i + 1), by omega, i + 1, rfl, by omega, same_step hs (by omega) (by omega) (by assumption), he25.mem ⟨rfl, rfl, rfl, trivial⟩, hH13⟩
      · skip
        refine hV (fuel := 0) (i := 8) (Value.bool true) he21 rfl rfl rfl (by kernel_rfl) (by kernel_rfl) (by kernel_rfl) (fun _ _ _ h => h) (wanted_plain rfl _) (fun w' _ => rn_neI rfl (he21.op rfl) (he21.op rfl) (bneF hb2) w') hH13 ?_
        intro a22 he22
        clear he21 a21
        refine wpAnyH_done (by kernel_rfl) ?_ _
        refine then_ok ?_
        refine wp_cond_true (he22.op rfl) ?_
        refine wp_seq ?_
        refine wp_region_lit ?_
        refine lV (Value.bool false) he22 rfl rfl (wanted_plain rfl _) (rn_asg rfl (he22.op rfl) w13) ?_
        intro a23 he23
        clear he22 a22
        refine wpList_nil ?_
        refine then_ok ?_
        refine wp_ret ?_
        try simp only [Exit.then, Exit.inBlock, Exit.noGoto]
        exact ret_env rfl he23 rfl ⟨by (refine congrArg (fun b => Ending.returned (.bool b)) ?_; first | exact (decide_eq_false (fun e => absurd (congrArg List.length e) (by omega))).symm | exact (decide_eq_false (same_no (i := i) (by assumption))).symm | exact (decide_eq_true (same_yes (i := i) hs (by omega) (by omega))).symm), hH13.new⟩
    · skip
      refine lV (Value.bool false) he11 rfl rfl (wanted_plain rfl _) (rn_lsI rfl (he11.op rfl) (he11.op rfl) (decide_eq_false hb1) w8) ?_
      intro a12 he12
      clear he11 a11
      refine wpList_nil ?_
      refine then_ok ?_
      refine wp_cond_false (he12.op rfl) ?_
      refine wp_exit ?_
      refine then_exit ?_
      refine then_exit ?_
      refine block_exit ?_
      refine then_ok ?_
      refine wp_seq ?_
      refine wp_region_lit ?_
      refine lV (Value.bool true) he12 rfl rfl (wanted_plain rfl _) (rn_asg rfl (he12.op rfl) w8) ?_
      intro a13 he13
      clear he12 a12
      refine wpList_nil ?_
      refine then_ok ?_
      refine wp_ret ?_
      try simp only [Exit.then, Exit.inBlock, Exit.noGoto]
      exact ret_env rfl he13 rfl ⟨by (refine congrArg (fun b => Ending.returned (.bool b)) ?_; first | exact (decide_eq_false (fun e => absurd (congrArg List.length e) (by omega))).symm | exact (decide_eq_false (same_no (i := i) (by assumption))).symm | exact (decide_eq_true (same_yes (i := i) hs (by omega) (by omega))).symm), hH8.new⟩
  · skip
    refine lV (Value.bool true) he5 rfl rfl (wanted_plain rfl _) (rn_neI rfl (he5.op rfl) (he5.op rfl) (bneF hb0) w) ?_
    intro a6 he6
    clear he5 a5
    refine wpList_nil ?_
    refine then_ok ?_
    refine wp_cond_true (he6.op rfl) ?_
    refine wp_seq ?_
    refine wp_region_lit ?_
    refine lV (Value.bool false) he6 rfl rfl (wanted_plain rfl _) (rn_asg rfl (he6.op rfl) w) ?_
    intro a7 he7
    clear he6 a6
    refine wpList_nil ?_
    refine then_ok ?_
    refine wp_ret ?_
    try simp only [Exit.then, Exit.inBlock, Exit.noGoto]
    exact ret_env rfl he7 rfl ⟨by (refine congrArg (fun b => Ending.returned (.bool b)) ?_; first | exact (decide_eq_false (fun e => absurd (congrArg List.length e) (by omega))).symm | exact (decide_eq_false (same_no (i := i) (by assumption))).symm | exact (decide_eq_true (same_yes (i := i) hs (by omega) (by omega))).symm), hH.new⟩
end Go.Proofs.YtpebpjkhkgakfaaDoor
