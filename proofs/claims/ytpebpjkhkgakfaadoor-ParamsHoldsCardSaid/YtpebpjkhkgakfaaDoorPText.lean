/-
  Parse and Text, of package params and of its specification.
-/
import Derived.Test.YtpebpjkhkgakfaaDoorPText0
namespace Go.Proofs.YtpebpjkhkgakfaaDoor
open Go.RowKit

set_option linter.unusedSimpArgs false in
set_option maxRecDepth 100000 in
set_option maxHeartbeats 1600000 in
theorem Parse_c (s : List UInt8) (L : List Int) (er : Int) (h : prs s = (L, er)) (_hs : s.length ≤ 100000) (w : World) : Calls Tryd.prog 28 #[.string (bs s)] w fun e w' => ∃ A c b, e = .returned (.tuple #[.slice A L.length c, .int .i64 er]) ∧ Rd w' b A L.length (ivs L) ∧ New w w' := by
  refine calls_args (vl := [Value.string (bs s)]) 16 Tryd.func28 rfl Tryd.ntmps28 (by kernel_rfl) (fun a he => ?_)
  have he0 : Env 16 [(0, Value.string (bs s))] a := he
  clear he
  have hH := Hp.start w
  refine wp_seq ?_
  refine wp_region_lit ?_
  refine lV (Value.slice none 0 0) he0 rfl rfl (wanted_plain rfl _) (rn_asg rfl (he0.op rfl) w) ?_
  intro a1 he1
  clear he0 a
  refine lV (Value.int .i64 0) he1 rfl rfl (wanted_plain rfl _) (rn_asg rfl (he1.op rfl) w) ?_
  intro a2 he2
  clear he1 a1
  refine wpList_nil ?_
  refine then_ok ?_
  refine wp_seq ?_
  refine wp_region_lit ?_
  refine lNewP (fun p => .pointer (some ⟨p, 0, none⟩)) he2 hH rfl rfl (wanted_plain rfl _) (rn_allocN rfl w) ?_
  intro p3 w3 a4 hp hn hH3 he4
  clear he2 a2 hH hn hp
  refine wpList_nil ?_
  refine then_ok ?_
  refine wp_seq ?_
  refine wp_seq ?_
  refine wp_region_lit ?_
  refine lV (Value.string (bs s)) he4 rfl rfl (wanted_plain rfl _) (rn_mv rfl (he4.op rfl) w3) ?_
  intro a5 he5
  clear he4 a4
  refine lEx he5 rfl rfl (wanted_plain rfl _) (rx_range (l := s) rfl (he5.op rfl)) ?_
  rintro _ w6 ⟨q6, rfl, hq6, hit6, hn⟩
  have hH6 := hH3.call hn
  replace hq6 := Nat.le_trans hH3.new.size hq6
  intro a7 he7
  clear he5 a5 hH3 hn
  refine wpList_nil ?_
  refine then_ok ?_
  refine wp_block ?_
  refine loop_nat (fun q a w' => ∃ (i : Nat), q = s.length - i ∧ i ≤ s.length ∧ (∀ c ∈ s.take i, fine c) ∧ Env 16 [(8, Value.pointer (some ⟨q6, 0, none⟩)), (4, Value.pointer (some ⟨p3, 0, none⟩))] a ∧ Hp w [⟨p3, 39, (cbF (say (s.take i)))⟩] w' ∧ It w' q6 s i) _ ⟨0, rfl, Nat.zero_le _, (fun n hn => by simp at hn), he7.mem ⟨rfl, rfl, trivial⟩, hH6, hit6⟩ ?_
  clear he7 hH6
  rintro q a8 w8 ⟨i, rfl, hi, hfi, he8, hH8, hit6⟩
  refine wp_seq ?_
  refine wp_region_lit ?_
  by_cases hb0 : i < s.length
  · skip
    by_cases hb1 : fine (s.getD i 0)
    · skip
      refine lEx he8 rfl rfl (wanted_plain rfl _) (rx_next1 hit6 rfl (he8.op rfl) (getD_at (d := 0) hb0) hb1) ?_
      rintro _ w9 ⟨rfl, hi_, hf_⟩
      have hH9 := hH8.iter hit6 hq6 hf_
      replace hit6 := hi_
      intro a10 he10
      clear he8 a8 hH8 hf_ hi_
      refine lV (Value.bool true) he10 rfl rfl (wanted_plain rfl _) (rn_ext rfl (he10.op rfl) rfl w9) ?_
      intro a11 he11
      clear he10 a10
      refine wpList_nil ?_
      refine then_ok ?_
      refine wp_seq ?_
      refine wp_cond_true (he11.op rfl) ?_
      refine wp_skip ?_
      refine then_ok ?_
      refine wp_block ?_
      refine wp_seq ?_
      refine wp_region_lit ?_
      refine lV (Value.int .i32 ((s.getD i 0).toNat : Int)) he11 rfl rfl (wanted_plain rfl _) (rn_ext rfl (he11.op rfl) rfl w9) ?_
      intro a12 he12
      clear he11 a11
      refine lV (Value.int .i32 ((s.getD i 0).toNat : Int)) he12 rfl rfl (wanted_plain rfl _) (rn_asg rfl (he12.op rfl) w9) ?_
      intro a13 he13
      clear he12 a12
      refine wpList_nil ?_
      refine then_ok ?_
      refine wp_seq ?_
      refine wp_region_lit ?_
      refine lV (Value.int .i32 ((s.getD i 0).toNat : Int)) he13 rfl rfl (wanted_plain rfl _) (rn_mv rfl (he13.op rfl) w9) ?_
      intro a14 he14
      clear he13 a13
      refine lCx he14 rfl rfl Tryd.func20 (by kernel_rfl) rfl rfl (wanted_plain rfl _) rfl (Add_k p3 (s.take i) (s.getD i 0) ((s.getD i 0).toNat : Int) rfl hb1 hfi w9 (hH9.at (i := 0) rfl)) ?_
      rintro _ w15 ⟨rfl, hf, hB_⟩
      replace hit6 := hit6.turn (hH9.at (i := 0) rfl) hf
      have hH15 : Hp w [⟨p3, 39, (cbF (say ((s.take i) ++ [(s.getD i 0)])))⟩] w15 := hH9.turn 0 rfl hf hB_ rfl
      refine ⟨_, rfl, ?_⟩
      intro a16 he16
      clear he14 a14 hH9 hf hB_
      refine lV (Value.bool false) he16 rfl rfl (wanted_plain rfl _) (rn_not (b := true) rfl (he16.op rfl) w15) ?_
      intro a17 he17
      clear he16 a16
      refine wpList_nil ?_
      refine then_ok ?_
      refine wp_cond_false (he17.op rfl) ?_
      refine wp_skip ?_
      refine block_ok ?_
      refine then_ok ?_
      exact ⟨s.length - (i + 1), by omega, i + 1, rfl, by omega, fine_take hfi (getD_at (d := 0) hb0) hb1, he17.mem ⟨rfl, rfl, trivial⟩, (by rw [take_snoc (getD_at (d := 0) hb0)]; exact hH15), hit6⟩
    · skip
      refine lEx he8 rfl rfl (wanted_plain rfl _) (rx_next2 hit6 rfl (he8.op rfl) (getD_at (d := 0) hb0) hb1) ?_
      rintro _ w9 ⟨r9, rfl, hnf, hf_⟩
      have hH9 := hH8.iter hit6 hq6 hf_
      intro a10 he10
      clear he8 a8 hH8 hf_
      refine lV (Value.bool true) he10 rfl rfl (wanted_plain rfl _) (rn_ext rfl (he10.op rfl) rfl w9) ?_
      intro a11 he11
      clear he10 a10
      refine wpList_nil ?_
      refine then_ok ?_
      refine wp_seq ?_
      refine wp_cond_true (he11.op rfl) ?_
      refine wp_skip ?_
      refine then_ok ?_
      refine wp_block ?_
      refine wp_seq ?_
      refine wp_region_lit ?_
      refine lV (Value.int .i32 r9) he11 rfl rfl (wanted_plain rfl _) (rn_ext rfl (he11.op rfl) rfl w9) ?_
      intro a12 he12
      clear he11 a11
      refine lV (Value.int .i32 r9) he12 rfl rfl (wanted_plain rfl _) (rn_asg rfl (he12.op rfl) w9) ?_
      intro a13 he13
      clear he12 a12
      refine wpList_nil ?_
      refine then_ok ?_
      refine wp_seq ?_
      refine wp_region_lit ?_
      refine lV (Value.int .i32 r9) he13 rfl rfl (wanted_plain rfl _) (rn_mv rfl (he13.op rfl) w9) ?_
      intro a14 he14
      clear he13 a13
      refine lC he14 rfl rfl Tryd.func20 (by kernel_rfl) rfl rfl (wanted_plain rfl _) rfl (AddNo_c p3 r9 hnf w9) ?_
      intro w15 a16 hn he16
      have hH15 := hH9.call hn
      clear he14 a14 hH9 hn
      refine lV (Value.bool true) he16 rfl rfl (wanted_plain rfl _) (rn_not (b := false) rfl (he16.op rfl) w15) ?_
      intro a17 he17
      clear he16 a16
      refine wpList_nil ?_
      refine then_ok ?_
      refine wp_cond_true (he17.op rfl) ?_
      refine wp_seq ?_
      refine wp_region_lit ?_
      refine lV (Value.slice none 0 0) he17 rfl rfl (wanted_plain rfl _) (rn_asg rfl (he17.op rfl) w15) ?_
      intro a18 he18
      clear he17 a17
      refine lV (Value.int .i64 6) he18 rfl rfl (wanted_plain rfl _) (rn_asg rfl (he18.op rfl) w15) ?_
      intro a19 he19
      clear he18 a18
      refine wpList_nil ?_
      refine then_ok ?_
      refine wp_ret ?_
      try simp only [Exit.then, Exit.inBlock, Exit.noGoto]
      exact ret_tt rfl he19 rfl rfl (by obtain ⟨rfl, rfl⟩ := Prod.mk.inj ((prs_no (fun hh => hb1 (hh _ (getD_mem hb0)))).symm.trans h); exact ⟨none, 0, 0, rfl, Rd.nil _ _ _, hH15.new⟩)
  · skip
    refine lV (Value.tuple #[Value.bool false]) he8 rfl rfl (wanted_plain rfl _) (rn_next0 hit6 rfl (he8.op rfl) hb0) ?_
    intro a9 he9
    clear he8 a8
    refine lV (Value.bool false) he9 rfl rfl (wanted_plain rfl _) (rn_ext rfl (he9.op rfl) rfl w8) ?_
    intro a10 he10
    clear he9 a9
    refine wpList_nil ?_
    refine then_ok ?_
    refine wp_seq ?_
    refine wp_cond_false (he10.op rfl) ?_
    refine wp_exit ?_
    refine then_exit ?_
    refine then_exit ?_
    refine block_exit ?_
    refine then_ok ?_
    refine wp_seq ?_
    have ht : s.take i = s := List.take_of_length_le (by omega)
    rw [ht] at hfi hH8
    obtain ⟨rfl, rfl⟩ := Prod.mk.inj ((prs_yes hfi).symm.trans h)
    refine wp_region_lit ?_
    refine lCx he10 rfl rfl Tryd.func23 (by kernel_rfl) rfl rfl (wanted_plain rfl _) rfl (List_c p3 (say s) w8 (hH8.at (i := 0) rfl)) ?_
    rintro _ w11 ⟨q11, rfl, hq_, hB_, hn⟩
    replace hit6 := hit6.new hn
    have hH12 : Hp w [⟨q11, 3, (ivs ((say s).take 16)).toArray⟩, ⟨p3, 39, (cbF (say s))⟩] w11 := hH8.cons hn hq_ hB_
    refine ⟨_, rfl, ?_⟩
    intro a13 he13
    clear he10 a10 hH8 hn hq_ hB_
    refine lV (Value.slice (some ⟨q11, 0, none⟩) ((say s).take 16).length ((say s).take 16).length) he13 rfl rfl (wanted_plain rfl _) (rn_asg rfl (he13.op rfl) w11) ?_
    intro a14 he14
    clear he13 a13
    refine lV (Value.int .i64 0) he14 rfl rfl (wanted_plain rfl _) (rn_asg rfl (he14.op rfl) w11) ?_
    intro a15 he15
    clear he14 a14
    refine wpList_nil ?_
    refine then_ok ?_
    refine wp_ret ?_
    try simp only [Exit.then, Exit.inBlock, Exit.noGoto]
    exact ret_tt rfl he15 rfl rfl ⟨_, _, _, rfl, rd_own (l := lst s) (hH12.at (i := 0) rfl), hH12.new⟩
set_option linter.unusedSimpArgs false in
set_option maxRecDepth 100000 in
set_option maxHeartbeats 1600000 in
theorem number_c (l : List UInt8) (hd : ∀ c ∈ l, 48 ≤ c.toNat ∧ c.toNat ≤ 57) (hl : l.length ≤ 1000000) (w : World) : Calls Tryd.prog 30 #[.string (bs l)] w fun e w' => e = .returned (.int .i64 (num l)) ∧ New w w' := by
  refine calls_args (vl := [Value.string (bs l)]) 24 Tryd.func30 rfl Tryd.ntmps30 (by kernel_rfl) (fun a he => ?_)
  have he0 : Env 24 [(0, Value.string (bs l))] a := he
  clear he
  have hH := Hp.start w
  refine wp_seq ?_
  refine wp_region_lit ?_
  refine lV (Value.int .i64 0) he0 rfl rfl (wanted_plain rfl _) (rn_asg rfl (he0.op rfl) w) ?_
  intro a1 he1
  clear he0 a
  refine wpList_nil ?_
  refine then_ok ?_
  refine wp_seq ?_
  refine wp_seq ?_
  refine wp_region_lit ?_
  refine lV (Value.string (bs l)) he1 rfl rfl (wanted_plain rfl _) (rn_mv rfl (he1.op rfl) w) ?_
  intro a2 he2
  clear he1 a1
  by_cases hb0 : l = ([] : List UInt8)
  · skip
    refine lV (Value.bool true) he2 rfl rfl (wanted_plain rfl _) (rn_eqS (a := l) (c := ([] : List UInt8)) rfl (he2.op rfl) (he2.op rfl) (decide_eq_true hb0) w) ?_
    intro a3 he3
    clear he2 a2
    refine wpList_nil ?_
    refine then_ok ?_
    refine wp_cond_true (he3.op rfl) ?_
    refine wp_seq ?_
    refine wp_region_lit ?_
    refine lV (Value.int .i64 (-1)) he3 rfl rfl (wanted_plain rfl _) (rn_asg rfl (he3.op rfl) w) ?_
    intro a4 he4
    clear he3 a3
    refine wpList_nil ?_
    refine then_ok ?_
    refine wp_ret ?_
    try simp only [Exit.then, Exit.inBlock, Exit.noGoto]
    exact ret_env rfl he4 rfl ⟨by rw [hb0]; rfl, hH.new⟩
  · skip
    refine lV (Value.bool false) he2 rfl rfl (wanted_plain rfl _) (rn_eqS (a := l) (c := ([] : List UInt8)) rfl (he2.op rfl) (he2.op rfl) (decide_eq_false hb0) w) ?_
    intro a3 he3
    clear he2 a2
    refine wpList_nil ?_
    refine then_ok ?_
    refine wp_cond_false (he3.op rfl) ?_
    refine wp_skip ?_
    refine then_ok ?_
    refine wp_seq ?_
    refine wp_region_lit ?_
    refine lV (Value.int .i64 0) he3 rfl rfl (wanted_plain rfl _) (rn_asg rfl (he3.op rfl) w) ?_
    intro a4 he4
    clear he3 a3
    refine wpList_nil ?_
    refine then_ok ?_
    refine wp_seq ?_
    refine wp_seq ?_
    refine wp_region_lit ?_
    refine lV (Value.int .i64 0) he4 rfl rfl (wanted_plain rfl _) (rn_asg rfl (he4.op rfl) w) ?_
    intro a5 he5
    clear he4 a4
    refine wpList_nil ?_
    refine then_ok ?_
    refine wp_block ?_
    refine loop_nat (fun q a w' => ∃ (i : Nat) (n : Int), q = l.length - i ∧ i ≤ l.length ∧ n = max (numF (-1) (l.take i)) 0 ∧ (0 ≤ n ∧ n ≤ 9999) ∧ Env 24 [(4, Value.int .i64 (i : Int)), (3, Value.int .i64 n), (0, Value.string (bs l))] a ∧ Hp w [] w') _ ⟨0, 0, rfl, Nat.zero_le _, rfl, ⟨by decide, by decide⟩, he5.mem ⟨rfl, rfl, rfl, trivial⟩, hH⟩ ?_
    clear he5 hH
    rintro q a6 w6 ⟨i, n, rfl, hi, hn, hnr, he6, hH6⟩
    refine wp_seq ?_
    refine wp_seq ?_
    refine wp_region_lit ?_
    refine lV (Value.int .i64 (i : Int)) he6 rfl rfl (wanted_plain rfl _) (rn_mv rfl (he6.op rfl) w6) ?_
    intro a7 he7
    clear he6 a6
    refine lV (Value.string (bs l)) he7 rfl rfl (wanted_plain rfl _) (rn_mv rfl (he7.op rfl) w6) ?_
    intro a8 he8
    clear he7 a7
    refine lV (Value.int .i64 ((l.length : Nat) : Int)) he8 rfl rfl (wanted_plain rfl _) (rn_lenS rfl (he8.op rfl) w6) ?_
    intro a9 he9
    clear he8 a8
    by_cases hb1 : (i : Int) < ((l.length : Nat) : Int)
    · skip
      refine lV (Value.bool true) he9 rfl rfl (wanted_plain rfl _) (rn_lsI rfl (he9.op rfl) (he9.op rfl) (decide_eq_true hb1) w6) ?_
      intro a10 he10
      clear he9 a9
      refine wpList_nil ?_
      refine then_ok ?_
      refine wp_cond_true (he10.op rfl) ?_
      refine wp_skip ?_
      refine then_ok ?_
      refine wp_seq ?_
      refine wp_block ?_
      refine wp_seq ?_
      have hdc := hd _ (getD_mem (l := l) (i := i) (d := 0) (by omega))
      have hns := num_step (l := l) (i := i) (by omega)
      refine wp_region_lit ?_
      refine lV (Value.int .i64 n) he10 rfl rfl (wanted_plain rfl _) (rn_mv rfl (he10.op rfl) w6) ?_
      intro a11 he11
      clear he10 a10
      refine lV (Value.int .i64 (10 * n)) he11 rfl rfl (wanted_plain rfl _) (rn_mulI rfl (he11.op rfl) (he11.op rfl) (i64w (by omega) (by omega)) w6) ?_
      intro a12 he12
      clear he11 a11
      refine lV (Value.string (bs l)) he12 rfl rfl (wanted_plain rfl _) (rn_mv rfl (he12.op rfl) w6) ?_
      intro a13 he13
      clear he12 a12
      refine lV (Value.int .i64 (i : Int)) he13 rfl rfl (wanted_plain rfl _) (rn_mv rfl (he13.op rfl) w6) ?_
      intro a14 he14
      clear he13 a13
      refine lV (Value.int .u8 ((l.getD i 0).toNat : Int)) he14 rfl rfl (wanted_plain rfl _) (rn_ixS (k := i) rfl (he14.op rfl) (he14.op rfl) (getD_at (by omega)) w6) ?_
      intro a15 he15
      clear he14 a14
      refine lV (Value.int .u8 (((l.getD i 0).toNat : Int) - 48)) he15 rfl rfl (wanted_plain rfl _) (rn_subU rfl (he15.op rfl) (he15.op rfl) (u8w (by omega) (by omega)) w6) ?_
      intro a16 he16
      clear he15 a15
      refine lV (Value.int .i64 (((l.getD i 0).toNat : Int) - 48)) he16 rfl rfl (wanted_plain rfl _) (rn_cvUI rfl (he16.op rfl) (i64w (by omega) (by omega)) w6) ?_
      intro a17 he17
      clear he16 a16
      refine lV (Value.int .i64 ((10 * n) + (((l.getD i 0).toNat : Int) - 48))) he17 rfl rfl (wanted_plain rfl _) (rn_addI rfl (he17.op rfl) (he17.op rfl) (i64w (by omega) (by omega)) w6) ?_
      intro a18 he18
      clear he17 a17
      refine lV (Value.int .i64 ((10 * n) + (((l.getD i 0).toNat : Int) - 48))) he18 rfl rfl (wanted_plain rfl _) (rn_asg rfl (he18.op rfl) w6) ?_
      intro a19 he19
      clear he18 a18
      refine wpList_nil ?_
      refine then_ok ?_
      refine wp_seq ?_
      refine wp_region_lit ?_
      refine lV (Value.int .i64 ((10 * n) + (((l.getD i 0).toNat : Int) - 48))) he19 rfl rfl (wanted_plain rfl _) (rn_mv rfl (he19.op rfl) w6) ?_
      intro a20 he20
      clear he19 a19
      by_cases hb2 : 9999 < ((10 * n) + (((l.getD i 0).toNat : Int) - 48))
      · skip
        refine lV (Value.bool true) he20 rfl rfl (wanted_plain rfl _) (rn_gtI rfl (he20.op rfl) (he20.op rfl) (decide_eq_true hb2) w6) ?_
        intro a21 he21
        clear he20 a20
        refine wpList_nil ?_
        refine then_ok ?_
        refine wp_cond_true (he21.op rfl) ?_
        refine wp_region_lit ?_
        refine lV (Value.int .i64 9999) he21 rfl rfl (wanted_plain rfl _) (rn_asg rfl (he21.op rfl) w6) ?_
        intro a22 he22
        clear he21 a21
        refine wpList_nil ?_
        refine block_ok ?_
        refine then_ok ?_
        refine wp_region_lit ?_
        refine lV (Value.int .i64 (i : Int)) he22 rfl rfl (wanted_plain rfl _) (rn_mv rfl (he22.op rfl) w6) ?_
        intro a23 he23
        clear he22 a22
        refine lV (Value.int .i64 ((i + 1 : Nat) : Int)) he23 rfl rfl (wanted_plain rfl _) (rn_addI rfl (he23.op rfl) (he23.op rfl) (by rw [i64w (by omega) (by omega)]; omega) w6) ?_
        intro a24 he24
        clear he23 a23
        refine lV (Value.int .i64 ((i + 1 : Nat) : Int)) he24 rfl rfl (wanted_plain rfl _) (rn_asg rfl (he24.op rfl) w6) ?_
        intro a25 he25
        clear he24 a24
        refine wpList_nil ?_
        refine then_ok ?_
        exact ⟨l.length - (i + 1), by omega, i + 1, 9999, rfl, by omega, by omega, ⟨by omega, by omega⟩, he25.mem ⟨rfl, rfl, rfl, trivial⟩, hH6⟩
      · skip
        refine lV (Value.bool false) he20 rfl rfl (wanted_plain rfl _) (rn_gtI rfl (he20.op rfl) (he20.op rfl) (decide_eq_false hb2) w6) ?_
        intro a21 he21
        clear he20 a20
        refine wpList_nil ?_
        refine then_ok ?_
        refine wp_cond_false (he21.op rfl) ?_
        refine wp_skip ?_
        refine block_ok ?_
        refine then_ok ?_
        refine wp_region_lit ?_
        refine lV (Value.int .i64 (i : Int)) he21 rfl rfl (wanted_plain rfl _) (rn_mv rfl (he21.op rfl) w6) ?_
        intro a22 he22
        clear he21 a21
        refine lV (Value.int .i64 ((i + 1 : Nat) : Int)) he22 rfl rfl (wanted_plain rfl _) (rn_addI rfl (he22.op rfl) (he22.op rfl) (by rw [i64w (by omega) (by omega)]; omega) w6) ?_
        intro a23 he23
        clear he22 a22
        refine lV (Value.int .i64 ((i + 1 : Nat) : Int)) he23 rfl rfl (wanted_plain rfl _) (rn_asg rfl (he23.op rfl) w6) ?_
        intro a24 he24
        clear he23 a23
        refine wpList_nil ?_
        refine then_ok ?_
        exact ⟨l.length - (i + 1), by omega, i + 1, ((10 * n) + (((l.getD i 0).toNat : Int) - 48)), rfl, by omega, by omega, ⟨by omega, by omega⟩, he24.mem ⟨rfl, rfl, rfl, trivial⟩, hH6⟩
    · skip
      refine lV (Value.bool false) he9 rfl rfl (wanted_plain rfl _) (rn_lsI rfl (he9.op rfl) (he9.op rfl) (decide_eq_false hb1) w6) ?_
      intro a10 he10
      clear he9 a9
      refine wpList_nil ?_
      refine then_ok ?_
      refine wp_cond_false (he10.op rfl) ?_
      refine wp_exit ?_
      refine then_exit ?_
      refine then_exit ?_
      refine block_exit ?_
      refine then_ok ?_
      refine wp_seq ?_
      refine wp_region_lit ?_
      refine lV (Value.int .i64 n) he10 rfl rfl (wanted_plain rfl _) (rn_mv rfl (he10.op rfl) w6) ?_
      intro a11 he11
      clear he10 a10
      refine lV (Value.int .i64 n) he11 rfl rfl (wanted_plain rfl _) (rn_asg rfl (he11.op rfl) w6) ?_
      intro a12 he12
      clear he11 a11
      refine wpList_nil ?_
      refine then_ok ?_
      refine wp_ret ?_
      try simp only [Exit.then, Exit.inBlock, Exit.noGoto]
      exact ret_env rfl he12 rfl ⟨by rw [List.take_of_length_le (by omega)] at hn; have := num_ge hb0 hd; refine congrArg (fun n => Ending.returned (.int .i64 n)) ?_; show _ = numF (-1) l; omega, hH6.new⟩
set_option linter.unusedSimpArgs false in
set_option maxRecDepth 100000 in
set_option maxHeartbeats 1600000 in
theorem decimal_n (u : Nat) : u ≤ 1000000 → ∀ w, Calls Tryd.prog 29 #[.int .i64 (u : Int)] w fun e w' => e = .returned (.string (bs (Lib.decDigits u))) ∧ New w w' := by
  induction u using Nat.strongRecOn with
  | _ u ih =>
  intro hu w
  refine calls_args (vl := [Value.int .i64 (u : Int)]) 17 Tryd.func29 rfl Tryd.ntmps29 (by kernel_rfl) (fun a he => ?_)
  have he0 : Env 17 [(0, Value.int .i64 (u : Int))] a := he
  clear he
  have hH := Hp.start w
  refine wp_seq ?_
  refine wp_region_lit ?_
  refine lV (Value.string { data := #[] }) he0 rfl rfl (wanted_plain rfl _) (rn_asg rfl (he0.op rfl) w) ?_
  intro a1 he1
  clear he0 a
  refine wpList_nil ?_
  refine then_ok ?_
  refine wp_seq ?_
  refine wp_seq ?_
  refine wp_region_lit ?_
  refine lV (Value.int .i64 (u : Int)) he1 rfl rfl (wanted_plain rfl _) (rn_mv rfl (he1.op rfl) w) ?_
  intro a2 he2
  clear he1 a1
  by_cases hb0 : (u : Int) < 10
  · skip
    refine lV (Value.bool true) he2 rfl rfl (wanted_plain rfl _) (rn_lsI rfl (he2.op rfl) (he2.op rfl) (decide_eq_true hb0) w) ?_
    intro a3 he3
    clear he2 a2
    refine wpList_nil ?_
    refine then_ok ?_
    refine wp_cond_true (he3.op rfl) ?_
    refine wp_seq ?_
    refine wp_region_lit ?_
    refine lV (Value.int .i64 (u : Int)) he3 rfl rfl (wanted_plain rfl _) (rn_mv rfl (he3.op rfl) w) ?_
    intro a4 he4
    clear he3 a3
    refine lV (Value.int .i64 (48 + (u : Int))) he4 rfl rfl (wanted_plain rfl _) (rn_addI rfl (he4.op rfl) (he4.op rfl) (i64w (by omega) (by omega)) w) ?_
    intro a5 he5
    clear he4 a4
    refine lV (Value.int .u8 ((UInt8.ofNat (48 + u)).toNat : Int)) he5 rfl rfl (wanted_plain rfl _) (rn_cvIU rfl (he5.op rfl) (by rw [digit_nat (by omega), u8w (by omega) (by omega)]; omega) w) ?_
    intro a6 he6
    clear he5 a5
    refine lNewP (fun p => .slice (some ⟨p, 0, none⟩) 1 1) he6 hH rfl rfl (wanted_plain rfl _) (rn_bsU1 rfl (he6.op rfl) w) ?_
    intro p7 w7 a8 hp hn hH7 he8
    clear he6 a6 hH hn hp
    refine lV (Value.string (bs [(UInt8.ofNat (48 + u))])) he8 rfl rfl (wanted_plain rfl _) (rn_cvBS1 (c := (UInt8.ofNat (48 + u))) rfl (he8.op rfl) (hH7.at (i := 0) rfl)) ?_
    intro a9 he9
    clear he8 a8
    refine lV (Value.string (bs [(UInt8.ofNat (48 + u))])) he9 rfl rfl (wanted_plain rfl _) (rn_asg rfl (he9.op rfl) w7) ?_
    intro a10 he10
    clear he9 a9
    refine wpList_nil ?_
    refine then_ok ?_
    refine wp_ret ?_
    try simp only [Exit.then, Exit.inBlock, Exit.noGoto]
    exact ret_env rfl he10 rfl ⟨by first | rw [Lib.decDigits_one (by omega)] | (rw [digits_big (u := u) (by omega), Lib.decDigits_one (i := u % 10) (by omega)]), hH7.new⟩
  · skip
    refine lV (Value.bool false) he2 rfl rfl (wanted_plain rfl _) (rn_lsI rfl (he2.op rfl) (he2.op rfl) (decide_eq_false hb0) w) ?_
    intro a3 he3
    clear he2 a2
    refine wpList_nil ?_
    refine then_ok ?_
    refine wp_cond_false (he3.op rfl) ?_
    refine wp_skip ?_
    refine then_ok ?_
    refine wp_seq ?_
    have hd := digits_len 7 (u / 10) (by omega)
    have hd2 := digits_len 7 (u % 10) (by omega)
    refine wp_region_lit ?_
    refine lV (Value.int .i64 (u : Int)) he3 rfl rfl (wanted_plain rfl _) (rn_mv rfl (he3.op rfl) w) ?_
    intro a4 he4
    clear he3 a3
    refine lV (Value.int .i64 ((u / 10 : Nat) : Int)) he4 rfl rfl (wanted_plain rfl _) (rn_quoNI rfl (he4.op rfl) (he4.op rfl) (by omega) (by omega) (by omega) (by omega) w) ?_
    intro a5 he5
    clear he4 a4
    refine lC he5 rfl rfl Tryd.func29 (by kernel_rfl) rfl rfl (wanted_plain rfl _) rfl (ih _ (by omega) (by omega) w) ?_
    intro w6 a7 hn he7
    have hH6 := hH.call hn
    clear he5 a5 hH hn
    refine lV (Value.int .i64 (u : Int)) he7 rfl rfl (wanted_plain rfl _) (rn_mv rfl (he7.op rfl) w6) ?_
    intro a8 he8
    clear he7 a7
    refine lV (Value.int .i64 ((u % 10 : Nat) : Int)) he8 rfl rfl (wanted_plain rfl _) (rn_remNI rfl (he8.op rfl) (he8.op rfl) (by omega) (by omega) (by omega) w6) ?_
    intro a9 he9
    clear he8 a8
    refine lC he9 rfl rfl Tryd.func29 (by kernel_rfl) rfl rfl (wanted_plain rfl _) rfl (ih _ (by omega) (by omega) w6) ?_
    intro w10 a11 hn he11
    have hH10 := hH6.call hn
    clear he9 a9 hH6 hn
    refine lV (Value.string (bs ((Lib.decDigits (u / 10 : Nat)) ++ (Lib.decDigits (u % 10 : Nat))))) he11 rfl rfl (wanted_plain rfl _) (rn_addS (a := (Lib.decDigits (u / 10 : Nat))) (c := (Lib.decDigits (u % 10 : Nat))) rfl (he11.op rfl) (he11.op rfl) (by first | decide | omega | (simp only [List.length_append, List.length_cons, List.length_nil]; omega)) rfl w10) ?_
    intro a12 he12
    clear he11 a11
    refine lV (Value.string (bs ((Lib.decDigits (u / 10 : Nat)) ++ (Lib.decDigits (u % 10 : Nat))))) he12 rfl rfl (wanted_plain rfl _) (rn_asg rfl (he12.op rfl) w10) ?_
    intro a13 he13
    clear he12 a12
    refine wpList_nil ?_
    refine then_ok ?_
    refine wp_ret ?_
    try simp only [Exit.then, Exit.inBlock, Exit.noGoto]
    exact ret_env rfl he13 rfl ⟨by first | rw [Lib.decDigits_one (by omega)] | (rw [digits_big (u := u) (by omega), Lib.decDigits_one (i := u % 10) (by omega)]), hH10.new⟩
theorem decimal_c (n : Int) (h0 : 0 ≤ n) (h1 : n ≤ 1000000) (w : World) : Calls Tryd.prog 29 #[.int .i64 n] w fun e w' => e = .returned (.string (bs (Lib.decDigits n.toNat))) ∧ New w w' := by
  have e : n = (n.toNat : Int) := by omega
  have := decimal_n n.toNat (by omega) w
  rwa [← e] at this
set_option linter.unusedSimpArgs false in
set_option maxRecDepth 100000 in
set_option maxHeartbeats 1600000 in
theorem RText_c (A : Option Addr) (c b : Nat) (l : List Int) (hok : ∀ n ∈ l, ok1 n) (hl : l.length ≤ 1000) (w : World) (hr : Rd w b A l.length (ivs l)) : Calls Tryd.prog 16 #[.slice A l.length c] w fun e w' => e = .returned (.string (bs (textL l))) ∧ New w w' := by
  refine calls_args (vl := [Value.slice A l.length c]) 28 Tryd.func16 rfl Tryd.ntmps16 (by kernel_rfl) (fun a he => ?_)
  have he0 : Env 28 [(0, Value.slice A l.length c)] a := he
  clear he
  have hH := Hp.start w
  refine wp_seq ?_
  refine wp_region_lit ?_
  refine lV (Value.string { data := #[] }) he0 rfl rfl (wanted_plain rfl _) (rn_asg rfl (he0.op rfl) w) ?_
  intro a1 he1
  clear he0 a
  refine wpList_nil ?_
  refine then_ok ?_
  refine wp_seq ?_
  refine wp_region_lit ?_
  refine lV (Value.string { data := #[] }) he1 rfl rfl (wanted_plain rfl _) (rn_asg rfl (he1.op rfl) w) ?_
  intro a2 he2
  clear he1 a1
  refine wpList_nil ?_
  refine then_ok ?_
  refine wp_seq ?_
  refine wp_seq ?_
  refine wp_region_lit ?_
  refine lV (Value.int .i64 0) he2 rfl rfl (wanted_plain rfl _) (rn_asg rfl (he2.op rfl) w) ?_
  intro a3 he3
  clear he2 a2
  refine wpList_nil ?_
  refine then_ok ?_
  refine wp_block ?_
  refine loop_nat (fun q a w' => ∃ (i : Nat) (st : List UInt8), q = l.length - i ∧ i ≤ l.length ∧ st = textL (l.take i) ∧ st.length ≤ 5 * i ∧ Env 28 [(4, Value.int .i64 (i : Int)), (3, Value.string (bs st)), (0, Value.slice A l.length c)] a ∧ Hp w [] w') _ ⟨0, [], rfl, Nat.zero_le _, rfl, Nat.le_refl _, he3.mem ⟨rfl, rfl, rfl, trivial⟩, hH⟩ ?_
  clear he3 hH
  rintro q a4 w4 ⟨i, st, rfl, hi, hst, hsl, he4, hH4⟩
  refine wp_seq ?_
  refine wp_seq ?_
  refine wp_region_lit ?_
  refine lV (Value.int .i64 (i : Int)) he4 rfl rfl (wanted_plain rfl _) (rn_mv rfl (he4.op rfl) w4) ?_
  intro a5 he5
  clear he4 a4
  refine lV (Value.slice A l.length c) he5 rfl rfl (wanted_plain rfl _) (rn_mv rfl (he5.op rfl) w4) ?_
  intro a6 he6
  clear he5 a5
  refine lV (Value.int .i64 ((l.length : Nat) : Int)) he6 rfl rfl (wanted_plain rfl _) (rn_lenJ rfl (he6.op rfl) w4) ?_
  intro a7 he7
  clear he6 a6
  by_cases hb0 : (i : Int) < ((l.length : Nat) : Int)
  · skip
    refine lV (Value.bool true) he7 rfl rfl (wanted_plain rfl _) (rn_lsI rfl (he7.op rfl) (he7.op rfl) (decide_eq_true hb0) w4) ?_
    intro a8 he8
    clear he7 a7
    refine wpList_nil ?_
    refine then_ok ?_
    refine wp_cond_true (he8.op rfl) ?_
    refine wp_skip ?_
    refine then_ok ?_
    refine wp_seq ?_
    refine wp_block ?_
    refine wp_seq ?_
    refine wp_seq ?_
    have hk := hok _ (getD_mem (l := l) (i := i) (d := 0) (by omega))
    refine wp_region_lit ?_
    refine lV (Value.int .i64 (i : Int)) he8 rfl rfl (wanted_plain rfl _) (rn_mv rfl (he8.op rfl) w4) ?_
    intro a9 he9
    clear he8 a8
    by_cases hb1 : 0 < (i : Int)
    · skip
      refine lV (Value.bool true) he9 rfl rfl (wanted_plain rfl _) (rn_gtI rfl (he9.op rfl) (he9.op rfl) (decide_eq_true hb1) w4) ?_
      intro a10 he10
      clear he9 a9
      refine wpList_nil ?_
      refine then_ok ?_
      refine wp_cond_true (he10.op rfl) ?_
      refine wp_region_lit ?_
      refine lV (Value.string (bs st)) he10 rfl rfl (wanted_plain rfl _) (rn_mv rfl (he10.op rfl) w4) ?_
      intro a11 he11
      clear he10 a10
      refine lV (Value.string (bs (st ++ ([59] : List UInt8)))) he11 rfl rfl (wanted_plain rfl _) (rn_addS (a := st) (c := ([59] : List UInt8)) rfl (he11.op rfl) (he11.op rfl) (by first | decide | omega | (simp only [List.length_append, List.length_cons, List.length_nil]; omega)) rfl w4) ?_
      intro a12 he12
      clear he11 a11
      refine lV (Value.string (bs (st ++ ([59] : List UInt8)))) he12 rfl rfl (wanted_plain rfl _) (rn_asg rfl (he12.op rfl) w4) ?_
      intro a13 he13
      clear he12 a12
      refine wpList_nil ?_
      refine then_ok ?_
      refine wp_seq ?_
      refine wp_region_lit ?_
      refine lV (Value.slice A l.length c) he13 rfl rfl (wanted_plain rfl _) (rn_mv rfl (he13.op rfl) w4) ?_
      intro a14 he14
      clear he13 a13
      refine lV (Value.int .i64 (i : Int)) he14 rfl rfl (wanted_plain rfl _) (rn_mv rfl (he14.op rfl) w4) ?_
      intro a15 he15
      clear he14 a14
      refine lV (Value.pointer (some ⟨b, offA A + i, none⟩)) he15 rfl rfl (wanted_plain rfl _) (rn_ixJ (k := i) (hr.new hH4.new) rfl (he15.op rfl) (he15.op rfl) rfl (by omega)) ?_
      intro a16 he16
      clear he15 a15
      refine lV (Value.int .i64 (l.getD i 0)) he16 rfl rfl (wanted_plain rfl _) (rn_ldJ (hr.new hH4.new) rfl (he16.op rfl) (by omega) (getD_at (by omega))) ?_
      intro a17 he17
      clear he16 a16
      by_cases hb2 : 0 ≤ (l.getD i 0)
      · skip
        refine lV (Value.bool true) he17 rfl rfl (wanted_plain rfl _) (rn_geI rfl (he17.op rfl) (he17.op rfl) (decide_eq_true hb2) w4) ?_
        intro a18 he18
        clear he17 a17
        refine wpList_nil ?_
        refine then_ok ?_
        refine wp_cond_true (he18.op rfl) ?_
        have hdl := digits_len 3 (Int.toNat (l.getD i 0)) (by omega)
        refine wp_region_lit ?_
        refine lV (Value.string (bs (st ++ ([59] : List UInt8)))) he18 rfl rfl (wanted_plain rfl _) (rn_mv rfl (he18.op rfl) w4) ?_
        intro a19 he19
        clear he18 a18
        refine lV (Value.slice A l.length c) he19 rfl rfl (wanted_plain rfl _) (rn_mv rfl (he19.op rfl) w4) ?_
        intro a20 he20
        clear he19 a19
        refine lV (Value.int .i64 (i : Int)) he20 rfl rfl (wanted_plain rfl _) (rn_mv rfl (he20.op rfl) w4) ?_
        intro a21 he21
        clear he20 a20
        refine lV (Value.pointer (some ⟨b, offA A + i, none⟩)) he21 rfl rfl (wanted_plain rfl _) (rn_ixJ (k := i) (hr.new hH4.new) rfl (he21.op rfl) (he21.op rfl) rfl (by omega)) ?_
        intro a22 he22
        clear he21 a21
        refine lV (Value.int .i64 (l.getD i 0)) he22 rfl rfl (wanted_plain rfl _) (rn_ldJ (hr.new hH4.new) rfl (he22.op rfl) (by omega) (getD_at (by omega))) ?_
        intro a23 he23
        clear he22 a22
        refine lC he23 rfl rfl Tryd.func29 (by kernel_rfl) rfl rfl (wanted_plain rfl _) rfl (decimal_c (l.getD i 0) (by omega) (by omega) w4) ?_
        intro w24 a25 hn he25
        have hH24 := hH4.call hn
        clear he23 a23 hH4 hn
        refine lV (Value.string (bs ((st ++ ([59] : List UInt8)) ++ (Lib.decDigits (Int.toNat (l.getD i 0)))))) he25 rfl rfl (wanted_plain rfl _) (rn_addS (a := (st ++ ([59] : List UInt8))) (c := (Lib.decDigits (Int.toNat (l.getD i 0)))) rfl (he25.op rfl) (he25.op rfl) (by first | decide | omega | (simp only [List.length_append, List.length_cons, List.length_nil]; omega)) rfl w24) ?_
        intro a26 he26
        clear he25 a25
        refine lV (Value.string (bs ((st ++ ([59] : List UInt8)) ++ (Lib.decDigits (Int.toNat (l.getD i 0)))))) he26 rfl rfl (wanted_plain rfl _) (rn_asg rfl (he26.op rfl) w24) ?_
        intro a27 he27
        clear he26 a26
        refine wpList_nil ?_
        refine block_ok ?_
        refine then_ok ?_
        refine wp_region_lit ?_
        refine lV (Value.int .i64 (i : Int)) he27 rfl rfl (wanted_plain rfl _) (rn_mv rfl (he27.op rfl) w24) ?_
        intro a28 he28
        clear he27 a27
        refine lV (Value.int .i64 ((i + 1 : Nat) : Int)) he28 rfl rfl (wanted_plain rfl _) (rn_addI rfl (he28.op rfl) (he28.op rfl) (by rw [i64w (by omega) (by omega)]; omega) w24) ?_
        intro a29 he29
        clear he28 a28
        refine lV (Value.int .i64 ((i + 1 : Nat) : Int)) he29 rfl rfl (wanted_plain rfl _) (rn_asg rfl (he29.op rfl) w24) ?_
        intro a30 he30
        clear he29 a29
        refine wpList_nil ?_
        refine then_ok ?_
        exact ⟨l.length - (i + 1), by omega, i + 1, ((st ++ ([59] : List UInt8)) ++ (Lib.decDigits (Int.toNat (l.getD i 0)))), rfl, by omega, (by rw [text_step (by omega), if_neg (by omega), part_yes (by assumption)]; subst hst; simp), (by simp only [List.length_append, List.length_cons, List.length_nil]; omega), he30.mem ⟨rfl, rfl, rfl, trivial⟩, hH24⟩
      · skip
        refine lV (Value.bool false) he17 rfl rfl (wanted_plain rfl _) (rn_geI rfl (he17.op rfl) (he17.op rfl) (decide_eq_false hb2) w4) ?_
        intro a18 he18
        clear he17 a17
        refine wpList_nil ?_
        refine then_ok ?_
        refine wp_cond_false (he18.op rfl) ?_
        refine wp_skip ?_
        refine block_ok ?_
        refine then_ok ?_
        refine wp_region_lit ?_
        refine lV (Value.int .i64 (i : Int)) he18 rfl rfl (wanted_plain rfl _) (rn_mv rfl (he18.op rfl) w4) ?_
        intro a19 he19
        clear he18 a18
        refine lV (Value.int .i64 ((i + 1 : Nat) : Int)) he19 rfl rfl (wanted_plain rfl _) (rn_addI rfl (he19.op rfl) (he19.op rfl) (by rw [i64w (by omega) (by omega)]; omega) w4) ?_
        intro a20 he20
        clear he19 a19
        refine lV (Value.int .i64 ((i + 1 : Nat) : Int)) he20 rfl rfl (wanted_plain rfl _) (rn_asg rfl (he20.op rfl) w4) ?_
        intro a21 he21
        clear he20 a20
        refine wpList_nil ?_
        refine then_ok ?_
        exact ⟨l.length - (i + 1), by omega, i + 1, (st ++ ([59] : List UInt8)), rfl, by omega, (by rw [text_step (by omega), if_neg (by omega), part_no hk (by assumption)]; subst hst; simp), (by simp only [List.length_append, List.length_cons, List.length_nil]; omega), he21.mem ⟨rfl, rfl, rfl, trivial⟩, hH4⟩
    · skip
      refine lV (Value.bool false) he9 rfl rfl (wanted_plain rfl _) (rn_gtI rfl (he9.op rfl) (he9.op rfl) (decide_eq_false hb1) w4) ?_
      intro a10 he10
      clear he9 a9
      refine wpList_nil ?_
      refine then_ok ?_
      refine wp_cond_false (he10.op rfl) ?_
      refine wp_skip ?_
      refine then_ok ?_
      refine wp_seq ?_
      refine wp_region_lit ?_
      refine lV (Value.slice A l.length c) he10 rfl rfl (wanted_plain rfl _) (rn_mv rfl (he10.op rfl) w4) ?_
      intro a11 he11
      clear he10 a10
      refine lV (Value.int .i64 (i : Int)) he11 rfl rfl (wanted_plain rfl _) (rn_mv rfl (he11.op rfl) w4) ?_
      intro a12 he12
      clear he11 a11
      refine lV (Value.pointer (some ⟨b, offA A + i, none⟩)) he12 rfl rfl (wanted_plain rfl _) (rn_ixJ (k := i) (hr.new hH4.new) rfl (he12.op rfl) (he12.op rfl) rfl (by omega)) ?_
      intro a13 he13
      clear he12 a12
      refine lV (Value.int .i64 (l.getD i 0)) he13 rfl rfl (wanted_plain rfl _) (rn_ldJ (hr.new hH4.new) rfl (he13.op rfl) (by omega) (getD_at (by omega))) ?_
      intro a14 he14
      clear he13 a13
      by_cases hb2 : 0 ≤ (l.getD i 0)
      · skip
        refine lV (Value.bool true) he14 rfl rfl (wanted_plain rfl _) (rn_geI rfl (he14.op rfl) (he14.op rfl) (decide_eq_true hb2) w4) ?_
        intro a15 he15
        clear he14 a14
        refine wpList_nil ?_
        refine then_ok ?_
        refine wp_cond_true (he15.op rfl) ?_
        have hdl := digits_len 3 (Int.toNat (l.getD i 0)) (by omega)
        refine wp_region_lit ?_
        refine lV (Value.string (bs st)) he15 rfl rfl (wanted_plain rfl _) (rn_mv rfl (he15.op rfl) w4) ?_
        intro a16 he16
        clear he15 a15
        refine lV (Value.slice A l.length c) he16 rfl rfl (wanted_plain rfl _) (rn_mv rfl (he16.op rfl) w4) ?_
        intro a17 he17
        clear he16 a16
        refine lV (Value.int .i64 (i : Int)) he17 rfl rfl (wanted_plain rfl _) (rn_mv rfl (he17.op rfl) w4) ?_
        intro a18 he18
        clear he17 a17
        refine lV (Value.pointer (some ⟨b, offA A + i, none⟩)) he18 rfl rfl (wanted_plain rfl _) (rn_ixJ (k := i) (hr.new hH4.new) rfl (he18.op rfl) (he18.op rfl) rfl (by omega)) ?_
        intro a19 he19
        clear he18 a18
        refine lV (Value.int .i64 (l.getD i 0)) he19 rfl rfl (wanted_plain rfl _) (rn_ldJ (hr.new hH4.new) rfl (he19.op rfl) (by omega) (getD_at (by omega))) ?_
        intro a20 he20
        clear he19 a19
        refine lC he20 rfl rfl Tryd.func29 (by kernel_rfl) rfl rfl (wanted_plain rfl _) rfl (decimal_c (l.getD i 0) (by omega) (by omega) w4) ?_
        intro w21 a22 hn he22
        have hH21 := hH4.call hn
        clear he20 a20 hH4 hn
        refine lV (Value.string (bs (st ++ (Lib.decDigits (Int.toNat (l.getD i 0)))))) he22 rfl rfl (wanted_plain rfl _) (rn_addS (a := st) (c := (Lib.decDigits (Int.toNat (l.getD i 0)))) rfl (he22.op rfl) (he22.op rfl) (by first | decide | omega | (simp only [List.length_append, List.length_cons, List.length_nil]; omega)) rfl w21) ?_
        intro a23 he23
        clear he22 a22
        refine lV (Value.string (bs (st ++ (Lib.decDigits (Int.toNat (l.getD i 0)))))) he23 rfl rfl (wanted_plain rfl _) (rn_asg rfl (he23.op rfl) w21) ?_
        intro a24 he24
        clear he23 a23
        refine wpList_nil ?_
        refine block_ok ?_
        refine then_ok ?_
        refine wp_region_lit ?_
        refine lV (Value.int .i64 (i : Int)) he24 rfl rfl (wanted_plain rfl _) (rn_mv rfl (he24.op rfl) w21) ?_
        intro a25 he25
        clear he24 a24
        refine lV (Value.int .i64 ((i + 1 : Nat) : Int)) he25 rfl rfl (wanted_plain rfl _) (rn_addI rfl (he25.op rfl) (he25.op rfl) (by rw [i64w (by omega) (by omega)]; omega) w21) ?_
        intro a26 he26
        clear he25 a25
        refine lV (Value.int .i64 ((i + 1 : Nat) : Int)) he26 rfl rfl (wanted_plain rfl _) (rn_asg rfl (he26.op rfl) w21) ?_
        intro a27 he27
        clear he26 a26
        refine wpList_nil ?_
        refine then_ok ?_
        exact ⟨l.length - (i + 1), by omega, i + 1, (st ++ (Lib.decDigits (Int.toNat (l.getD i 0)))), rfl, by omega, (by rw [text_step (by omega), if_pos (by omega), part_yes (by assumption)]; obtain rfl : i = 0 := (by omega); subst hst; simp [textL_nil]), (by simp only [List.length_append, List.length_cons, List.length_nil]; omega), he27.mem ⟨rfl, rfl, rfl, trivial⟩, hH21⟩
      · skip
        refine lV (Value.bool false) he14 rfl rfl (wanted_plain rfl _) (rn_geI rfl (he14.op rfl) (he14.op rfl) (decide_eq_false hb2) w4) ?_
        intro a15 he15
        clear he14 a14
        refine wpList_nil ?_
        refine then_ok ?_
        refine wp_cond_false (he15.op rfl) ?_
        refine wp_skip ?_
        refine block_ok ?_
        refine then_ok ?_
        refine wp_region_lit ?_
        refine lV (Value.int .i64 (i : Int)) he15 rfl rfl (wanted_plain rfl _) (rn_mv rfl (he15.op rfl) w4) ?_
        intro a16 he16
        clear he15 a15
        refine lV (Value.int .i64 ((i + 1 : Nat) : Int)) he16 rfl rfl (wanted_plain rfl _) (rn_addI rfl (he16.op rfl) (he16.op rfl) (by rw [i64w (by omega) (by omega)]; omega) w4) ?_
        intro a17 he17
        clear he16 a16
        refine lV (Value.int .i64 ((i + 1 : Nat) : Int)) he17 rfl rfl (wanted_plain rfl _) (rn_asg rfl (he17.op rfl) w4) ?_
        intro a18 he18
        clear he17 a17
        refine wpList_nil ?_
        refine then_ok ?_
        exact ⟨l.length - (i + 1), by omega, i + 1, st, rfl, by omega, (by rw [text_step (by omega), if_pos (by omega), part_no hk (by assumption)]; obtain rfl : i = 0 := (by omega); subst hst; simp [textL_nil]), (by omega), he18.mem ⟨rfl, rfl, rfl, trivial⟩, hH4⟩
  · skip
    refine lV (Value.bool false) he7 rfl rfl (wanted_plain rfl _) (rn_lsI rfl (he7.op rfl) (he7.op rfl) (decide_eq_false hb0) w4) ?_
    intro a8 he8
    clear he7 a7
    refine wpList_nil ?_
    refine then_ok ?_
    refine wp_cond_false (he8.op rfl) ?_
    refine wp_exit ?_
    refine then_exit ?_
    refine then_exit ?_
    refine block_exit ?_
    refine then_ok ?_
    refine wp_seq ?_
    refine wp_region_lit ?_
    refine lV (Value.string (bs st)) he8 rfl rfl (wanted_plain rfl _) (rn_mv rfl (he8.op rfl) w4) ?_
    intro a9 he9
    clear he8 a8
    refine lV (Value.string (bs st)) he9 rfl rfl (wanted_plain rfl _) (rn_asg rfl (he9.op rfl) w4) ?_
    intro a10 he10
    clear he9 a9
    refine wpList_nil ?_
    refine then_ok ?_
    refine wp_ret ?_
    try simp only [Exit.then, Exit.inBlock, Exit.noGoto]
    exact ret_env rfl he10 rfl ⟨by rw [hst, List.take_of_length_le (by omega)], hH4.new⟩
theorem Join_l (p : Nat) (l : List Int) (ho : okL l) (w : World) (hB : Blk w p 9 (svs (l.map part1)).toArray) : Calls Tryd.prog 39 #[.slice (some ⟨p, 0, none⟩) l.length l.length, .string (bs [59])] w fun e w' => e = .returned (.string (bs (textL l))) ∧ New w w' := by
  have h1 := text_len l ho.2.1
  have h2 := ho.1
  have := Join_c p (l.map part1) (by rw [List.length_map]; omega) (by show (textL l).length ≤ _; omega) w hB
  rw [List.length_map] at this
  exact this
set_option linter.unusedSimpArgs false in
set_option maxRecDepth 100000 in
set_option maxHeartbeats 1600000 in
theorem Text_c (A : Option Addr) (c b : Nat) (l : List Int) (s : List UInt8) (er : Int) (h : textE l = (s, er)) (hl : l.length ≤ 1000000) (w : World) (hr : Rd w b A l.length (ivs l)) (hT : Tab w) : Calls Tryd.prog 27 #[.slice A l.length c] w fun e w' => e = .returned (.tuple #[.string (bs s), .int .i64 er]) ∧ New w w' := by
  refine calls_args (vl := [Value.slice A l.length c]) 30 Tryd.func27 rfl Tryd.ntmps27 (by kernel_rfl) (fun a he => ?_)
  have he0 : Env 30 [(0, Value.slice A l.length c)] a := he
  clear he
  have hH := Hp.start w
  refine wp_seq ?_
  refine wp_region_lit ?_
  refine lV (Value.string { data := #[] }) he0 rfl rfl (wanted_plain rfl _) (rn_asg rfl (he0.op rfl) w) ?_
  intro a1 he1
  clear he0 a
  refine lV (Value.int .i64 0) he1 rfl rfl (wanted_plain rfl _) (rn_asg rfl (he1.op rfl) w) ?_
  intro a2 he2
  clear he1 a1
  refine wpList_nil ?_
  refine then_ok ?_
  refine wp_seq ?_
  refine wp_seq ?_
  refine wp_region_lit ?_
  refine lV (Value.slice A l.length c) he2 rfl rfl (wanted_plain rfl _) (rn_mv rfl (he2.op rfl) w) ?_
  intro a3 he3
  clear he2 a2
  by_cases hb0 : okL l
  · skip
    have ho := hb0
    refine lC he3 rfl rfl Tryd.func10 (by kernel_rfl) rfl rfl (wanted_plain rfl _) rfl (Valid_c A c b l true (decide_eq_true ho) (by omega) w (hr.new hH.new)) ?_
    intro w4 a5 hn he5
    have hH4 := hH.call hn
    clear he3 a3 hH hn
    refine lV (Value.bool false) he5 rfl rfl (wanted_plain rfl _) (rn_not (b := true) rfl (he5.op rfl) w4) ?_
    intro a6 he6
    clear he5 a5
    refine wpList_nil ?_
    refine then_ok ?_
    refine wp_cond_false (he6.op rfl) ?_
    refine wp_skip ?_
    refine then_ok ?_
    refine wp_seq ?_
    refine wp_region_lit ?_
    refine lV (Value.slice A l.length c) he6 rfl rfl (wanted_plain rfl _) (rn_mv rfl (he6.op rfl) w4) ?_
    intro a7 he7
    clear he6 a6
    refine lV (Value.int .i64 ((l.length : Nat) : Int)) he7 rfl rfl (wanted_plain rfl _) (rn_lenJ rfl (he7.op rfl) w4) ?_
    intro a8 he8
    clear he7 a7
    refine lNewP (fun p => .slice (some ⟨p, 0, none⟩) l.length l.length) he8 hH4 rfl rfl (wanted_plain rfl _) (rn_mkT (n := l.length) rfl (he8.op rfl) (he8.op rfl) rfl rfl (by omega) w4) ?_
    intro p9 w9 a10 hp hn hH9 he10
    clear he8 a8 hH4 hn hp
    refine lV (Value.slice (some ⟨p9, 0, none⟩) l.length l.length) he10 rfl rfl (wanted_plain rfl _) (rn_asg rfl (he10.op rfl) w9) ?_
    intro a11 he11
    clear he10 a10
    refine wpList_nil ?_
    refine then_ok ?_
    refine wp_seq ?_
    refine wp_seq ?_
    refine wp_region_lit ?_
    refine lV (Value.slice A l.length c) he11 rfl rfl (wanted_plain rfl _) (rn_mv rfl (he11.op rfl) w9) ?_
    intro a12 he12
    clear he11 a11
    refine lV (Value.int .i64 ((l.length : Nat) : Int)) he12 rfl rfl (wanted_plain rfl _) (rn_lenJ rfl (he12.op rfl) w9) ?_
    intro a13 he13
    clear he12 a12
    refine lV (Value.int .i64 0) he13 rfl rfl (wanted_plain rfl _) (rn_mv rfl (he13.op rfl) w9) ?_
    intro a14 he14
    clear he13 a13
    refine wpList_nil ?_
    refine then_ok ?_
    refine wp_block ?_
    rw [← parts_0] at hH9
    refine loop_nat (fun q a w' => ∃ (i : Nat), q = l.length - i ∧ i ≤ l.length ∧ Env 30 [(15, Value.int .i64 (i : Int)), (14, Value.int .i64 ((l.length : Nat) : Int)), (13, Value.slice A l.length c), (4, Value.slice (some ⟨p9, 0, none⟩) l.length l.length)] a ∧ Hp w [⟨p9, 9, (svs (partsL l i)).toArray⟩] w') _ ⟨0, rfl, Nat.zero_le _, he14.mem ⟨rfl, rfl, rfl, rfl, trivial⟩, hH9⟩ ?_
    clear he14 hH9
    rintro q a15 w15 ⟨i, rfl, hi, he15, hH15⟩
    refine wp_seq ?_
    refine wp_region_lit ?_
    by_cases hb1 : (i : Int) < ((l.length : Nat) : Int)
    · skip
      refine lV (Value.bool true) he15 rfl rfl (wanted_plain rfl _) (rn_lsI rfl (he15.op rfl) (he15.op rfl) (decide_eq_true hb1) w15) ?_
      intro a16 he16
      clear he15 a15
      refine wpList_nil ?_
      refine then_ok ?_
      refine wp_seq ?_
      refine wp_cond_true (he16.op rfl) ?_
      refine wp_skip ?_
      refine then_ok ?_
      refine wp_seq ?_
      refine wp_block ?_
      refine wp_seq ?_
      refine wp_region_lit ?_
      refine lV (Value.int .i64 (i : Int)) he16 rfl rfl (wanted_plain rfl _) (rn_mv rfl (he16.op rfl) w15) ?_
      intro a17 he17
      clear he16 a16
      refine lV (Value.pointer (some ⟨b, offA A + i, none⟩)) he17 rfl rfl (wanted_plain rfl _) (rn_ixJ (k := i) (hr.new hH15.new) rfl (he17.op rfl) (he17.op rfl) rfl (by omega)) ?_
      intro a18 he18
      clear he17 a17
      refine lV (Value.int .i64 (l.getD i 0)) he18 rfl rfl (wanted_plain rfl _) (rn_ldJ (hr.new hH15.new) rfl (he18.op rfl) (by omega) (getD_at (by omega))) ?_
      intro a19 he19
      clear he18 a18
      refine lV (Value.int .i64 (i : Int)) he19 rfl rfl (wanted_plain rfl _) (rn_asg rfl (he19.op rfl) w15) ?_
      intro a20 he20
      clear he19 a19
      refine lV (Value.int .i64 (l.getD i 0)) he20 rfl rfl (wanted_plain rfl _) (rn_asg rfl (he20.op rfl) w15) ?_
      intro a21 he21
      clear he20 a20
      refine wpList_nil ?_
      refine then_ok ?_
      refine wp_seq ?_
      refine wp_region_lit ?_
      refine lV (Value.int .i64 (l.getD i 0)) he21 rfl rfl (wanted_plain rfl _) (rn_mv rfl (he21.op rfl) w15) ?_
      intro a22 he22
      clear he21 a21
      by_cases hb2 : (l.getD i 0) = (-1)
      · skip
        refine lV (Value.bool false) he22 rfl rfl (wanted_plain rfl _) (rn_neI rfl (he22.op rfl) (he22.op rfl) (bneT hb2) w15) ?_
        intro a23 he23
        clear he22 a22
        refine wpList_nil ?_
        refine then_ok ?_
        refine wp_cond_false (he23.op rfl) ?_
        refine wp_skip ?_
        refine block_ok ?_
        refine then_ok ?_
        refine wp_region_lit ?_
        refine lV (Value.int .i64 ((i + 1 : Nat) : Int)) he23 rfl rfl (wanted_plain rfl _) (rn_addI rfl (he23.op rfl) (he23.op rfl) (by rw [i64w (by omega) (by omega)]; omega) w15) ?_
        intro a24 he24
        clear he23 a23
        refine lV (Value.int .i64 ((i + 1 : Nat) : Int)) he24 rfl rfl (wanted_plain rfl _) (rn_mv rfl (he24.op rfl) w15) ?_
        intro a25 he25
        clear he24 a24
        refine wpList_nil ?_
        refine then_ok ?_
        exact ⟨l.length - (i + 1), by omega, i + 1, rfl, by omega, he25.mem ⟨rfl, rfl, rfl, rfl, trivial⟩, (by rw [parts_skip (by omega) (if_pos hb2)]; exact hH15)⟩
      · skip
        refine lV (Value.bool true) he22 rfl rfl (wanted_plain rfl _) (rn_neI rfl (he22.op rfl) (he22.op rfl) (bneF hb2) w15) ?_
        intro a23 he23
        clear he22 a22
        refine wpList_nil ?_
        refine then_ok ?_
        refine wp_cond_true (he23.op rfl) ?_
        have hk := ho.2.1 _ (getD_mem (l := l) (i := i) (d := 0) (by omega))
        have hpl := parts_len l hi
        refine wp_region_lit ?_
        refine lV (Value.slice (some ⟨p9, 0, none⟩) l.length l.length) he23 rfl rfl (wanted_plain rfl _) (rn_mv rfl (he23.op rfl) w15) ?_
        intro a24 he24
        clear he23 a23
        refine lV (Value.int .i64 (i : Int)) he24 rfl rfl (wanted_plain rfl _) (rn_mv rfl (he24.op rfl) w15) ?_
        intro a25 he25
        clear he24 a24
        refine lV (Value.int .i64 (l.getD i 0)) he25 rfl rfl (wanted_plain rfl _) (rn_mv rfl (he25.op rfl) w15) ?_
        intro a26 he26
        clear he25 a25
        refine lC he26 rfl rfl Tryd.func38 (by kernel_rfl) rfl rfl (wanted_plain rfl _) rfl (Itoa_c (l.getD i 0) (by omega) (by omega) w15 (hT.new hH15.new)) ?_
        intro w27 a28 hn he28
        have hH27 := hH15.call hn
        clear he26 a26 hH15 hn
        refine lV (Value.pointer (some ⟨p9, i, none⟩)) he28 rfl rfl (wanted_plain rfl _) (rn_ixDT (k := i) rfl (he28.op rfl) (he28.op rfl) rfl (by omega) w27) ?_
        intro a29 he29
        clear he28 a28
        refine lSetD 0 (cs := (svs (partsL l (i + 1))).toArray) he29 hH27 rfl (wanted_plain rfl _) rfl rfl rfl rfl rfl infoS1 rfl (svs_size (by omega)) (by rw [svs_set, ← part_yes (n := l.getD i 0) (by omega), parts_set (by omega)]) ?_
        intro w30 a31 hH30 hf he31
        replace hH30 : Hp w [⟨p9, 9, (svs (partsL l (i + 1))).toArray⟩] w30 := hH30
        clear hf
        clear he29 a29 hH27
        refine wpList_nil ?_
        refine block_ok ?_
        refine then_ok ?_
        refine wp_region_lit ?_
        refine lV (Value.int .i64 ((i + 1 : Nat) : Int)) he31 rfl rfl (wanted_plain rfl _) (rn_addI rfl (he31.op rfl) (he31.op rfl) (by rw [i64w (by omega) (by omega)]; omega) w30) ?_
        intro a32 he32
        clear he31 a31
        refine lV (Value.int .i64 ((i + 1 : Nat) : Int)) he32 rfl rfl (wanted_plain rfl _) (rn_mv rfl (he32.op rfl) w30) ?_
        intro a33 he33
        clear he32 a32
        refine wpList_nil ?_
        refine then_ok ?_
        exact ⟨l.length - (i + 1), by omega, i + 1, rfl, by omega, he33.mem ⟨rfl, rfl, rfl, rfl, trivial⟩, hH30⟩
    · skip
      refine lV (Value.bool false) he15 rfl rfl (wanted_plain rfl _) (rn_lsI rfl (he15.op rfl) (he15.op rfl) (decide_eq_false hb1) w15) ?_
      intro a16 he16
      clear he15 a15
      refine wpList_nil ?_
      refine then_ok ?_
      refine wp_seq ?_
      refine wp_cond_false (he16.op rfl) ?_
      refine wp_exit ?_
      refine then_exit ?_
      refine then_exit ?_
      refine block_exit ?_
      refine then_ok ?_
      refine wp_seq ?_
      rw [parts_end (by omega)] at hH15
      refine wp_region_lit ?_
      refine lV (Value.slice (some ⟨p9, 0, none⟩) l.length l.length) he16 rfl rfl (wanted_plain rfl _) (rn_mv rfl (he16.op rfl) w15) ?_
      intro a17 he17
      clear he16 a16
      refine lC he17 rfl rfl Tryd.func39 (by kernel_rfl) rfl rfl (wanted_plain rfl _) rfl (Join_l p9 l ho w15 (hH15.at (i := 0) rfl)) ?_
      intro w18 a19 hn he19
      have hH18 := hH15.call hn
      clear he17 a17 hH15 hn
      refine lV (Value.string (bs (textL l))) he19 rfl rfl (wanted_plain rfl _) (rn_asg rfl (he19.op rfl) w18) ?_
      intro a20 he20
      clear he19 a19
      refine lV (Value.int .i64 0) he20 rfl rfl (wanted_plain rfl _) (rn_asg rfl (he20.op rfl) w18) ?_
      intro a21 he21
      clear he20 a20
      refine wpList_nil ?_
      refine then_ok ?_
      refine wp_ret ?_
      try simp only [Exit.then, Exit.inBlock, Exit.noGoto]
      exact ret_tt rfl he21 rfl rfl ⟨by unfold textE at h; rw [if_pos ho] at h; obtain ⟨rfl, rfl⟩ := Prod.mk.inj h; rfl, hH18.new⟩
  · skip
    have ho := hb0
    refine lC he3 rfl rfl Tryd.func10 (by kernel_rfl) rfl rfl (wanted_plain rfl _) rfl (Valid_c A c b l false (decide_eq_false ho) (by omega) w (hr.new hH.new)) ?_
    intro w4 a5 hn he5
    have hH4 := hH.call hn
    clear he3 a3 hH hn
    refine lV (Value.bool true) he5 rfl rfl (wanted_plain rfl _) (rn_not (b := false) rfl (he5.op rfl) w4) ?_
    intro a6 he6
    clear he5 a5
    refine wpList_nil ?_
    refine then_ok ?_
    refine wp_cond_true (he6.op rfl) ?_
    refine wp_seq ?_
    refine wp_region_lit ?_
    refine lV (Value.string { data := #[] }) he6 rfl rfl (wanted_plain rfl _) (rn_asg rfl (he6.op rfl) w4) ?_
    intro a7 he7
    clear he6 a6
    refine lV (Value.int .i64 2) he7 rfl rfl (wanted_plain rfl _) (rn_asg rfl (he7.op rfl) w4) ?_
    intro a8 he8
    clear he7 a7
    refine wpList_nil ?_
    refine then_ok ?_
    refine wp_ret ?_
    try simp only [Exit.then, Exit.inBlock, Exit.noGoto]
    exact ret_tt rfl he8 rfl rfl ⟨by unfold textE at h; rw [if_neg ho] at h; obtain ⟨rfl, rfl⟩ := Prod.mk.inj h; rfl, hH4.new⟩
end Go.Proofs.YtpebpjkhkgakfaaDoor
