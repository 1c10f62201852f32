/-
  The statement's walk: many parameters, and long numbers.
-/
import Derived.Test.YtpebpjkhkgakfaaDoorPLaw
namespace Go.Proofs.YtpebpjkhkgakfaaDoor
open Go.RowKit

theorem Repeat_v (s : List UInt8) (k : Nat) (r : List UInt8) (hr : Lib.repeatL s k = r) (hl : s.length * k ≤ 1000000) (hk : k ≤ 1000000) (w : World) : Calls Tryd.prog 26 #[.string (bs s), .int .i64 (k : Int)] w fun e w' => e = .returned (.string (bs r)) ∧ New w w' := hr ▸ Repeat_c s k hl hk w
set_option linter.unusedSimpArgs false in
set_option maxRecDepth 100000 in
set_option maxHeartbeats 1600000 in
theorem ParamsLongs_w (m d : Nat) (g : Int) (hm : m ≤ 255) (hd : d ≤ 255) (hg : 0 ≤ g ∧ g ≤ 255) (w : World) (hT : Tab w) : Calls Tryd.prog 6 #[.int .u8 (m : Int), .int .u8 (d : Int), .int .u8 g] w fun e w' => e = .returned (.bool true) ∧ New w w' := by
  obtain ⟨k, hk, hk9⟩ : ∃ k : Nat, g % 10 = (k : Int) ∧ k < 10 := ⟨(g % 10).toNat, by omega, by omega⟩
  refine calls_args (vl := [Value.int .u8 (m : Int), Value.int .u8 (d : Int), Value.int .u8 g]) 59 Tryd.func6 rfl Tryd.ntmps6 (by kernel_rfl) (fun a he => ?_)
  have he0 : Env 59 [(0, Value.int .u8 (m : Int)), (1, Value.int .u8 (d : Int)), (2, Value.int .u8 g)] a := he
  clear he
  have hH := Hp.start w
  refine wp_seq ?_
  refine wp_region_lit ?_
  refine lV (Value.bool false) he0 rfl rfl (wanted_plain rfl _) (rn_asg rfl (he0.op rfl) w) ?_
  intro a1 he1
  clear he0 a
  refine wpList_nil ?_
  refine then_ok ?_
  refine wp_seq ?_
  refine wp_seq ?_
  refine wp_region_lit ?_
  refine lV (Value.int .u8 (m : Int)) he1 rfl rfl (wanted_plain rfl _) (rn_mv rfl (he1.op rfl) w) ?_
  intro a2 he2
  clear he1 a1
  by_cases hb0 : 200 < (m : Int)
  · skip
    refine lV (Value.bool true) he2 rfl rfl (wanted_plain rfl _) (rn_gtU rfl (he2.op rfl) (he2.op rfl) (decide_eq_true hb0) w) ?_
    intro a3 he3
    clear he2 a2
    refine lV (Value.bool true) he3 rfl rfl (wanted_plain rfl _) (rn_mv rfl (he3.op rfl) w) ?_
    intro a4 he4
    clear he3 a3
    refine lSkip he4 rfl rfl (he4.wantNot rfl rfl rfl rfl rfl rfl) ?_
    intro a5 he5
    clear he4 a4
    refine lSkip he5 rfl rfl (he5.wantNot rfl rfl rfl rfl rfl rfl) ?_
    intro a6 he6
    clear he5 a5
    refine lV (Value.bool true) he6 rfl rfl (wanted_plain rfl _) (rn_pk rfl (he6.op rfl) (he6.op rfl) w) ?_
    intro a7 he7
    clear he6 a6
    refine wpList_nil ?_
    refine then_ok ?_
    refine wp_cond_true (he7.op rfl) ?_
    refine wp_seq ?_
    refine wp_region_lit ?_
    refine lC he7 rfl rfl Tryd.func9 (by kernel_rfl) rfl rfl (wanted_plain rfl _) rfl (known_c w (hT.new hH.new)) ?_
    intro w8 a9 hn he9
    have hH8 := hH.call hn
    clear he7 a7 hH hn
    refine lV (Value.bool true) he9 rfl rfl (wanted_plain rfl _) (rn_asg rfl (he9.op rfl) w8) ?_
    intro a10 he10
    clear he9 a9
    refine wpList_nil ?_
    refine then_ok ?_
    refine wp_ret ?_
    try simp only [Exit.then, Exit.inBlock, Exit.noGoto]
    exact ret_env rfl he10 rfl ⟨by first | rfl | (exfalso; omega), hH8.new⟩
  · skip
    refine lV (Value.bool false) he2 rfl rfl (wanted_plain rfl _) (rn_gtU rfl (he2.op rfl) (he2.op rfl) (decide_eq_false hb0) w) ?_
    intro a3 he3
    clear he2 a2
    refine lV (Value.bool false) he3 rfl rfl (wanted_plain rfl _) (rn_mv rfl (he3.op rfl) w) ?_
    intro a4 he4
    clear he3 a3
    refine lV (Value.int .u8 (d : Int)) he4 rfl rfl (he4.want rfl rfl rfl rfl rfl) (rn_mv rfl (he4.op rfl) w) ?_
    intro a5 he5
    clear he4 a4
    by_cases hb1 : 30 < (d : Int)
    · skip
      refine lV (Value.bool true) he5 rfl rfl (he5.want rfl rfl rfl rfl rfl) (rn_gtU rfl (he5.op rfl) (he5.op rfl) (decide_eq_true hb1) w) ?_
      intro a6 he6
      clear he5 a5
      refine lV (Value.bool true) he6 rfl rfl (wanted_plain rfl _) (rn_pk0 rfl (he6.op rfl) (he6.op rfl) w) ?_
      intro a7 he7
      clear he6 a6
      refine wpList_nil ?_
      refine then_ok ?_
      refine wp_cond_true (he7.op rfl) ?_
      refine wp_seq ?_
      refine wp_region_lit ?_
      refine lC he7 rfl rfl Tryd.func9 (by kernel_rfl) rfl rfl (wanted_plain rfl _) rfl (known_c w (hT.new hH.new)) ?_
      intro w8 a9 hn he9
      have hH8 := hH.call hn
      clear he7 a7 hH hn
      refine lV (Value.bool true) he9 rfl rfl (wanted_plain rfl _) (rn_asg rfl (he9.op rfl) w8) ?_
      intro a10 he10
      clear he9 a9
      refine wpList_nil ?_
      refine then_ok ?_
      refine wp_ret ?_
      try simp only [Exit.then, Exit.inBlock, Exit.noGoto]
      exact ret_env rfl he10 rfl ⟨by first | rfl | (exfalso; omega), hH8.new⟩
    · skip
      refine lV (Value.bool false) he5 rfl rfl (he5.want rfl rfl rfl rfl rfl) (rn_gtU rfl (he5.op rfl) (he5.op rfl) (decide_eq_false hb1) w) ?_
      intro a6 he6
      clear he5 a5
      refine lV (Value.bool false) he6 rfl rfl (wanted_plain rfl _) (rn_pk0 rfl (he6.op rfl) (he6.op rfl) w) ?_
      intro a7 he7
      clear he6 a6
      refine wpList_nil ?_
      refine then_ok ?_
      refine wp_cond_false (he7.op rfl) ?_
      refine wp_skip ?_
      refine then_ok ?_
      refine wp_seq ?_
      have hm2 : m ≤ 200 := by omega
      have hd2 : d ≤ 30 := by omega
      have hdn : (UInt8.ofNat (48 + k)).toNat = 48 + k := digit_nat hk9
      obtain ⟨part, hpart⟩ : ∃ q, Lib.repeatL [(UInt8.ofNat (48 + k))] d = q := ⟨_, rfl⟩
      have hpl : part.length ≤ 30 := by rw [← hpart, Lib.repeatL_length, List.length_singleton]; omega
      have hpf : ∀ c ∈ part, fine c := fun c hc => by rw [← hpart] at hc; have := rep_mem hc; simp only [List.mem_singleton] at this; subst this; omega
      obtain ⟨many, hmany⟩ : ∃ q, Lib.repeatL (part ++ [59]) m = q := ⟨_, rfl⟩
      have hml : many.length ≤ 6200 := by rw [← hmany, Lib.repeatL_length, List.length_append, List.length_singleton]; exact Nat.le_trans (Nat.mul_le_mul hm2 (Nat.add_le_add_right hpl 1)) (by decide)
      have hmf : ∀ c ∈ many, fine c := fun c hc => by rw [← hmany] at hc; exact fine_snoc hpf (.inl rfl) c (rep_mem hc)
      obtain ⟨s, hs⟩ : ∃ q, many ++ part = q := ⟨_, rfl⟩
      have hsl : s.length ≤ 6230 := by rw [← hs, List.length_append]; omega
      have hfs : ∀ c ∈ s, fine c := fun c hc => by rw [← hs] at hc; exact (List.mem_append.1 hc).elim (hmf c) (hpf c)
      have hLs := lst_len s
      refine wp_region_lit ?_
      refine lV (Value.int .u8 g) he7 rfl rfl (wanted_plain rfl _) (rn_mv rfl (he7.op rfl) w) ?_
      intro a8 he8
      clear he7 a7
      refine lV (Value.int .u8 (k : Int)) he8 rfl rfl (wanted_plain rfl _) (rn_remNU rfl (he8.op rfl) (he8.op rfl) (by omega) (by omega) hk w) ?_
      intro a9 he9
      clear he8 a8
      refine lV (Value.int .u8 ((UInt8.ofNat (48 + k)).toNat : Int)) he9 rfl rfl (wanted_plain rfl _) (rn_addU rfl (he9.op rfl) (he9.op rfl) (by rw [u8w (by omega) (by omega)]; omega) w) ?_
      intro a10 he10
      clear he9 a9
      refine lV (Value.int .i32 ((UInt8.ofNat (48 + k)).toNat : Int)) he10 rfl rfl (wanted_plain rfl _) (rn_cvUR rfl (he10.op rfl) (i32w (by omega) (by omega)) w) ?_
      intro a11 he11
      clear he10 a10
      refine lV (Value.string (bs [(UInt8.ofNat (48 + k))])) he11 rfl rfl (wanted_plain rfl _) (rn_cvRS (c := (UInt8.ofNat (48 + k))) rfl (he11.op rfl) rfl (by omega) w) ?_
      intro a12 he12
      clear he11 a11
      refine lV (Value.int .u8 (d : Int)) he12 rfl rfl (wanted_plain rfl _) (rn_mv rfl (he12.op rfl) w) ?_
      intro a13 he13
      clear he12 a12
      refine lV (Value.int .i64 (d : Int)) he13 rfl rfl (wanted_plain rfl _) (rn_cvUI rfl (he13.op rfl) (i64w (by omega) (by omega)) w) ?_
      intro a14 he14
      clear he13 a13
      refine lC he14 rfl rfl Tryd.func26 (by kernel_rfl) rfl rfl (wanted_plain rfl _) rfl (Repeat_v [(UInt8.ofNat (48 + k))] d part hpart (by simp only [List.length_singleton]; omega) (by omega) w) ?_
      intro w15 a16 hn he16
      have hH15 := hH.call hn
      clear he14 a14 hH hn
      refine lV (Value.string (bs part)) he16 rfl rfl (wanted_plain rfl _) (rn_asg rfl (he16.op rfl) w15) ?_
      intro a17 he17
      clear he16 a16
      refine wpList_nil ?_
      refine then_ok ?_
      refine wp_seq ?_
      refine wp_region_lit ?_
      refine lV (Value.string (bs part)) he17 rfl rfl (wanted_plain rfl _) (rn_mv rfl (he17.op rfl) w15) ?_
      intro a18 he18
      clear he17 a17
      refine lV (Value.string (bs (part ++ ([59] : List UInt8)))) he18 rfl rfl (wanted_plain rfl _) (rn_addS (a := part) (c := ([59] : List UInt8)) rfl (he18.op rfl) (he18.op rfl) (by first | decide | omega | (simp only [List.length_append, List.length_cons, List.length_nil]; omega)) rfl w15) ?_
      intro a19 he19
      clear he18 a18
      refine lV (Value.int .u8 (m : Int)) he19 rfl rfl (wanted_plain rfl _) (rn_mv rfl (he19.op rfl) w15) ?_
      intro a20 he20
      clear he19 a19
      refine lV (Value.int .i64 (m : Int)) he20 rfl rfl (wanted_plain rfl _) (rn_cvUI rfl (he20.op rfl) (i64w (by omega) (by omega)) w15) ?_
      intro a21 he21
      clear he20 a20
      refine lC he21 rfl rfl Tryd.func26 (by kernel_rfl) rfl rfl (wanted_plain rfl _) rfl (Repeat_v (part ++ [59]) m many hmany (by simp only [List.length_append, List.length_singleton]; exact Nat.le_trans (Nat.mul_le_mul (Nat.add_le_add_right hpl 1) hm2) (by decide)) (by omega) w15) ?_
      intro w22 a23 hn he23
      have hH22 := hH15.call hn
      clear he21 a21 hH15 hn
      refine lV (Value.string (bs part)) he23 rfl rfl (wanted_plain rfl _) (rn_mv rfl (he23.op rfl) w22) ?_
      intro a24 he24
      clear he23 a23
      refine lV (Value.string (bs s)) he24 rfl rfl (wanted_plain rfl _) (rn_addS (a := many) (c := part) rfl (he24.op rfl) (he24.op rfl) (by omega) hs w22) ?_
      intro a25 he25
      clear he24 a24
      refine lV (Value.string (bs s)) he25 rfl rfl (wanted_plain rfl _) (rn_asg rfl (he25.op rfl) w22) ?_
      intro a26 he26
      clear he25 a25
      refine wpList_nil ?_
      refine then_ok ?_
      refine wp_seq ?_
      refine wp_region_lit ?_
      refine lV (Value.string (bs s)) he26 rfl rfl (wanted_plain rfl _) (rn_mv rfl (he26.op rfl) w22) ?_
      intro a27 he27
      clear he26 a26
      refine lCx he27 rfl rfl Tryd.func18 (by kernel_rfl) rfl rfl (wanted_plain rfl _) rfl (RParse_yes s hfs (by omega) w22) ?_
      rintro _ w29 ⟨A28, c28, b28, rfl, hr28, hn⟩
      refine ⟨_, rfl, ?_⟩
      intro a30 he30
      have hH29 := hH22.call hn
      clear he27 a27 hH22
      clear hn
      refine lV (Value.tuple #[Value.slice A28 (lst s).length c28, Value.bool true]) he30 rfl rfl (wanted_plain rfl _) (rn_mv rfl (he30.op rfl) w29) ?_
      intro a31 he31
      clear he30 a30
      refine lV (Value.slice A28 (lst s).length c28) he31 rfl rfl (wanted_plain rfl _) (rn_ext rfl (he31.op rfl) rfl w29) ?_
      intro a32 he32
      clear he31 a31
      refine lV (Value.bool true) he32 rfl rfl (wanted_plain rfl _) (rn_ext rfl (he32.op rfl) rfl w29) ?_
      intro a33 he33
      clear he32 a32
      refine lV (Value.slice A28 (lst s).length c28) he33 rfl rfl (wanted_plain rfl _) (rn_asg rfl (he33.op rfl) w29) ?_
      intro a34 he34
      clear he33 a33
      refine lV (Value.bool true) he34 rfl rfl (wanted_plain rfl _) (rn_asg rfl (he34.op rfl) w29) ?_
      intro a35 he35
      clear he34 a34
      refine wpList_nil ?_
      refine then_ok ?_
      refine wp_seq ?_
      have hT36 := hT.new hH29.new
      have hR36 := hH29.new
      have hH36 := Hp.start w29
      clear hH29 hT 
      refine wp_region_lit ?_
      refine lNewP (fun p => .pointer (some ⟨p, 0, none⟩)) he35 hH36 rfl rfl (wanted_plain rfl _) (rn_allocN rfl w29) ?_
      intro p37 w37 a38 hp hn hH37 he38
      clear he35 a35 hH36 hn hp
      refine wpList_nil ?_
      refine then_ok ?_
      refine wp_seq ?_
      refine wp_seq ?_
      refine wp_region_lit ?_
      refine lV (Value.string (bs s)) he38 rfl rfl (wanted_plain rfl _) (rn_mv rfl (he38.op rfl) w37) ?_
      intro a39 he39
      clear he38 a38
      refine lEx he39 rfl rfl (wanted_plain rfl _) (rx_range (l := s) rfl (he39.op rfl)) ?_
      rintro _ w40 ⟨q40, rfl, hq40, hit40, hn⟩
      have hH40 := hH37.call hn
      replace hq40 := Nat.le_trans hH37.new.size hq40
      intro a41 he41
      clear he39 a39 hH37 hn
      refine wpList_nil ?_
      refine then_ok ?_
      refine wp_block ?_
      refine loop_nat (fun q a w' => ∃ (i : Nat), q = s.length - i ∧ i ≤ s.length ∧ (∀ c ∈ s.take i, fine c) ∧ Env 59 [(42, Value.pointer (some ⟨q40, 0, none⟩)), (11, Value.pointer (some ⟨p37, 0, none⟩)), (8, Value.string (bs s)), (9, Value.slice A28 (lst s).length c28)] a ∧ Hp w29 [⟨p37, 39, (cbF (say (s.take i)))⟩] w' ∧ It w' q40 s i) _ ⟨0, rfl, Nat.zero_le _, (fun n hn => by simp at hn), he41.mem ⟨rfl, rfl, rfl, rfl, trivial⟩, hH40, hit40⟩ ?_
      clear he41 hH40
      rintro q a42 w42 ⟨i, rfl, hi, hfi, he42, hH42, hit40⟩
      refine wp_seq ?_
      refine wp_region_lit ?_
      by_cases hb2 : i < s.length
      · skip
        refine lEx he42 rfl rfl (wanted_plain rfl _) (rx_next1 hit40 rfl (he42.op rfl) (getD_at (d := 0) hb2) (hfs _ (getD_mem hb2))) ?_
        rintro _ w43 ⟨rfl, hi_, hf_⟩
        have hH43 := hH42.iter hit40 hq40 hf_
        replace hit40 := hi_
        intro a44 he44
        clear he42 a42 hH42 hf_ hi_
        refine lV (Value.bool true) he44 rfl rfl (wanted_plain rfl _) (rn_ext rfl (he44.op rfl) rfl w43) ?_
        intro a45 he45
        clear he44 a44
        refine wpList_nil ?_
        refine then_ok ?_
        refine wp_seq ?_
        refine wp_cond_true (he45.op rfl) ?_
        refine wp_skip ?_
        refine then_ok ?_
        refine wp_block ?_
        refine wp_seq ?_
        refine wp_region_lit ?_
        refine lV (Value.int .i32 ((s.getD i 0).toNat : Int)) he45 rfl rfl (wanted_plain rfl _) (rn_ext rfl (he45.op rfl) rfl w43) ?_
        intro a46 he46
        clear he45 a45
        refine lV (Value.int .i32 ((s.getD i 0).toNat : Int)) he46 rfl rfl (wanted_plain rfl _) (rn_asg rfl (he46.op rfl) w43) ?_
        intro a47 he47
        clear he46 a46
        refine wpList_nil ?_
        refine then_ok ?_
        refine wp_seq ?_
        refine wp_region_lit ?_
        refine lV (Value.int .i32 ((s.getD i 0).toNat : Int)) he47 rfl rfl (wanted_plain rfl _) (rn_mv rfl (he47.op rfl) w43) ?_
        intro a48 he48
        clear he47 a47
        refine lCx he48 rfl rfl Tryd.func20 (by kernel_rfl) rfl rfl (wanted_plain rfl _) rfl (Add_k p37 (s.take i) (s.getD i 0) ((s.getD i 0).toNat : Int) rfl (hfs _ (getD_mem hb2)) hfi w43 (hH43.at (i := 0) rfl)) ?_
        rintro _ w49 ⟨rfl, hf, hB_⟩
        replace hit40 := hit40.turn (hH43.at (i := 0) rfl) hf
        have hH49 : Hp w29 [⟨p37, 39, (cbF (say ((s.take i) ++ [(s.getD i 0)])))⟩] w49 := hH43.turn 0 rfl hf hB_ rfl
        refine ⟨_, rfl, ?_⟩
        intro a50 he50
        clear he48 a48 hH43 hf hB_
        refine lV (Value.bool false) he50 rfl rfl (wanted_plain rfl _) (rn_not (b := true) rfl (he50.op rfl) w49) ?_
        intro a51 he51
        clear he50 a50
        refine wpList_nil ?_
        refine then_ok ?_
        refine wp_cond_false (he51.op rfl) ?_
        refine wp_skip ?_
        refine block_ok ?_
        refine then_ok ?_
        exact ⟨s.length - (i + 1), by omega, i + 1, rfl, by omega, fine_take hfi (getD_at (d := 0) hb2) (hfs _ (getD_mem hb2)), he51.mem ⟨rfl, rfl, rfl, rfl, trivial⟩, (by rw [take_snoc (getD_at (d := 0) hb2)]; exact hH49), hit40⟩
      · skip
        refine lV (Value.tuple #[Value.bool false]) he42 rfl rfl (wanted_plain rfl _) (rn_next0 hit40 rfl (he42.op rfl) hb2) ?_
        intro a43 he43
        clear he42 a42
        refine lV (Value.bool false) he43 rfl rfl (wanted_plain rfl _) (rn_ext rfl (he43.op rfl) rfl w42) ?_
        intro a44 he44
        clear he43 a43
        refine wpList_nil ?_
        refine then_ok ?_
        refine wp_seq ?_
        refine wp_cond_false (he44.op rfl) ?_
        refine wp_exit ?_
        refine then_exit ?_
        refine then_exit ?_
        refine block_exit ?_
        refine then_ok ?_
        refine wp_seq ?_
        have ht : s.take i = s := List.take_of_length_le (by omega)
        rw [ht] at hfi hH42
        refine wp_region_lit ?_
        refine lV (Value.string (bs s)) he44 rfl rfl (wanted_plain rfl _) (rn_mv rfl (he44.op rfl) w42) ?_
        intro a45 he45
        clear he44 a44
        refine lV (Value.slice A28 (lst s).length c28) he45 rfl rfl (wanted_plain rfl _) (rn_mv rfl (he45.op rfl) w42) ?_
        intro a46 he46
        clear he45 a45
        refine lC he46 rfl rfl Tryd.func17 (by kernel_rfl) rfl rfl (wanted_plain rfl _) rfl (parses_c s 0 A28 c28 b28 (lst s) true (decide_eq_true (prs_yes hfs)) (by omega) (by omega) w42 (hr28.new hH42.new)) ?_
        intro w47 a48 hn he48
        have hH47 := hH42.call hn
        replace hit40 := hit40.new hn
        clear he46 a46 hH42 hn
        refine lV (Value.bool true) he48 rfl rfl (wanted_plain rfl _) (rn_mv rfl (he48.op rfl) w47) ?_
        intro a49 he49
        clear he48 a48
        refine lV (Value.slice A28 (lst s).length c28) he49 rfl rfl (he49.want rfl rfl rfl rfl rfl) (rn_mv rfl (he49.op rfl) w47) ?_
        intro a50 he50
        clear he49 a49
        refine lC he50 rfl rfl Tryd.func25 (by kernel_rfl) rfl rfl (he50.want rfl rfl rfl rfl rfl) rfl (has_c p37 (say s) A28 c28 b28 (lst s) true (decide_eq_true rfl) (by omega) w47 (hH47.at (i := 0) rfl) (hr28.new hH47.new)) ?_
        intro w51 a52 hn he52
        have hH51 := hH47.call hn
        replace hit40 := hit40.new hn
        clear he50 a50 hH47 hn
        refine lV (Value.bool true) he52 rfl rfl (wanted_plain rfl _) (rn_pk rfl (he52.op rfl) (he52.op rfl) w51) ?_
        intro a53 he53
        clear he52 a52
        refine lV (Value.bool true) he53 rfl rfl (wanted_plain rfl _) (rn_mv rfl (he53.op rfl) w51) ?_
        intro a54 he54
        clear he53 a53
        refine lC he54 rfl rfl Tryd.func9 (by kernel_rfl) rfl rfl (he54.want rfl rfl rfl rfl rfl) rfl (known_c w51 (hT36.new hH51.new)) ?_
        intro w55 a56 hn he56
        have hH55 := hH51.call hn
        replace hit40 := hit40.new hn
        clear he54 a54 hH51 hn
        refine lV (Value.bool true) he56 rfl rfl (wanted_plain rfl _) (rn_pk rfl (he56.op rfl) (he56.op rfl) w55) ?_
        intro a57 he57
        clear he56 a56
        refine lV (Value.bool true) he57 rfl rfl (wanted_plain rfl _) (rn_asg rfl (he57.op rfl) w55) ?_
        intro a58 he58
        clear he57 a57
        refine wpList_nil ?_
        refine then_ok ?_
        refine wp_ret ?_
        try simp only [Exit.then, Exit.inBlock, Exit.noGoto]
        exact ret_env rfl he58 rfl ⟨by first | rfl | (exfalso; omega), (New.trans hR36 hH55.new)⟩
end Go.Proofs.YtpebpjkhkgakfaaDoor
