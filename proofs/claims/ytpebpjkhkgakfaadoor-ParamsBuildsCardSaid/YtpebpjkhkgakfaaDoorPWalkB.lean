/-
  The statement's walk: a builder to which runes are added, one by one, and a copy that goes on in its place.
-/
import Derived.Test.YtpebpjkhkgakfaaDoorPLaw
namespace Go.Proofs.YtpebpjkhkgakfaaDoor
open Go.RowKit

theorem fineI_c {r : Int} (h : fineI r) : ∃ c : UInt8, r = (c.toNat : Int) ∧ fine c := by
  have h1 : (UInt8.ofNat r.toNat).toNat = r.toNat := UInt8.toNat_ofNat_of_lt' (by show r.toNat < 256; omega)
  exact ⟨UInt8.ofNat r.toNat, by omega, by omega⟩
theorem ivs_size {xs : List Int} {i : Nat} (h : i < xs.length) : i < (ivs xs).toArray.size := by simpa [ivs] using h
set_option linter.unusedSimpArgs false in
set_option maxRecDepth 100000 in
set_option maxHeartbeats 1600000 in
theorem ParamsBuilds_w (A : Option Addr) (c b : Nat) (l : List Int) (at_ : Int) (w : World) (hr : Rd w b A l.length (rvs l)) (hT : Tab w) : Calls Tryd.prog 5 #[.slice A l.length c, .int .i64 at_] w fun e w' => e = .returned (.bool true) ∧ New w w' := by
  refine calls_args (vl := [Value.slice A l.length c, Value.int .i64 at_]) 92 Tryd.func5 rfl Tryd.ntmps5 (by kernel_rfl) (fun a he => ?_)
  have he0 : Env 92 [(0, Value.slice A l.length c), (1, Value.int .i64 at_)] a := he
  clear he
  have hH := Hp.start w
  refine wp_seq ?_
  refine wp_region_lit ?_
  refine lV (Value.bool false) he0 rfl rfl (wanted_plain rfl _) (rn_asg rfl (he0.op rfl) w) ?_
  intro a1 he1
  clear he0 a
  refine wpList_nil ?_
  refine then_ok ?_
  refine wp_seq ?_
  refine wp_seq ?_
  refine wp_region_lit ?_
  refine lV (Value.slice A l.length c) he1 rfl rfl (wanted_plain rfl _) (rn_mv rfl (he1.op rfl) w) ?_
  intro a2 he2
  clear he1 a1
  refine lV (Value.int .i64 ((l.length : Nat) : Int)) he2 rfl rfl (wanted_plain rfl _) (rn_lenQ rfl (he2.op rfl) w) ?_
  intro a3 he3
  clear he2 a2
  by_cases hb0 : 100 < ((l.length : Nat) : Int)
  · skip
    refine lV (Value.bool true) he3 rfl rfl (wanted_plain rfl _) (rn_gtI rfl (he3.op rfl) (he3.op rfl) (decide_eq_true hb0) w) ?_
    intro a4 he4
    clear he3 a3
    refine wpList_nil ?_
    refine then_ok ?_
    refine wp_cond_true (he4.op rfl) ?_
    refine wp_seq ?_
    refine wp_region_lit ?_
    refine lC he4 rfl rfl Tryd.func9 (by kernel_rfl) rfl rfl (wanted_plain rfl _) rfl (known_c w (hT.new hH.new)) ?_
    intro w5 a6 hn he6
    have hH5 := hH.call hn
    clear he4 a4 hH hn
    refine lV (Value.bool true) he6 rfl rfl (wanted_plain rfl _) (rn_asg rfl (he6.op rfl) w5) ?_
    intro a7 he7
    clear he6 a6
    refine wpList_nil ?_
    refine then_ok ?_
    refine wp_ret ?_
    try simp only [Exit.then, Exit.inBlock, Exit.noGoto]
    exact ret_env rfl he7 rfl ⟨by first | rfl | (exfalso; omega), hH5.new⟩
  · skip
    refine lV (Value.bool false) he3 rfl rfl (wanted_plain rfl _) (rn_gtI rfl (he3.op rfl) (he3.op rfl) (decide_eq_false hb0) w) ?_
    intro a4 he4
    clear he3 a3
    refine wpList_nil ?_
    refine then_ok ?_
    refine wp_cond_false (he4.op rfl) ?_
    refine wp_skip ?_
    refine then_ok ?_
    refine wp_seq ?_
    refine wp_region_lit ?_
    refine lV (Value.agg (cbF (say []))) he4 rfl rfl (wanted_plain rfl _) (rn_bN rfl w) ?_
    intro a5 he5
    clear he4 a4
    refine lNewP (fun p => .pointer (some ⟨p, 0, none⟩)) he5 hH rfl rfl (wanted_plain rfl _) (rn_boxN rfl (he5.op rfl) w) ?_
    intro p6 w6 a7 hp hn hH6 he7
    clear he5 a5 hH hn hp
    refine lV (Value.pointer (some ⟨p6, 0, none⟩)) he7 rfl rfl (wanted_plain rfl _) (rn_asg rfl (he7.op rfl) w6) ?_
    intro a8 he8
    clear he7 a7
    refine wpList_nil ?_
    refine then_ok ?_
    refine wp_seq ?_
    refine wp_region_lit ?_
    refine lV (Value.string { data := #[] }) he8 rfl rfl (wanted_plain rfl _) (rn_asg rfl (he8.op rfl) w6) ?_
    intro a9 he9
    clear he8 a8
    refine wpList_nil ?_
    refine then_ok ?_
    refine wp_seq ?_
    refine wp_seq ?_
    refine wp_region_lit ?_
    refine lV (Value.slice A l.length c) he9 rfl rfl (wanted_plain rfl _) (rn_mv rfl (he9.op rfl) w6) ?_
    intro a10 he10
    clear he9 a9
    refine lV (Value.int .i64 ((l.length : Nat) : Int)) he10 rfl rfl (wanted_plain rfl _) (rn_lenQ rfl (he10.op rfl) w6) ?_
    intro a11 he11
    clear he10 a10
    refine lV (Value.int .i64 0) he11 rfl rfl (wanted_plain rfl _) (rn_mv rfl (he11.op rfl) w6) ?_
    intro a12 he12
    clear he11 a11
    refine wpList_nil ?_
    refine then_ok ?_
    refine wp_block ?_
    refine loop_nat (fun q a w' => ∃ (i p : Nat) (s : List UInt8), q = l.length - i ∧ i ≤ l.length ∧ (∀ c ∈ s, fine c) ∧ s.length ≤ i ∧ Env 92 [(24, Value.int .i64 (i : Int)), (23, Value.int .i64 ((l.length : Nat) : Int)), (22, Value.slice A l.length c), (6, Value.string (bs s)), (5, Value.pointer (some ⟨p, 0, none⟩)), (1, Value.int .i64 at_), (0, Value.slice A l.length c)] a ∧ Hp w [⟨p, 39, (cbF (say s))⟩] w') _ ⟨0, p6, [], rfl, Nat.zero_le _, (fun c hc => by cases hc), Nat.le_refl _, he12.mem ⟨rfl, rfl, rfl, rfl, rfl, rfl, rfl, trivial⟩, hH6⟩ ?_
    clear he12 hH6
    rintro q a13 w13 ⟨i, p, s, rfl, hi, hfs, hsl, he13, hH13⟩
    refine wp_seq ?_
    refine wp_region_lit ?_
    by_cases hb1 : (i : Int) < ((l.length : Nat) : Int)
    · skip
      refine lV (Value.bool true) he13 rfl rfl (wanted_plain rfl _) (rn_lsI rfl (he13.op rfl) (he13.op rfl) (decide_eq_true hb1) w13) ?_
      intro a14 he14
      clear he13 a13
      refine wpList_nil ?_
      refine then_ok ?_
      refine wp_seq ?_
      refine wp_cond_true (he14.op rfl) ?_
      refine wp_skip ?_
      refine then_ok ?_
      refine wp_seq ?_
      refine wp_block ?_
      refine wp_seq ?_
      refine wp_region_lit ?_
      refine lV (Value.int .i64 (i : Int)) he14 rfl rfl (wanted_plain rfl _) (rn_mv rfl (he14.op rfl) w13) ?_
      intro a15 he15
      clear he14 a14
      refine lV (Value.pointer (some ⟨b, offA A + i, none⟩)) he15 rfl rfl (wanted_plain rfl _) (rn_ixQ (k := i) (hr.new hH13.new) rfl (he15.op rfl) (he15.op rfl) rfl (by omega)) ?_
      intro a16 he16
      clear he15 a15
      refine lV (Value.int .i32 (l.getD i 0)) he16 rfl rfl (wanted_plain rfl _) (rn_ldQ (hr.new hH13.new) rfl (he16.op rfl) (by omega) (getD_at (by omega))) ?_
      intro a17 he17
      clear he16 a16
      refine lV (Value.int .i64 (i : Int)) he17 rfl rfl (wanted_plain rfl _) (rn_asg rfl (he17.op rfl) w13) ?_
      intro a18 he18
      clear he17 a17
      refine lV (Value.int .i32 (l.getD i 0)) he18 rfl rfl (wanted_plain rfl _) (rn_asg rfl (he18.op rfl) w13) ?_
      intro a19 he19
      clear he18 a18
      refine wpList_nil ?_
      refine then_ok ?_
      refine wp_seq ?_
      refine wp_seq ?_
      refine wp_region_lit ?_
      refine lV (Value.int .i64 (i : Int)) he19 rfl rfl (wanted_plain rfl _) (rn_mv rfl (he19.op rfl) w13) ?_
      intro a20 he20
      clear he19 a19
      refine lV (Value.int .i64 at_) he20 rfl rfl (wanted_plain rfl _) (rn_mv rfl (he20.op rfl) w13) ?_
      intro a21 he21
      clear he20 a20
      by_cases hb2 : (i : Int) = at_
      · skip
        refine lV (Value.bool true) he21 rfl rfl (wanted_plain rfl _) (rn_eqI rfl (he21.op rfl) (he21.op rfl) (beqT hb2) w13) ?_
        intro a22 he22
        clear he21 a21
        refine wpList_nil ?_
        refine then_ok ?_
        refine wp_cond_true (he22.op rfl) ?_
        refine wp_seq ?_
        refine wp_region_lit ?_
        refine lV (Value.pointer (some ⟨p, 0, none⟩)) he22 rfl rfl (wanted_plain rfl _) (rn_mv rfl (he22.op rfl) w13) ?_
        intro a23 he23
        clear he22 a22
        refine lCx he23 rfl rfl Tryd.func19 (by kernel_rfl) rfl rfl (wanted_plain rfl _) rfl (Copy_c p (say s) w13 (hH13.at (i := 0) rfl)) ?_
        rintro _ w24 ⟨q24, rfl, hq_, hB_, hn⟩
        have hH24 : Hp w [⟨q24, 39, (cbF (say s))⟩, ⟨p, 39, (cbF (say s))⟩] w24 := hH13.cons hn hq_ hB_
        refine ⟨_, rfl, ?_⟩
        intro a25 he25
        clear he23 a23 hH13 hn hq_ hB_
        refine lV (Value.pointer (some ⟨q24, 0, none⟩)) he25 rfl rfl (wanted_plain rfl _) (rn_asg rfl (he25.op rfl) w24) ?_
        intro a26 he26
        clear he25 a25
        refine wpList_nil ?_
        refine then_ok ?_
        refine wp_seq ?_
        refine wp_seq ?_
        refine wp_region_lit ?_
        refine lV (Value.pointer (some ⟨q24, 0, none⟩)) he26 rfl rfl (wanted_plain rfl _) (rn_mv rfl (he26.op rfl) w24) ?_
        intro a27 he27
        clear he26 a26
        refine lV (Value.bool false) he27 rfl rfl (wanted_plain rfl _) (rn_eqP1 rfl (he27.op rfl) (he27.op rfl) w24) ?_
        intro a28 he28
        clear he27 a27
        refine wpList_nil ?_
        refine then_ok ?_
        refine wp_cond_false (he28.op rfl) ?_
        refine wp_skip ?_
        refine then_ok ?_
        refine wp_seq ?_
        refine wp_region_lit ?_
        refine lV (Value.pointer (some ⟨p, 0, none⟩)) he28 rfl rfl (wanted_plain rfl _) (rn_mv rfl (he28.op rfl) w24) ?_
        intro a29 he29
        clear he28 a28
        refine lCx he29 rfl rfl Tryd.func20 (by kernel_rfl) rfl rfl (wanted_plain rfl _) rfl (Add_k p s (57 : UInt8) 57 (by decide) (by decide) hfs w24 (hH24.at (i := 1) rfl)) ?_
        rintro _ w30 ⟨rfl, hf, hB_⟩
        have hH30 : Hp w [⟨q24, 39, (cbF (say s))⟩, ⟨p, 39, (cbF (say (s ++ [(57 : UInt8)])))⟩] w30 := hH24.turn 1 rfl hf hB_ rfl
        refine ⟨_, rfl, ?_⟩
        intro a31 he31
        clear he29 a29 hH24 hf hB_
        refine wpList_nil ?_
        refine then_ok ?_
        refine wp_seq ?_
        refine wp_region_lit ?_
        refine lV (Value.pointer (some ⟨p, 0, none⟩)) he31 rfl rfl (wanted_plain rfl _) (rn_mv rfl (he31.op rfl) w30) ?_
        intro a32 he32
        clear he31 a31
        refine lCx he32 rfl rfl Tryd.func20 (by kernel_rfl) rfl rfl (wanted_plain rfl _) rfl (Add_k p (s ++ [(57 : UInt8)]) (59 : UInt8) 59 (by decide) (by decide) (fine_snoc hfs (by decide)) w30 (hH30.at (i := 1) rfl)) ?_
        rintro _ w33 ⟨rfl, hf, hB_⟩
        have hH33 : Hp w [⟨q24, 39, (cbF (say s))⟩, ⟨p, 39, (cbF (say ((s ++ [(57 : UInt8)]) ++ [(59 : UInt8)])))⟩] w33 := hH30.turn 1 rfl hf hB_ rfl
        refine ⟨_, rfl, ?_⟩
        intro a34 he34
        clear he32 a32 hH30 hf hB_
        refine wpList_nil ?_
        refine then_ok ?_
        refine wp_region_lit ?_
        refine lV (Value.pointer (some ⟨q24, 0, none⟩)) he34 rfl rfl (wanted_plain rfl _) (rn_mv rfl (he34.op rfl) w33) ?_
        intro a35 he35
        clear he34 a34
        refine lV (Value.pointer (some ⟨q24, 0, none⟩)) he35 rfl rfl (wanted_plain rfl _) (rn_asg rfl (he35.op rfl) w33) ?_
        intro a36 he36
        clear he35 a35
        refine wpList_nil ?_
        have hH37_ := hH33.drop1 1 rfl
        clear hH33
        refine then_ok ?_
        refine wp_seq ?_
        refine wp_seq ?_
        refine wp_region_lit ?_
        refine lV (Value.int .i32 (l.getD i 0)) he36 rfl rfl (wanted_plain rfl _) (rn_mv rfl (he36.op rfl) w33) ?_
        intro a38 he38
        clear he36 a36
        by_cases hb3 : (l.getD i 0) < 0
        · skip
          refine lV (Value.bool true) he38 rfl rfl (wanted_plain rfl _) (rn_lsR rfl (he38.op rfl) (he38.op rfl) (decide_eq_true hb3) w33) ?_
          intro a39 he39
          clear he38 a38
          refine wpList_nil ?_
          refine then_ok ?_
          refine wp_cond_true (he39.op rfl) ?_
          refine wp_seq ?_
          refine wp_region_lit ?_
          refine lV (Value.pointer (some ⟨q24, 0, none⟩)) he39 rfl rfl (wanted_plain rfl _) (rn_mv rfl (he39.op rfl) w33) ?_
          intro a40 he40
          clear he39 a39
          refine lCx he40 rfl rfl Tryd.func21 (by kernel_rfl) rfl rfl (wanted_plain rfl _) rfl (Reset_c q24 (say s) w33 (hH37_.at (i := 0) rfl)) ?_
          rintro _ w41 ⟨rfl, hf, hB_⟩
          have hH41 : Hp w [⟨q24, 39, (cbF (say []))⟩] w41 := hH37_.turn 0 rfl hf hB_ rfl
          refine ⟨_, rfl, ?_⟩
          intro a42 he42
          clear he40 a40 hH37_ hf hB_
          refine wpList_nil ?_
          refine then_ok ?_
          refine wp_region_lit ?_
          refine lV (Value.string { data := #[] }) he42 rfl rfl (wanted_plain rfl _) (rn_asg rfl (he42.op rfl) w41) ?_
          intro a43 he43
          clear he42 a42
          refine wpList_nil ?_
          refine then_ok ?_
          refine wp_seq ?_
          refine wp_region_lit ?_
          refine lV (Value.string { data := #[] }) he43 rfl rfl (wanted_plain rfl _) (rn_mv rfl (he43.op rfl) w41) ?_
          intro a44 he44
          clear he43 a43
          refine lCx he44 rfl rfl Tryd.func18 (by kernel_rfl) rfl rfl (wanted_plain rfl _) rfl (RParse_yes ([] : List UInt8) (by decide) (by first | omega | decide | (simp only [List.length_append, List.length_singleton]; omega)) w41) ?_
          rintro _ w46 ⟨A45, c45, b45, rfl, hr45, hn⟩
          refine ⟨_, rfl, ?_⟩
          intro a47 he47
          have hH46 := hH41.call hn
          clear he44 a44 hH41
          clear hn
          refine lV (Value.tuple #[Value.slice A45 (lst ([] : List UInt8)).length c45, Value.bool true]) he47 rfl rfl (wanted_plain rfl _) (rn_mv rfl (he47.op rfl) w46) ?_
          intro a48 he48
          clear he47 a47
          refine lV (Value.slice A45 (lst ([] : List UInt8)).length c45) he48 rfl rfl (wanted_plain rfl _) (rn_ext rfl (he48.op rfl) rfl w46) ?_
          intro a49 he49
          clear he48 a48
          refine lV (Value.bool true) he49 rfl rfl (wanted_plain rfl _) (rn_ext rfl (he49.op rfl) rfl w46) ?_
          intro a50 he50
          clear he49 a49
          refine lV (Value.slice A45 (lst ([] : List UInt8)).length c45) he50 rfl rfl (wanted_plain rfl _) (rn_asg rfl (he50.op rfl) w46) ?_
          intro a51 he51
          clear he50 a50
          refine lV (Value.bool true) he51 rfl rfl (wanted_plain rfl _) (rn_asg rfl (he51.op rfl) w46) ?_
          intro a52 he52
          clear he51 a51
          refine wpList_nil ?_
          refine then_ok ?_
          refine wp_seq ?_
          refine wp_region_lit ?_
          refine lV (Value.pointer (some ⟨q24, 0, none⟩)) he52 rfl rfl (wanted_plain rfl _) (rn_mv rfl (he52.op rfl) w46) ?_
          intro a53 he53
          clear he52 a52
          refine lCx he53 rfl rfl Tryd.func23 (by kernel_rfl) rfl rfl (wanted_plain rfl _) rfl (List_c q24 (say []) w46 (hH46.at (i := 0) rfl)) ?_
          rintro _ w54 ⟨q54, rfl, hq_, hB_, hn⟩
          replace hr45 := hr45.new hn
          have hH55 : Hp w [⟨q54, 3, (ivs ((say []).take 16)).toArray⟩, ⟨q24, 39, (cbF (say []))⟩] w54 := hH46.cons hn hq_ hB_
          refine ⟨_, rfl, ?_⟩
          intro a56 he56
          clear he53 a53 hH46 hn hq_ hB_
          refine lV (Value.slice (some ⟨q54, 0, none⟩) ((say []).take 16).length ((say []).take 16).length) he56 rfl rfl (wanted_plain rfl _) (rn_asg rfl (he56.op rfl) w54) ?_
          intro a57 he57
          clear he56 a56
          refine wpList_nil ?_
          refine then_ok ?_
          refine wp_seq ?_
          refine wp_seq ?_
          refine wp_region_lit ?_
          refine lV (Value.slice (some ⟨q54, 0, none⟩) ((say []).take 16).length ((say []).take 16).length) he57 rfl rfl (wanted_plain rfl _) (rn_mv rfl (he57.op rfl) w54) ?_
          intro a58 he58
          clear he57 a57
          refine lV (Value.slice A45 (lst ([] : List UInt8)).length c45) he58 rfl rfl (wanted_plain rfl _) (rn_mv rfl (he58.op rfl) w54) ?_
          intro a59 he59
          clear he58 a58
          refine lC he59 rfl rfl Tryd.func24 (by kernel_rfl) rfl rfl (wanted_plain rfl _) rfl (Same_c (some ⟨q54, 0, none⟩) (((say []).take 16).length) q54 ((say []).take 16) A45 c45 b45 (lst ([] : List UInt8)) true (decide_eq_true rfl) (by rw [List.length_take]; omega) (by rw [lst_len]; omega) w54 (rd_own (l := ((say []).take 16)) (hH55.at (i := 0) rfl)) hr45) ?_
          intro w60 a61 hn he61
          have hH60 := hH55.call hn
          replace hr45 := hr45.new hn
          clear he59 a59 hH55 hn
          refine lV (Value.bool false) he61 rfl rfl (wanted_plain rfl _) (rn_not (b := true) rfl (he61.op rfl) w60) ?_
          intro a62 he62
          clear he61 a61
          refine wpList_nil ?_
          refine then_ok ?_
          refine wp_cond_false (he62.op rfl) ?_
          refine wp_skip ?_
          refine then_ok ?_
          refine wp_seq ?_
          refine wp_region_lit ?_
          refine lV (Value.slice (some ⟨q54, 0, none⟩) ((say []).take 16).length ((say []).take 16).length) he62 rfl rfl (wanted_plain rfl _) (rn_mv rfl (he62.op rfl) w60) ?_
          intro a63 he63
          clear he62 a62
          refine lV (Value.int .i64 ((((say []).take 16).length : Nat) : Int)) he63 rfl rfl (wanted_plain rfl _) (rn_lenJ rfl (he63.op rfl) w60) ?_
          intro a64 he64
          clear he63 a63
          refine lV (Value.int .i64 0) he64 rfl rfl (wanted_plain rfl _) (rn_mv rfl (he64.op rfl) w60) ?_
          intro a65 he65
          clear he64 a64
          refine wpList_nil ?_
          refine then_ok ?_
          refine wp_block ?_
          have hn16 : ((say []).take 16).length ≤ 16 := by rw [List.length_take]; omega
          refine loop_nat (fun q a w' => ∃ (k : Nat) (xs : List Int), q = ((say []).take 16).length - k ∧ k ≤ ((say []).take 16).length ∧ xs.length = ((say []).take 16).length ∧ Env 92 [(70, Value.int .i64 (k : Int)), (69, Value.int .i64 ((((say []).take 16).length : Nat) : Int)), (24, Value.int .i64 (i : Int)), (23, Value.int .i64 ((l.length : Nat) : Int)), (22, Value.slice A l.length c), (6, Value.string { data := #[] }), (5, Value.pointer (some ⟨q24, 0, none⟩)), (1, Value.int .i64 at_), (0, Value.slice A l.length c), (12, Value.slice (some ⟨q54, 0, none⟩) ((say []).take 16).length ((say []).take 16).length)] a ∧ Hp w [⟨q54, 3, (ivs xs).toArray⟩, ⟨q24, 39, (cbF (say []))⟩] w') _ ⟨0, ((say []).take 16), rfl, Nat.zero_le _, rfl, he65.mem ⟨rfl, rfl, rfl, rfl, rfl, rfl, rfl, rfl, rfl, rfl, trivial⟩, hH60⟩ ?_
          clear he65 hH60
          rintro q a66 w66 ⟨k, xs, rfl, hk, hx, he66, hH66⟩
          refine wp_seq ?_
          refine wp_region_lit ?_
          by_cases hb4 : (k : Int) < ((((say []).take 16).length : Nat) : Int)
          · skip
            refine lV (Value.bool true) he66 rfl rfl (wanted_plain rfl _) (rn_lsI rfl (he66.op rfl) (he66.op rfl) (decide_eq_true hb4) w66) ?_
            intro a67 he67
            clear he66 a66
            refine wpList_nil ?_
            refine then_ok ?_
            refine wp_seq ?_
            refine wp_cond_true (he67.op rfl) ?_
            refine wp_skip ?_
            refine then_ok ?_
            refine wp_seq ?_
            refine wp_block ?_
            refine wp_seq ?_
            refine wp_region_lit ?_
            refine lV (Value.int .i64 (k : Int)) he67 rfl rfl (wanted_plain rfl _) (rn_mv rfl (he67.op rfl) w66) ?_
            intro a68 he68
            clear he67 a67
            refine lV (Value.int .i64 (k : Int)) he68 rfl rfl (wanted_plain rfl _) (rn_asg rfl (he68.op rfl) w66) ?_
            intro a69 he69
            clear he68 a68
            refine wpList_nil ?_
            refine then_ok ?_
            refine wp_region_lit ?_
            refine lV (Value.slice (some ⟨q54, 0, none⟩) ((say []).take 16).length ((say []).take 16).length) he69 rfl rfl (wanted_plain rfl _) (rn_mv rfl (he69.op rfl) w66) ?_
            intro a70 he70
            clear he69 a69
            refine lV (Value.int .i64 (k : Int)) he70 rfl rfl (wanted_plain rfl _) (rn_mv rfl (he70.op rfl) w66) ?_
            intro a71 he71
            clear he70 a70
            refine lV (Value.pointer (some ⟨q54, k, none⟩)) he71 rfl rfl (wanted_plain rfl _) (rn_ixDJ (k := k) rfl (he71.op rfl) (he71.op rfl) rfl (by omega) w66) ?_
            intro a72 he72
            clear he71 a71
            refine lV (Value.int .i64 (xs.getD k 0)) he72 rfl rfl (wanted_plain rfl _) (rn_ldD (k := k) rfl (he72.op rfl) (hH66.at (i := 0) rfl) (getD_at (by omega))) ?_
            intro a73 he73
            clear he72 a72
            refine lV (Value.int .i64 (IntKind.i64.wrap ((xs.getD k 0) + 1))) he73 rfl rfl (wanted_plain rfl _) (rn_addI rfl (he73.op rfl) (he73.op rfl) rfl w66) ?_
            intro a74 he74
            clear he73 a73
            refine lV (Value.pointer (some ⟨q54, k, none⟩)) he74 rfl rfl (wanted_plain rfl _) (rn_ixDJ (k := k) rfl (he74.op rfl) (he74.op rfl) rfl (by omega) w66) ?_
            intro a75 he75
            clear he74 a74
            refine lSetD 0 (cs := (ivs (xs.set k (IntKind.i64.wrap ((xs.getD k 0) + 1)))).toArray) he75 hH66 rfl (wanted_plain rfl _) rfl rfl rfl rfl rfl infoI1 rfl (ivs_size (by omega)) (set_cb _ _ _) ?_
            intro w76 a77 hH76 hf he77
            replace hH76 : Hp w [⟨q54, 3, (ivs (xs.set k (IntKind.i64.wrap ((xs.getD k 0) + 1)))).toArray⟩, ⟨q24, 39, (cbF (say []))⟩] w76 := hH76
            clear hf
            clear he75 a75 hH66
            refine wpList_nil ?_
            refine block_ok ?_
            refine then_ok ?_
            refine wp_region_lit ?_
            refine lV (Value.int .i64 ((k + 1 : Nat) : Int)) he77 rfl rfl (wanted_plain rfl _) (rn_addI rfl (he77.op rfl) (he77.op rfl) (by rw [i64w (by omega) (by omega)]; omega) w76) ?_
            intro a78 he78
            clear he77 a77
            refine lV (Value.int .i64 ((k + 1 : Nat) : Int)) he78 rfl rfl (wanted_plain rfl _) (rn_mv rfl (he78.op rfl) w76) ?_
            intro a79 he79
            clear he78 a78
            refine wpList_nil ?_
            refine then_ok ?_
            exact ⟨((say []).take 16).length - (k + 1), by omega, k + 1, xs.set k (IntKind.i64.wrap ((xs.getD k 0) + 1)), rfl, by omega, by rw [List.length_set]; exact hx, he79.mem ⟨rfl, rfl, rfl, rfl, rfl, rfl, rfl, rfl, rfl, rfl, trivial⟩, hH76⟩
          · skip
            refine lV (Value.bool false) he66 rfl rfl (wanted_plain rfl _) (rn_lsI rfl (he66.op rfl) (he66.op rfl) (decide_eq_false hb4) w66) ?_
            intro a67 he67
            clear he66 a66
            refine wpList_nil ?_
            refine then_ok ?_
            refine wp_seq ?_
            refine wp_cond_false (he67.op rfl) ?_
            refine wp_exit ?_
            refine then_exit ?_
            refine then_exit ?_
            refine block_exit ?_
            refine block_ok ?_
            refine then_ok ?_
            have hH68 := hH66.tail rfl
            clear hH66
            refine wp_region_lit ?_
            refine lV (Value.int .i64 ((i + 1 : Nat) : Int)) he67 rfl rfl (wanted_plain rfl _) (rn_addI rfl (he67.op rfl) (he67.op rfl) (by rw [i64w (by omega) (by omega)]; omega) w66) ?_
            intro a69 he69
            clear he67 a67
            refine lV (Value.int .i64 ((i + 1 : Nat) : Int)) he69 rfl rfl (wanted_plain rfl _) (rn_mv rfl (he69.op rfl) w66) ?_
            intro a70 he70
            clear he69 a69
            refine wpList_nil ?_
            refine then_ok ?_
            exact ⟨l.length - (i + 1), by omega, i + 1, q24, [], rfl, by omega, (fun c hc => by cases hc), (by first | omega | exact Nat.zero_le _ | (simp only [List.length_append, List.length_singleton]; omega)), he70.mem ⟨rfl, rfl, rfl, rfl, rfl, rfl, rfl, trivial⟩, hH68⟩
        · skip
          refine lV (Value.bool false) he38 rfl rfl (wanted_plain rfl _) (rn_lsR rfl (he38.op rfl) (he38.op rfl) (decide_eq_false hb3) w33) ?_
          intro a39 he39
          clear he38 a38
          refine wpList_nil ?_
          refine then_ok ?_
          refine wp_cond_false (he39.op rfl) ?_
          refine wp_seq ?_
          refine wp_seq ?_
          refine wp_region_lit ?_
          refine lV (Value.pointer (some ⟨q24, 0, none⟩)) he39 rfl rfl (wanted_plain rfl _) (rn_mv rfl (he39.op rfl) w33) ?_
          intro a40 he40
          clear he39 a39
          refine lV (Value.int .i32 (l.getD i 0)) he40 rfl rfl (wanted_plain rfl _) (rn_mv rfl (he40.op rfl) w33) ?_
          intro a41 he41
          clear he40 a40
          by_cases hb4 : fineI (l.getD i 0)
          · skip
            obtain ⟨ch, hce, hcf⟩ := fineI_c hb4
            refine lCx he41 rfl rfl Tryd.func20 (by kernel_rfl) rfl rfl (wanted_plain rfl _) rfl (Add_k q24 s ch (l.getD i 0) hce hcf hfs w33 (hH37_.at (i := 0) rfl)) ?_
            rintro _ w42 ⟨rfl, hf, hB_⟩
            have hH42 : Hp w [⟨q24, 39, (cbF (say (s ++ [ch])))⟩] w42 := hH37_.turn 0 rfl hf hB_ rfl
            refine ⟨_, rfl, ?_⟩
            intro a43 he43
            clear he41 a41 hH37_ hf hB_
            refine lV (Value.int .i32 (l.getD i 0)) he43 rfl rfl (wanted_plain rfl _) (rn_mv rfl (he43.op rfl) w42) ?_
            intro a44 he44
            clear he43 a43
            refine lC he44 rfl rfl Tryd.func22 (by kernel_rfl) rfl rfl (wanted_plain rfl _) rfl (Fine_c (l.getD i 0) true (decide_eq_true hb4) w42) ?_
            intro w45 a46 hn he46
            have hH45 := hH42.call hn
            clear he44 a44 hH42 hn
            refine lV (Value.bool false) he46 rfl rfl (wanted_plain rfl _) (rn_neB (i := true) (j := true) rfl (he46.op rfl) (he46.op rfl) rfl w45) ?_
            intro a47 he47
            clear he46 a46
            refine wpList_nil ?_
            refine then_ok ?_
            refine wp_cond_false (he47.op rfl) ?_
            refine wp_skip ?_
            refine then_ok ?_
            refine wp_seq ?_
            refine wp_region_lit ?_
            refine lV (Value.int .i32 (l.getD i 0)) he47 rfl rfl (wanted_plain rfl _) (rn_mv rfl (he47.op rfl) w45) ?_
            intro a48 he48
            clear he47 a47
            refine lC he48 rfl rfl Tryd.func22 (by kernel_rfl) rfl rfl (wanted_plain rfl _) rfl (Fine_c (l.getD i 0) true (decide_eq_true hb4) w45) ?_
            intro w49 a50 hn he50
            have hH49 := hH45.call hn
            clear he48 a48 hH45 hn
            refine wpList_nil ?_
            refine then_ok ?_
            refine wp_cond_true (he50.op rfl) ?_
            refine wp_region_lit ?_
            refine lV (Value.string (bs s)) he50 rfl rfl (wanted_plain rfl _) (rn_mv rfl (he50.op rfl) w49) ?_
            intro a51 he51
            clear he50 a50
            refine lV (Value.int .i32 (l.getD i 0)) he51 rfl rfl (wanted_plain rfl _) (rn_mv rfl (he51.op rfl) w49) ?_
            intro a52 he52
            clear he51 a51
            refine lV (Value.string (bs [ch])) he52 rfl rfl (wanted_plain rfl _) (rn_cvRS (c := ch) rfl (he52.op rfl) hce (by omega) w49) ?_
            intro a53 he53
            clear he52 a52
            refine lV (Value.string (bs (s ++ [ch]))) he53 rfl rfl (wanted_plain rfl _) (rn_addS (a := s) (c := [ch]) rfl (he53.op rfl) (he53.op rfl) (by first | decide | omega | (simp only [List.length_append, List.length_cons, List.length_nil]; omega)) rfl w49) ?_
            intro a54 he54
            clear he53 a53
            refine lV (Value.string (bs (s ++ [ch]))) he54 rfl rfl (wanted_plain rfl _) (rn_asg rfl (he54.op rfl) w49) ?_
            intro a55 he55
            clear he54 a54
            refine wpList_nil ?_
            refine then_ok ?_
            refine wp_seq ?_
            refine wp_region_lit ?_
            refine lV (Value.string (bs (s ++ [ch]))) he55 rfl rfl (wanted_plain rfl _) (rn_mv rfl (he55.op rfl) w49) ?_
            intro a56 he56
            clear he55 a55
            refine lCx he56 rfl rfl Tryd.func18 (by kernel_rfl) rfl rfl (wanted_plain rfl _) rfl (RParse_yes (s ++ [ch]) (fine_snoc hfs hcf) (by first | omega | decide | (simp only [List.length_append, List.length_singleton]; omega)) w49) ?_
            rintro _ w58 ⟨A57, c57, b57, rfl, hr57, hn⟩
            refine ⟨_, rfl, ?_⟩
            intro a59 he59
            have hH58 := hH49.call hn
            clear he56 a56 hH49
            clear hn
            refine lV (Value.tuple #[Value.slice A57 (lst (s ++ [ch])).length c57, Value.bool true]) he59 rfl rfl (wanted_plain rfl _) (rn_mv rfl (he59.op rfl) w58) ?_
            intro a60 he60
            clear he59 a59
            refine lV (Value.slice A57 (lst (s ++ [ch])).length c57) he60 rfl rfl (wanted_plain rfl _) (rn_ext rfl (he60.op rfl) rfl w58) ?_
            intro a61 he61
            clear he60 a60
            refine lV (Value.bool true) he61 rfl rfl (wanted_plain rfl _) (rn_ext rfl (he61.op rfl) rfl w58) ?_
            intro a62 he62
            clear he61 a61
            refine lV (Value.slice A57 (lst (s ++ [ch])).length c57) he62 rfl rfl (wanted_plain rfl _) (rn_asg rfl (he62.op rfl) w58) ?_
            intro a63 he63
            clear he62 a62
            refine lV (Value.bool true) he63 rfl rfl (wanted_plain rfl _) (rn_asg rfl (he63.op rfl) w58) ?_
            intro a64 he64
            clear he63 a63
            refine wpList_nil ?_
            refine then_ok ?_
            refine wp_seq ?_
            refine wp_region_lit ?_
            refine lV (Value.pointer (some ⟨q24, 0, none⟩)) he64 rfl rfl (wanted_plain rfl _) (rn_mv rfl (he64.op rfl) w58) ?_
            intro a65 he65
            clear he64 a64
            refine lCx he65 rfl rfl Tryd.func23 (by kernel_rfl) rfl rfl (wanted_plain rfl _) rfl (List_c q24 (say (s ++ [ch])) w58 (hH58.at (i := 0) rfl)) ?_
            rintro _ w66 ⟨q66, rfl, hq_, hB_, hn⟩
            replace hr57 := hr57.new hn
            have hH67 : Hp w [⟨q66, 3, (ivs ((say (s ++ [ch])).take 16)).toArray⟩, ⟨q24, 39, (cbF (say (s ++ [ch])))⟩] w66 := hH58.cons hn hq_ hB_
            refine ⟨_, rfl, ?_⟩
            intro a68 he68
            clear he65 a65 hH58 hn hq_ hB_
            refine lV (Value.slice (some ⟨q66, 0, none⟩) ((say (s ++ [ch])).take 16).length ((say (s ++ [ch])).take 16).length) he68 rfl rfl (wanted_plain rfl _) (rn_asg rfl (he68.op rfl) w66) ?_
            intro a69 he69
            clear he68 a68
            refine wpList_nil ?_
            refine then_ok ?_
            refine wp_seq ?_
            refine wp_seq ?_
            refine wp_region_lit ?_
            refine lV (Value.slice (some ⟨q66, 0, none⟩) ((say (s ++ [ch])).take 16).length ((say (s ++ [ch])).take 16).length) he69 rfl rfl (wanted_plain rfl _) (rn_mv rfl (he69.op rfl) w66) ?_
            intro a70 he70
            clear he69 a69
            refine lV (Value.slice A57 (lst (s ++ [ch])).length c57) he70 rfl rfl (wanted_plain rfl _) (rn_mv rfl (he70.op rfl) w66) ?_
            intro a71 he71
            clear he70 a70
            refine lC he71 rfl rfl Tryd.func24 (by kernel_rfl) rfl rfl (wanted_plain rfl _) rfl (Same_c (some ⟨q66, 0, none⟩) (((say (s ++ [ch])).take 16).length) q66 ((say (s ++ [ch])).take 16) A57 c57 b57 (lst (s ++ [ch])) true (decide_eq_true rfl) (by rw [List.length_take]; omega) (by rw [lst_len]; omega) w66 (rd_own (l := ((say (s ++ [ch])).take 16)) (hH67.at (i := 0) rfl)) hr57) ?_
            intro w72 a73 hn he73
            have hH72 := hH67.call hn
            replace hr57 := hr57.new hn
            clear he71 a71 hH67 hn
            refine lV (Value.bool false) he73 rfl rfl (wanted_plain rfl _) (rn_not (b := true) rfl (he73.op rfl) w72) ?_
            intro a74 he74
            clear he73 a73
            refine wpList_nil ?_
            refine then_ok ?_
            refine wp_cond_false (he74.op rfl) ?_
            refine wp_skip ?_
            refine then_ok ?_
            refine wp_seq ?_
            refine wp_region_lit ?_
            refine lV (Value.slice (some ⟨q66, 0, none⟩) ((say (s ++ [ch])).take 16).length ((say (s ++ [ch])).take 16).length) he74 rfl rfl (wanted_plain rfl _) (rn_mv rfl (he74.op rfl) w72) ?_
            intro a75 he75
            clear he74 a74
            refine lV (Value.int .i64 ((((say (s ++ [ch])).take 16).length : Nat) : Int)) he75 rfl rfl (wanted_plain rfl _) (rn_lenJ rfl (he75.op rfl) w72) ?_
            intro a76 he76
            clear he75 a75
            refine lV (Value.int .i64 0) he76 rfl rfl (wanted_plain rfl _) (rn_mv rfl (he76.op rfl) w72) ?_
            intro a77 he77
            clear he76 a76
            refine wpList_nil ?_
            refine then_ok ?_
            refine wp_block ?_
            have hn16 : ((say (s ++ [ch])).take 16).length ≤ 16 := by rw [List.length_take]; omega
            refine loop_nat (fun q a w' => ∃ (k : Nat) (xs : List Int), q = ((say (s ++ [ch])).take 16).length - k ∧ k ≤ ((say (s ++ [ch])).take 16).length ∧ xs.length = ((say (s ++ [ch])).take 16).length ∧ Env 92 [(70, Value.int .i64 (k : Int)), (69, Value.int .i64 ((((say (s ++ [ch])).take 16).length : Nat) : Int)), (24, Value.int .i64 (i : Int)), (23, Value.int .i64 ((l.length : Nat) : Int)), (22, Value.slice A l.length c), (6, Value.string (bs (s ++ [ch]))), (5, Value.pointer (some ⟨q24, 0, none⟩)), (1, Value.int .i64 at_), (0, Value.slice A l.length c), (12, Value.slice (some ⟨q66, 0, none⟩) ((say (s ++ [ch])).take 16).length ((say (s ++ [ch])).take 16).length)] a ∧ Hp w [⟨q66, 3, (ivs xs).toArray⟩, ⟨q24, 39, (cbF (say (s ++ [ch])))⟩] w') _ ⟨0, ((say (s ++ [ch])).take 16), rfl, Nat.zero_le _, rfl, he77.mem ⟨rfl, rfl, rfl, rfl, rfl, rfl, rfl, rfl, rfl, rfl, trivial⟩, hH72⟩ ?_
            clear he77 hH72
            rintro q a78 w78 ⟨k, xs, rfl, hk, hx, he78, hH78⟩
            refine wp_seq ?_
            refine wp_region_lit ?_
            by_cases hb5 : (k : Int) < ((((say (s ++ [ch])).take 16).length : Nat) : Int)
            · skip
              refine lV (Value.bool true) he78 rfl rfl (wanted_plain rfl _) (rn_lsI rfl (he78.op rfl) (he78.op rfl) (decide_eq_true hb5) w78) ?_
              intro a79 he79
              clear he78 a78
              refine wpList_nil ?_
              refine then_ok ?_
              refine wp_seq ?_
              refine wp_cond_true (he79.op rfl) ?_
              refine wp_skip ?_
              refine then_ok ?_
              refine wp_seq ?_
              refine wp_block ?_
              refine wp_seq ?_
              refine wp_region_lit ?_
              refine lV (Value.int .i64 (k : Int)) he79 rfl rfl (wanted_plain rfl _) (rn_mv rfl (he79.op rfl) w78) ?_
              intro a80 he80
              clear he79 a79
              refine lV (Value.int .i64 (k : Int)) he80 rfl rfl (wanted_plain rfl _) (rn_asg rfl (he80.op rfl) w78) ?_
              intro a81 he81
              clear he80 a80
              refine wpList_nil ?_
              refine then_ok ?_
              refine wp_region_lit ?_
              refine lV (Value.slice (some ⟨q66, 0, none⟩) ((say (s ++ [ch])).take 16).length ((say (s ++ [ch])).take 16).length) he81 rfl rfl (wanted_plain rfl _) (rn_mv rfl (he81.op rfl) w78) ?_
              intro a82 he82
              clear he81 a81
              refine lV (Value.int .i64 (k : Int)) he82 rfl rfl (wanted_plain rfl _) (rn_mv rfl (he82.op rfl) w78) ?_
              intro a83 he83
              clear he82 a82
              refine lV (Value.pointer (some ⟨q66, k, none⟩)) he83 rfl rfl (wanted_plain rfl _) (rn_ixDJ (k := k) rfl (he83.op rfl) (he83.op rfl) rfl (by omega) w78) ?_
              intro a84 he84
              clear he83 a83
              refine lV (Value.int .i64 (xs.getD k 0)) he84 rfl rfl (wanted_plain rfl _) (rn_ldD (k := k) rfl (he84.op rfl) (hH78.at (i := 0) rfl) (getD_at (by omega))) ?_
              intro a85 he85
              clear he84 a84
              refine lV (Value.int .i64 (IntKind.i64.wrap ((xs.getD k 0) + 1))) he85 rfl rfl (wanted_plain rfl _) (rn_addI rfl (he85.op rfl) (he85.op rfl) rfl w78) ?_
              intro a86 he86
              clear he85 a85
              refine lV (Value.pointer (some ⟨q66, k, none⟩)) he86 rfl rfl (wanted_plain rfl _) (rn_ixDJ (k := k) rfl (he86.op rfl) (he86.op rfl) rfl (by omega) w78) ?_
              intro a87 he87
              clear he86 a86
              refine lSetD 0 (cs := (ivs (xs.set k (IntKind.i64.wrap ((xs.getD k 0) + 1)))).toArray) he87 hH78 rfl (wanted_plain rfl _) rfl rfl rfl rfl rfl infoI1 rfl (ivs_size (by omega)) (set_cb _ _ _) ?_
              intro w88 a89 hH88 hf he89
              replace hH88 : Hp w [⟨q66, 3, (ivs (xs.set k (IntKind.i64.wrap ((xs.getD k 0) + 1)))).toArray⟩, ⟨q24, 39, (cbF (say (s ++ [ch])))⟩] w88 := hH88
              clear hf
              clear he87 a87 hH78
              refine wpList_nil ?_
              refine block_ok ?_
              refine then_ok ?_
              refine wp_region_lit ?_
              refine lV (Value.int .i64 ((k + 1 : Nat) : Int)) he89 rfl rfl (wanted_plain rfl _) (rn_addI rfl (he89.op rfl) (he89.op rfl) (by rw [i64w (by omega) (by omega)]; omega) w88) ?_
              intro a90 he90
              clear he89 a89
              refine lV (Value.int .i64 ((k + 1 : Nat) : Int)) he90 rfl rfl (wanted_plain rfl _) (rn_mv rfl (he90.op rfl) w88) ?_
              intro a91 he91
              clear he90 a90
              refine wpList_nil ?_
              refine then_ok ?_
              exact ⟨((say (s ++ [ch])).take 16).length - (k + 1), by omega, k + 1, xs.set k (IntKind.i64.wrap ((xs.getD k 0) + 1)), rfl, by omega, by rw [List.length_set]; exact hx, he91.mem ⟨rfl, rfl, rfl, rfl, rfl, rfl, rfl, rfl, rfl, rfl, trivial⟩, hH88⟩
            · skip
              refine lV (Value.bool false) he78 rfl rfl (wanted_plain rfl _) (rn_lsI rfl (he78.op rfl) (he78.op rfl) (decide_eq_false hb5) w78) ?_
              intro a79 he79
              clear he78 a78
              refine wpList_nil ?_
              refine then_ok ?_
              refine wp_seq ?_
              refine wp_cond_false (he79.op rfl) ?_
              refine wp_exit ?_
              refine then_exit ?_
              refine then_exit ?_
              refine block_exit ?_
              refine block_ok ?_
              refine then_ok ?_
              have hH80 := hH78.tail rfl
              clear hH78
              refine wp_region_lit ?_
              refine lV (Value.int .i64 ((i + 1 : Nat) : Int)) he79 rfl rfl (wanted_plain rfl _) (rn_addI rfl (he79.op rfl) (he79.op rfl) (by rw [i64w (by omega) (by omega)]; omega) w78) ?_
              intro a81 he81
              clear he79 a79
              refine lV (Value.int .i64 ((i + 1 : Nat) : Int)) he81 rfl rfl (wanted_plain rfl _) (rn_mv rfl (he81.op rfl) w78) ?_
              intro a82 he82
              clear he81 a81
              refine wpList_nil ?_
              refine then_ok ?_
              exact ⟨l.length - (i + 1), by omega, i + 1, q24, (s ++ [ch]), rfl, by omega, (fine_snoc hfs hcf), (by first | omega | exact Nat.zero_le _ | (simp only [List.length_append, List.length_singleton]; omega)), he82.mem ⟨rfl, rfl, rfl, rfl, rfl, rfl, rfl, trivial⟩, hH80⟩
          · skip
            refine lC he41 rfl rfl Tryd.func20 (by kernel_rfl) rfl rfl (wanted_plain rfl _) rfl (AddNo_c q24 (l.getD i 0) hb4 w33) ?_
            intro w42 a43 hn he43
            have hH42 := hH37_.call hn
            clear he41 a41 hH37_ hn
            refine lV (Value.int .i32 (l.getD i 0)) he43 rfl rfl (wanted_plain rfl _) (rn_mv rfl (he43.op rfl) w42) ?_
            intro a44 he44
            clear he43 a43
            refine lC he44 rfl rfl Tryd.func22 (by kernel_rfl) rfl rfl (wanted_plain rfl _) rfl (Fine_c (l.getD i 0) false (decide_eq_false hb4) w42) ?_
            intro w45 a46 hn he46
            have hH45 := hH42.call hn
            clear he44 a44 hH42 hn
            refine lV (Value.bool false) he46 rfl rfl (wanted_plain rfl _) (rn_neB (i := false) (j := false) rfl (he46.op rfl) (he46.op rfl) rfl w45) ?_
            intro a47 he47
            clear he46 a46
            refine wpList_nil ?_
            refine then_ok ?_
            refine wp_cond_false (he47.op rfl) ?_
            refine wp_skip ?_
            refine then_ok ?_
            refine wp_seq ?_
            refine wp_region_lit ?_
            refine lV (Value.int .i32 (l.getD i 0)) he47 rfl rfl (wanted_plain rfl _) (rn_mv rfl (he47.op rfl) w45) ?_
            intro a48 he48
            clear he47 a47
            refine lC he48 rfl rfl Tryd.func22 (by kernel_rfl) rfl rfl (wanted_plain rfl _) rfl (Fine_c (l.getD i 0) false (decide_eq_false hb4) w45) ?_
            intro w49 a50 hn he50
            have hH49 := hH45.call hn
            clear he48 a48 hH45 hn
            refine wpList_nil ?_
            refine then_ok ?_
            refine wp_cond_false (he50.op rfl) ?_
            refine wp_skip ?_
            refine then_ok ?_
            refine wp_seq ?_
            refine wp_region_lit ?_
            refine lV (Value.string (bs s)) he50 rfl rfl (wanted_plain rfl _) (rn_mv rfl (he50.op rfl) w49) ?_
            intro a51 he51
            clear he50 a50
            refine lCx he51 rfl rfl Tryd.func18 (by kernel_rfl) rfl rfl (wanted_plain rfl _) rfl (RParse_yes s hfs (by first | omega | decide | (simp only [List.length_append, List.length_singleton]; omega)) w49) ?_
            rintro _ w53 ⟨A52, c52, b52, rfl, hr52, hn⟩
            refine ⟨_, rfl, ?_⟩
            intro a54 he54
            have hH53 := hH49.call hn
            clear he51 a51 hH49
            clear hn
            refine lV (Value.tuple #[Value.slice A52 (lst s).length c52, Value.bool true]) he54 rfl rfl (wanted_plain rfl _) (rn_mv rfl (he54.op rfl) w53) ?_
            intro a55 he55
            clear he54 a54
            refine lV (Value.slice A52 (lst s).length c52) he55 rfl rfl (wanted_plain rfl _) (rn_ext rfl (he55.op rfl) rfl w53) ?_
            intro a56 he56
            clear he55 a55
            refine lV (Value.bool true) he56 rfl rfl (wanted_plain rfl _) (rn_ext rfl (he56.op rfl) rfl w53) ?_
            intro a57 he57
            clear he56 a56
            refine lV (Value.slice A52 (lst s).length c52) he57 rfl rfl (wanted_plain rfl _) (rn_asg rfl (he57.op rfl) w53) ?_
            intro a58 he58
            clear he57 a57
            refine lV (Value.bool true) he58 rfl rfl (wanted_plain rfl _) (rn_asg rfl (he58.op rfl) w53) ?_
            intro a59 he59
            clear he58 a58
            refine wpList_nil ?_
            refine then_ok ?_
            refine wp_seq ?_
            refine wp_region_lit ?_
            refine lV (Value.pointer (some ⟨q24, 0, none⟩)) he59 rfl rfl (wanted_plain rfl _) (rn_mv rfl (he59.op rfl) w53) ?_
            intro a60 he60
            clear he59 a59
            refine lCx he60 rfl rfl Tryd.func23 (by kernel_rfl) rfl rfl (wanted_plain rfl _) rfl (List_c q24 (say s) w53 (hH53.at (i := 0) rfl)) ?_
            rintro _ w61 ⟨q61, rfl, hq_, hB_, hn⟩
            replace hr52 := hr52.new hn
            have hH62 : Hp w [⟨q61, 3, (ivs ((say s).take 16)).toArray⟩, ⟨q24, 39, (cbF (say s))⟩] w61 := hH53.cons hn hq_ hB_
            refine ⟨_, rfl, ?_⟩
            intro a63 he63
            clear he60 a60 hH53 hn hq_ hB_
            refine lV (Value.slice (some ⟨q61, 0, none⟩) ((say s).take 16).length ((say s).take 16).length) he63 rfl rfl (wanted_plain rfl _) (rn_asg rfl (he63.op rfl) w61) ?_
            intro a64 he64
            clear he63 a63
            refine wpList_nil ?_
            refine then_ok ?_
            refine wp_seq ?_
            refine wp_seq ?_
            refine wp_region_lit ?_
            refine lV (Value.slice (some ⟨q61, 0, none⟩) ((say s).take 16).length ((say s).take 16).length) he64 rfl rfl (wanted_plain rfl _) (rn_mv rfl (he64.op rfl) w61) ?_
            intro a65 he65
            clear he64 a64
            refine lV (Value.slice A52 (lst s).length c52) he65 rfl rfl (wanted_plain rfl _) (rn_mv rfl (he65.op rfl) w61) ?_
            intro a66 he66
            clear he65 a65
            refine lC he66 rfl rfl Tryd.func24 (by kernel_rfl) rfl rfl (wanted_plain rfl _) rfl (Same_c (some ⟨q61, 0, none⟩) (((say s).take 16).length) q61 ((say s).take 16) A52 c52 b52 (lst s) true (decide_eq_true rfl) (by rw [List.length_take]; omega) (by rw [lst_len]; omega) w61 (rd_own (l := ((say s).take 16)) (hH62.at (i := 0) rfl)) hr52) ?_
            intro w67 a68 hn he68
            have hH67 := hH62.call hn
            replace hr52 := hr52.new hn
            clear he66 a66 hH62 hn
            refine lV (Value.bool false) he68 rfl rfl (wanted_plain rfl _) (rn_not (b := true) rfl (he68.op rfl) w67) ?_
            intro a69 he69
            clear he68 a68
            refine wpList_nil ?_
            refine then_ok ?_
            refine wp_cond_false (he69.op rfl) ?_
            refine wp_skip ?_
            refine then_ok ?_
            refine wp_seq ?_
            refine wp_region_lit ?_
            refine lV (Value.slice (some ⟨q61, 0, none⟩) ((say s).take 16).length ((say s).take 16).length) he69 rfl rfl (wanted_plain rfl _) (rn_mv rfl (he69.op rfl) w67) ?_
            intro a70 he70
            clear he69 a69
            refine lV (Value.int .i64 ((((say s).take 16).length : Nat) : Int)) he70 rfl rfl (wanted_plain rfl _) (rn_lenJ rfl (he70.op rfl) w67) ?_
            intro a71 he71
            clear he70 a70
            refine lV (Value.int .i64 0) he71 rfl rfl (wanted_plain rfl _) (rn_mv rfl (he71.op rfl) w67) ?_
            intro a72 he72
            clear he71 a71
            refine wpList_nil ?_
            refine then_ok ?_
            refine wp_block ?_
            have hn16 : ((say s).take 16).length ≤ 16 := by rw [List.length_take]; omega
            refine loop_nat (fun q a w' => ∃ (k : Nat) (xs : List Int), q = ((say s).take 16).length - k ∧ k ≤ ((say s).take 16).length ∧ xs.length = ((say s).take 16).length ∧ Env 92 [(70, Value.int .i64 (k : Int)), (69, Value.int .i64 ((((say s).take 16).length : Nat) : Int)), (24, Value.int .i64 (i : Int)), (23, Value.int .i64 ((l.length : Nat) : Int)), (22, Value.slice A l.length c), (6, Value.string (bs s)), (5, Value.pointer (some ⟨q24, 0, none⟩)), (1, Value.int .i64 at_), (0, Value.slice A l.length c), (12, Value.slice (some ⟨q61, 0, none⟩) ((say s).take 16).length ((say s).take 16).length)] a ∧ Hp w [⟨q61, 3, (ivs xs).toArray⟩, ⟨q24, 39, (cbF (say s))⟩] w') _ ⟨0, ((say s).take 16), rfl, Nat.zero_le _, rfl, he72.mem ⟨rfl, rfl, rfl, rfl, rfl, rfl, rfl, rfl, rfl, rfl, trivial⟩, hH67⟩ ?_
            clear he72 hH67
            rintro q a73 w73 ⟨k, xs, rfl, hk, hx, he73, hH73⟩
            refine wp_seq ?_
            refine wp_region_lit ?_
            by_cases hb5 : (k : Int) < ((((say s).take 16).length : Nat) : Int)
            · skip
              refine lV (Value.bool true) he73 rfl rfl (wanted_plain rfl _) (rn_lsI rfl (he73.op rfl) (he73.op rfl) (decide_eq_true hb5) w73) ?_
              intro a74 he74
              clear he73 a73
              refine wpList_nil ?_
              refine then_ok ?_
              refine wp_seq ?_
              refine wp_cond_true (he74.op rfl) ?_
              refine wp_skip ?_
              refine then_ok ?_
              refine wp_seq ?_
              refine wp_block ?_
              refine wp_seq ?_
              refine wp_region_lit ?_
              refine lV (Value.int .i64 (k : Int)) he74 rfl rfl (wanted_plain rfl _) (rn_mv rfl (he74.op rfl) w73) ?_
              intro a75 he75
              clear he74 a74
              refine lV (Value.int .i64 (k : Int)) he75 rfl rfl (wanted_plain rfl _) (rn_asg rfl (he75.op rfl) w73) ?_
              intro a76 he76
              clear he75 a75
              refine wpList_nil ?_
              refine then_ok ?_
              refine wp_region_lit ?_
              refine lV (Value.slice (some ⟨q61, 0, none⟩) ((say s).take 16).length ((say s).take 16).length) he76 rfl rfl (wanted_plain rfl _) (rn_mv rfl (he76.op rfl) w73) ?_
              intro a77 he77
              clear he76 a76
              refine lV (Value.int .i64 (k : Int)) he77 rfl rfl (wanted_plain rfl _) (rn_mv rfl (he77.op rfl) w73) ?_
              intro a78 he78
              clear he77 a77
              refine lV (Value.pointer (some ⟨q61, k, none⟩)) he78 rfl rfl (wanted_plain rfl _) (rn_ixDJ (k := k) rfl (he78.op rfl) (he78.op rfl) rfl (by omega) w73) ?_
              intro a79 he79
              clear he78 a78
              refine lV (Value.int .i64 (xs.getD k 0)) he79 rfl rfl (wanted_plain rfl _) (rn_ldD (k := k) rfl (he79.op rfl) (hH73.at (i := 0) rfl) (getD_at (by omega))) ?_
              intro a80 he80
              clear he79 a79
              refine lV (Value.int .i64 (IntKind.i64.wrap ((xs.getD k 0) + 1))) he80 rfl rfl (wanted_plain rfl _) (rn_addI rfl (he80.op rfl) (he80.op rfl) rfl w73) ?_
              intro a81 he81
              clear he80 a80
              refine lV (Value.pointer (some ⟨q61, k, none⟩)) he81 rfl rfl (wanted_plain rfl _) (rn_ixDJ (k := k) rfl (he81.op rfl) (he81.op rfl) rfl (by omega) w73) ?_
              intro a82 he82
              clear he81 a81
              refine lSetD 0 (cs := (ivs (xs.set k (IntKind.i64.wrap ((xs.getD k 0) + 1)))).toArray) he82 hH73 rfl (wanted_plain rfl _) rfl rfl rfl rfl rfl infoI1 rfl (ivs_size (by omega)) (set_cb _ _ _) ?_
              intro w83 a84 hH83 hf he84
              replace hH83 : Hp w [⟨q61, 3, (ivs (xs.set k (IntKind.i64.wrap ((xs.getD k 0) + 1)))).toArray⟩, ⟨q24, 39, (cbF (say s))⟩] w83 := hH83
              clear hf
              clear he82 a82 hH73
              refine wpList_nil ?_
              refine block_ok ?_
              refine then_ok ?_
              refine wp_region_lit ?_
              refine lV (Value.int .i64 ((k + 1 : Nat) : Int)) he84 rfl rfl (wanted_plain rfl _) (rn_addI rfl (he84.op rfl) (he84.op rfl) (by rw [i64w (by omega) (by omega)]; omega) w83) ?_
              intro a85 he85
              clear he84 a84
              refine lV (Value.int .i64 ((k + 1 : Nat) : Int)) he85 rfl rfl (wanted_plain rfl _) (rn_mv rfl (he85.op rfl) w83) ?_
              intro a86 he86
              clear he85 a85
              refine wpList_nil ?_
              refine then_ok ?_
              exact ⟨((say s).take 16).length - (k + 1), by omega, k + 1, xs.set k (IntKind.i64.wrap ((xs.getD k 0) + 1)), rfl, by omega, by rw [List.length_set]; exact hx, he86.mem ⟨rfl, rfl, rfl, rfl, rfl, rfl, rfl, rfl, rfl, rfl, trivial⟩, hH83⟩
            · skip
              refine lV (Value.bool false) he73 rfl rfl (wanted_plain rfl _) (rn_lsI rfl (he73.op rfl) (he73.op rfl) (decide_eq_false hb5) w73) ?_
              intro a74 he74
              clear he73 a73
              refine wpList_nil ?_
              refine then_ok ?_
              refine wp_seq ?_
              refine wp_cond_false (he74.op rfl) ?_
              refine wp_exit ?_
              refine then_exit ?_
              refine then_exit ?_
              refine block_exit ?_
              refine block_ok ?_
              refine then_ok ?_
              have hH75 := hH73.tail rfl
              clear hH73
              refine wp_region_lit ?_
              refine lV (Value.int .i64 ((i + 1 : Nat) : Int)) he74 rfl rfl (wanted_plain rfl _) (rn_addI rfl (he74.op rfl) (he74.op rfl) (by rw [i64w (by omega) (by omega)]; omega) w73) ?_
              intro a76 he76
              clear he74 a74
              refine lV (Value.int .i64 ((i + 1 : Nat) : Int)) he76 rfl rfl (wanted_plain rfl _) (rn_mv rfl (he76.op rfl) w73) ?_
              intro a77 he77
              clear he76 a76
              refine wpList_nil ?_
              refine then_ok ?_
              exact ⟨l.length - (i + 1), by omega, i + 1, q24, s, rfl, by omega, hfs, (by first | omega | exact Nat.zero_le _ | (simp only [List.length_append, List.length_singleton]; omega)), he77.mem ⟨rfl, rfl, rfl, rfl, rfl, rfl, rfl, trivial⟩, hH75⟩
      · skip
        refine lV (Value.bool false) he21 rfl rfl (wanted_plain rfl _) (rn_eqI rfl (he21.op rfl) (he21.op rfl) (beqF hb2) w13) ?_
        intro a22 he22
        clear he21 a21
        refine wpList_nil ?_
        refine then_ok ?_
        refine wp_cond_false (he22.op rfl) ?_
        refine wp_skip ?_
        refine then_ok ?_
        refine wp_seq ?_
        refine wp_seq ?_
        refine wp_region_lit ?_
        refine lV (Value.int .i32 (l.getD i 0)) he22 rfl rfl (wanted_plain rfl _) (rn_mv rfl (he22.op rfl) w13) ?_
        intro a23 he23
        clear he22 a22
        by_cases hb3 : (l.getD i 0) < 0
        · skip
          refine lV (Value.bool true) he23 rfl rfl (wanted_plain rfl _) (rn_lsR rfl (he23.op rfl) (he23.op rfl) (decide_eq_true hb3) w13) ?_
          intro a24 he24
          clear he23 a23
          refine wpList_nil ?_
          refine then_ok ?_
          refine wp_cond_true (he24.op rfl) ?_
          refine wp_seq ?_
          refine wp_region_lit ?_
          refine lV (Value.pointer (some ⟨p, 0, none⟩)) he24 rfl rfl (wanted_plain rfl _) (rn_mv rfl (he24.op rfl) w13) ?_
          intro a25 he25
          clear he24 a24
          refine lCx he25 rfl rfl Tryd.func21 (by kernel_rfl) rfl rfl (wanted_plain rfl _) rfl (Reset_c p (say s) w13 (hH13.at (i := 0) rfl)) ?_
          rintro _ w26 ⟨rfl, hf, hB_⟩
          have hH26 : Hp w [⟨p, 39, (cbF (say []))⟩] w26 := hH13.turn 0 rfl hf hB_ rfl
          refine ⟨_, rfl, ?_⟩
          intro a27 he27
          clear he25 a25 hH13 hf hB_
          refine wpList_nil ?_
          refine then_ok ?_
          refine wp_region_lit ?_
          refine lV (Value.string { data := #[] }) he27 rfl rfl (wanted_plain rfl _) (rn_asg rfl (he27.op rfl) w26) ?_
          intro a28 he28
          clear he27 a27
          refine wpList_nil ?_
          refine then_ok ?_
          refine wp_seq ?_
          refine wp_region_lit ?_
          refine lV (Value.string { data := #[] }) he28 rfl rfl (wanted_plain rfl _) (rn_mv rfl (he28.op rfl) w26) ?_
          intro a29 he29
          clear he28 a28
          refine lCx he29 rfl rfl Tryd.func18 (by kernel_rfl) rfl rfl (wanted_plain rfl _) rfl (RParse_yes ([] : List UInt8) (by decide) (by first | omega | decide | (simp only [List.length_append, List.length_singleton]; omega)) w26) ?_
          rintro _ w31 ⟨A30, c30, b30, rfl, hr30, hn⟩
          refine ⟨_, rfl, ?_⟩
          intro a32 he32
          have hH31 := hH26.call hn
          clear he29 a29 hH26
          clear hn
          refine lV (Value.tuple #[Value.slice A30 (lst ([] : List UInt8)).length c30, Value.bool true]) he32 rfl rfl (wanted_plain rfl _) (rn_mv rfl (he32.op rfl) w31) ?_
          intro a33 he33
          clear he32 a32
          refine lV (Value.slice A30 (lst ([] : List UInt8)).length c30) he33 rfl rfl (wanted_plain rfl _) (rn_ext rfl (he33.op rfl) rfl w31) ?_
          intro a34 he34
          clear he33 a33
          refine lV (Value.bool true) he34 rfl rfl (wanted_plain rfl _) (rn_ext rfl (he34.op rfl) rfl w31) ?_
          intro a35 he35
          clear he34 a34
          refine lV (Value.slice A30 (lst ([] : List UInt8)).length c30) he35 rfl rfl (wanted_plain rfl _) (rn_asg rfl (he35.op rfl) w31) ?_
          intro a36 he36
          clear he35 a35
          refine lV (Value.bool true) he36 rfl rfl (wanted_plain rfl _) (rn_asg rfl (he36.op rfl) w31) ?_
          intro a37 he37
          clear he36 a36
          refine wpList_nil ?_
          refine then_ok ?_
          refine wp_seq ?_
          refine wp_region_lit ?_
          refine lV (Value.pointer (some ⟨p, 0, none⟩)) he37 rfl rfl (wanted_plain rfl _) (rn_mv rfl (he37.op rfl) w31) ?_
          intro a38 he38
          clear he37 a37
          refine lCx he38 rfl rfl Tryd.func23 (by kernel_rfl) rfl rfl (wanted_plain rfl _) rfl (List_c p (say []) w31 (hH31.at (i := 0) rfl)) ?_
          rintro _ w39 ⟨q39, rfl, hq_, hB_, hn⟩
          replace hr30 := hr30.new hn
          have hH40 : Hp w [⟨q39, 3, (ivs ((say []).take 16)).toArray⟩, ⟨p, 39, (cbF (say []))⟩] w39 := hH31.cons hn hq_ hB_
          refine ⟨_, rfl, ?_⟩
          intro a41 he41
          clear he38 a38 hH31 hn hq_ hB_
          refine lV (Value.slice (some ⟨q39, 0, none⟩) ((say []).take 16).length ((say []).take 16).length) he41 rfl rfl (wanted_plain rfl _) (rn_asg rfl (he41.op rfl) w39) ?_
          intro a42 he42
          clear he41 a41
          refine wpList_nil ?_
          refine then_ok ?_
          refine wp_seq ?_
          refine wp_seq ?_
          refine wp_region_lit ?_
          refine lV (Value.slice (some ⟨q39, 0, none⟩) ((say []).take 16).length ((say []).take 16).length) he42 rfl rfl (wanted_plain rfl _) (rn_mv rfl (he42.op rfl) w39) ?_
          intro a43 he43
          clear he42 a42
          refine lV (Value.slice A30 (lst ([] : List UInt8)).length c30) he43 rfl rfl (wanted_plain rfl _) (rn_mv rfl (he43.op rfl) w39) ?_
          intro a44 he44
          clear he43 a43
          refine lC he44 rfl rfl Tryd.func24 (by kernel_rfl) rfl rfl (wanted_plain rfl _) rfl (Same_c (some ⟨q39, 0, none⟩) (((say []).take 16).length) q39 ((say []).take 16) A30 c30 b30 (lst ([] : List UInt8)) true (decide_eq_true rfl) (by rw [List.length_take]; omega) (by rw [lst_len]; omega) w39 (rd_own (l := ((say []).take 16)) (hH40.at (i := 0) rfl)) hr30) ?_
          intro w45 a46 hn he46
          have hH45 := hH40.call hn
          replace hr30 := hr30.new hn
          clear he44 a44 hH40 hn
          refine lV (Value.bool false) he46 rfl rfl (wanted_plain rfl _) (rn_not (b := true) rfl (he46.op rfl) w45) ?_
          intro a47 he47
          clear he46 a46
          refine wpList_nil ?_
          refine then_ok ?_
          refine wp_cond_false (he47.op rfl) ?_
          refine wp_skip ?_
          refine then_ok ?_
          refine wp_seq ?_
          refine wp_region_lit ?_
          refine lV (Value.slice (some ⟨q39, 0, none⟩) ((say []).take 16).length ((say []).take 16).length) he47 rfl rfl (wanted_plain rfl _) (rn_mv rfl (he47.op rfl) w45) ?_
          intro a48 he48
          clear he47 a47
          refine lV (Value.int .i64 ((((say []).take 16).length : Nat) : Int)) he48 rfl rfl (wanted_plain rfl _) (rn_lenJ rfl (he48.op rfl) w45) ?_
          intro a49 he49
          clear he48 a48
          refine lV (Value.int .i64 0) he49 rfl rfl (wanted_plain rfl _) (rn_mv rfl (he49.op rfl) w45) ?_
          intro a50 he50
          clear he49 a49
          refine wpList_nil ?_
          refine then_ok ?_
          refine wp_block ?_
          have hn16 : ((say []).take 16).length ≤ 16 := by rw [List.length_take]; omega
          refine loop_nat (fun q a w' => ∃ (k : Nat) (xs : List Int), q = ((say []).take 16).length - k ∧ k ≤ ((say []).take 16).length ∧ xs.length = ((say []).take 16).length ∧ Env 92 [(70, Value.int .i64 (k : Int)), (69, Value.int .i64 ((((say []).take 16).length : Nat) : Int)), (24, Value.int .i64 (i : Int)), (23, Value.int .i64 ((l.length : Nat) : Int)), (22, Value.slice A l.length c), (6, Value.string { data := #[] }), (5, Value.pointer (some ⟨p, 0, none⟩)), (1, Value.int .i64 at_), (0, Value.slice A l.length c), (12, Value.slice (some ⟨q39, 0, none⟩) ((say []).take 16).length ((say []).take 16).length)] a ∧ Hp w [⟨q39, 3, (ivs xs).toArray⟩, ⟨p, 39, (cbF (say []))⟩] w') _ ⟨0, ((say []).take 16), rfl, Nat.zero_le _, rfl, he50.mem ⟨rfl, rfl, rfl, rfl, rfl, rfl, rfl, rfl, rfl, rfl, trivial⟩, hH45⟩ ?_
          clear he50 hH45
          rintro q a51 w51 ⟨k, xs, rfl, hk, hx, he51, hH51⟩
          refine wp_seq ?_
          refine wp_region_lit ?_
          by_cases hb4 : (k : Int) < ((((say []).take 16).length : Nat) : Int)
          · skip
            refine lV (Value.bool true) he51 rfl rfl (wanted_plain rfl _) (rn_lsI rfl (he51.op rfl) (he51.op rfl) (decide_eq_true hb4) w51) ?_
            intro a52 he52
            clear he51 a51
            refine wpList_nil ?_
            refine then_ok ?_
            refine wp_seq ?_
            refine wp_cond_true (he52.op rfl) ?_
            refine wp_skip ?_
            refine then_ok ?_
            refine wp_seq ?_
            refine wp_block ?_
            refine wp_seq ?_
            refine wp_region_lit ?_
            refine lV (Value.int .i64 (k : Int)) he52 rfl rfl (wanted_plain rfl _) (rn_mv rfl (he52.op rfl) w51) ?_
            intro a53 he53
            clear he52 a52
            refine lV (Value.int .i64 (k : Int)) he53 rfl rfl (wanted_plain rfl _) (rn_asg rfl (he53.op rfl) w51) ?_
            intro a54 he54
            clear he53 a53
            refine wpList_nil ?_
            refine then_ok ?_
            refine wp_region_lit ?_
            refine lV (Value.slice (some ⟨q39, 0, none⟩) ((say []).take 16).length ((say []).take 16).length) he54 rfl rfl (wanted_plain rfl _) (rn_mv rfl (he54.op rfl) w51) ?_
            intro a55 he55
            clear he54 a54
            refine lV (Value.int .i64 (k : Int)) he55 rfl rfl (wanted_plain rfl _) (rn_mv rfl (he55.op rfl) w51) ?_
            intro a56 he56
            clear he55 a55
            refine lV (Value.pointer (some ⟨q39, k, none⟩)) he56 rfl rfl (wanted_plain rfl _) (rn_ixDJ (k := k) rfl (he56.op rfl) (he56.op rfl) rfl (by omega) w51) ?_
            intro a57 he57
            clear he56 a56
            refine lV (Value.int .i64 (xs.getD k 0)) he57 rfl rfl (wanted_plain rfl _) (rn_ldD (k := k) rfl (he57.op rfl) (hH51.at (i := 0) rfl) (getD_at (by omega))) ?_
            intro a58 he58
            clear he57 a57
            refine lV (Value.int .i64 (IntKind.i64.wrap ((xs.getD k 0) + 1))) he58 rfl rfl (wanted_plain rfl _) (rn_addI rfl (he58.op rfl) (he58.op rfl) rfl w51) ?_
            intro a59 he59
            clear he58 a58
            refine lV (Value.pointer (some ⟨q39, k, none⟩)) he59 rfl rfl (wanted_plain rfl _) (rn_ixDJ (k := k) rfl (he59.op rfl) (he59.op rfl) rfl (by omega) w51) ?_
            intro a60 he60
            clear he59 a59
            refine lSetD 0 (cs := (ivs (xs.set k (IntKind.i64.wrap ((xs.getD k 0) + 1)))).toArray) he60 hH51 rfl (wanted_plain rfl _) rfl rfl rfl rfl rfl infoI1 rfl (ivs_size (by omega)) (set_cb _ _ _) ?_
            intro w61 a62 hH61 hf he62
            replace hH61 : Hp w [⟨q39, 3, (ivs (xs.set k (IntKind.i64.wrap ((xs.getD k 0) + 1)))).toArray⟩, ⟨p, 39, (cbF (say []))⟩] w61 := hH61
            clear hf
            clear he60 a60 hH51
            refine wpList_nil ?_
            refine block_ok ?_
            refine then_ok ?_
            refine wp_region_lit ?_
            refine lV (Value.int .i64 ((k + 1 : Nat) : Int)) he62 rfl rfl (wanted_plain rfl _) (rn_addI rfl (he62.op rfl) (he62.op rfl) (by rw [i64w (by omega) (by omega)]; omega) w61) ?_
            intro a63 he63
            clear he62 a62
            refine lV (Value.int .i64 ((k + 1 : Nat) : Int)) he63 rfl rfl (wanted_plain rfl _) (rn_mv rfl (he63.op rfl) w61) ?_
            intro a64 he64
            clear he63 a63
            refine wpList_nil ?_
            refine then_ok ?_
            exact ⟨((say []).take 16).length - (k + 1), by omega, k + 1, xs.set k (IntKind.i64.wrap ((xs.getD k 0) + 1)), rfl, by omega, by rw [List.length_set]; exact hx, he64.mem ⟨rfl, rfl, rfl, rfl, rfl, rfl, rfl, rfl, rfl, rfl, trivial⟩, hH61⟩
          · skip
            refine lV (Value.bool false) he51 rfl rfl (wanted_plain rfl _) (rn_lsI rfl (he51.op rfl) (he51.op rfl) (decide_eq_false hb4) w51) ?_
            intro a52 he52
            clear he51 a51
            refine wpList_nil ?_
            refine then_ok ?_
            refine wp_seq ?_
            refine wp_cond_false (he52.op rfl) ?_
            refine wp_exit ?_
            refine then_exit ?_
            refine then_exit ?_
            refine block_exit ?_
            refine block_ok ?_
            refine then_ok ?_
            have hH53 := hH51.tail rfl
            clear hH51
            refine wp_region_lit ?_
            refine lV (Value.int .i64 ((i + 1 : Nat) : Int)) he52 rfl rfl (wanted_plain rfl _) (rn_addI rfl (he52.op rfl) (he52.op rfl) (by rw [i64w (by omega) (by omega)]; omega) w51) ?_
            intro a54 he54
            clear he52 a52
            refine lV (Value.int .i64 ((i + 1 : Nat) : Int)) he54 rfl rfl (wanted_plain rfl _) (rn_mv rfl (he54.op rfl) w51) ?_
            intro a55 he55
            clear he54 a54
            refine wpList_nil ?_
            refine then_ok ?_
            exact ⟨l.length - (i + 1), by omega, i + 1, p, [], rfl, by omega, (fun c hc => by cases hc), (by first | omega | exact Nat.zero_le _ | (simp only [List.length_append, List.length_singleton]; omega)), he55.mem ⟨rfl, rfl, rfl, rfl, rfl, rfl, rfl, trivial⟩, hH53⟩
        · skip
          refine lV (Value.bool false) he23 rfl rfl (wanted_plain rfl _) (rn_lsR rfl (he23.op rfl) (he23.op rfl) (decide_eq_false hb3) w13) ?_
          intro a24 he24
          clear he23 a23
          refine wpList_nil ?_
          refine then_ok ?_
          refine wp_cond_false (he24.op rfl) ?_
          refine wp_seq ?_
          refine wp_seq ?_
          refine wp_region_lit ?_
          refine lV (Value.pointer (some ⟨p, 0, none⟩)) he24 rfl rfl (wanted_plain rfl _) (rn_mv rfl (he24.op rfl) w13) ?_
          intro a25 he25
          clear he24 a24
          refine lV (Value.int .i32 (l.getD i 0)) he25 rfl rfl (wanted_plain rfl _) (rn_mv rfl (he25.op rfl) w13) ?_
          intro a26 he26
          clear he25 a25
          by_cases hb4 : fineI (l.getD i 0)
          · skip
            obtain ⟨ch, hce, hcf⟩ := fineI_c hb4
            refine lCx he26 rfl rfl Tryd.func20 (by kernel_rfl) rfl rfl (wanted_plain rfl _) rfl (Add_k p s ch (l.getD i 0) hce hcf hfs w13 (hH13.at (i := 0) rfl)) ?_
            rintro _ w27 ⟨rfl, hf, hB_⟩
            have hH27 : Hp w [⟨p, 39, (cbF (say (s ++ [ch])))⟩] w27 := hH13.turn 0 rfl hf hB_ rfl
            refine ⟨_, rfl, ?_⟩
            intro a28 he28
            clear he26 a26 hH13 hf hB_
            refine lV (Value.int .i32 (l.getD i 0)) he28 rfl rfl (wanted_plain rfl _) (rn_mv rfl (he28.op rfl) w27) ?_
            intro a29 he29
            clear he28 a28
            refine lC he29 rfl rfl Tryd.func22 (by kernel_rfl) rfl rfl (wanted_plain rfl _) rfl (Fine_c (l.getD i 0) true (decide_eq_true hb4) w27) ?_
            intro w30 a31 hn he31
            have hH30 := hH27.call hn
            clear he29 a29 hH27 hn
            refine lV (Value.bool false) he31 rfl rfl (wanted_plain rfl _) (rn_neB (i := true) (j := true) rfl (he31.op rfl) (he31.op rfl) rfl w30) ?_
            intro a32 he32
            clear he31 a31
            refine wpList_nil ?_
            refine then_ok ?_
            refine wp_cond_false (he32.op rfl) ?_
            refine wp_skip ?_
            refine then_ok ?_
            refine wp_seq ?_
            refine wp_region_lit ?_
            refine lV (Value.int .i32 (l.getD i 0)) he32 rfl rfl (wanted_plain rfl _) (rn_mv rfl (he32.op rfl) w30) ?_
            intro a33 he33
            clear he32 a32
            refine lC he33 rfl rfl Tryd.func22 (by kernel_rfl) rfl rfl (wanted_plain rfl _) rfl (Fine_c (l.getD i 0) true (decide_eq_true hb4) w30) ?_
            intro w34 a35 hn he35
            have hH34 := hH30.call hn
            clear he33 a33 hH30 hn
            refine wpList_nil ?_
            refine then_ok ?_
            refine wp_cond_true (he35.op rfl) ?_
            refine wp_region_lit ?_
            refine lV (Value.string (bs s)) he35 rfl rfl (wanted_plain rfl _) (rn_mv rfl (he35.op rfl) w34) ?_
            intro a36 he36
            clear he35 a35
            refine lV (Value.int .i32 (l.getD i 0)) he36 rfl rfl (wanted_plain rfl _) (rn_mv rfl (he36.op rfl) w34) ?_
            intro a37 he37
            clear he36 a36
            refine lV (Value.string (bs [ch])) he37 rfl rfl (wanted_plain rfl _) (rn_cvRS (c := ch) rfl (he37.op rfl) hce (by omega) w34) ?_
            intro a38 he38
            clear he37 a37
            refine lV (Value.string (bs (s ++ [ch]))) he38 rfl rfl (wanted_plain rfl _) (rn_addS (a := s) (c := [ch]) rfl (he38.op rfl) (he38.op rfl) (by first | decide | omega | (simp only [List.length_append, List.length_cons, List.length_nil]; omega)) rfl w34) ?_
            intro a39 he39
            clear he38 a38
            refine lV (Value.string (bs (s ++ [ch]))) he39 rfl rfl (wanted_plain rfl _) (rn_asg rfl (he39.op rfl) w34) ?_
            intro a40 he40
            clear he39 a39
            refine wpList_nil ?_
            refine then_ok ?_
            refine wp_seq ?_
            refine wp_region_lit ?_
            refine lV (Value.string (bs (s ++ [ch]))) he40 rfl rfl (wanted_plain rfl _) (rn_mv rfl (he40.op rfl) w34) ?_
            intro a41 he41
            clear he40 a40
            refine lCx he41 rfl rfl Tryd.func18 (by kernel_rfl) rfl rfl (wanted_plain rfl _) rfl (RParse_yes (s ++ [ch]) (fine_snoc hfs hcf) (by first | omega | decide | (simp only [List.length_append, List.length_singleton]; omega)) w34) ?_
            rintro _ w43 ⟨A42, c42, b42, rfl, hr42, hn⟩
            refine ⟨_, rfl, ?_⟩
            intro a44 he44
            have hH43 := hH34.call hn
            clear he41 a41 hH34
            clear hn
            refine lV (Value.tuple #[Value.slice A42 (lst (s ++ [ch])).length c42, Value.bool true]) he44 rfl rfl (wanted_plain rfl _) (rn_mv rfl (he44.op rfl) w43) ?_
            intro a45 he45
            clear he44 a44
            refine lV (Value.slice A42 (lst (s ++ [ch])).length c42) he45 rfl rfl (wanted_plain rfl _) (rn_ext rfl (he45.op rfl) rfl w43) ?_
            intro a46 he46
            clear he45 a45
            refine lV (Value.bool true) he46 rfl rfl (wanted_plain rfl _) (rn_ext rfl (he46.op rfl) rfl w43) ?_
            intro a47 he47
            clear he46 a46
            refine lV (Value.slice A42 (lst (s ++ [ch])).length c42) he47 rfl rfl (wanted_plain rfl _) (rn_asg rfl (he47.op rfl) w43) ?_
            intro a48 he48
            clear he47 a47
            refine lV (Value.bool true) he48 rfl rfl (wanted_plain rfl _) (rn_asg rfl (he48.op rfl) w43) ?_
            intro a49 he49
            clear he48 a48
            refine wpList_nil ?_
            refine then_ok ?_
            refine wp_seq ?_
            refine wp_region_lit ?_
            refine lV (Value.pointer (some ⟨p, 0, none⟩)) he49 rfl rfl (wanted_plain rfl _) (rn_mv rfl (he49.op rfl) w43) ?_
            intro a50 he50
            clear he49 a49
            refine lCx he50 rfl rfl Tryd.func23 (by kernel_rfl) rfl rfl (wanted_plain rfl _) rfl (List_c p (say (s ++ [ch])) w43 (hH43.at (i := 0) rfl)) ?_
            rintro _ w51 ⟨q51, rfl, hq_, hB_, hn⟩
            replace hr42 := hr42.new hn
            have hH52 : Hp w [⟨q51, 3, (ivs ((say (s ++ [ch])).take 16)).toArray⟩, ⟨p, 39, (cbF (say (s ++ [ch])))⟩] w51 := hH43.cons hn hq_ hB_
            refine ⟨_, rfl, ?_⟩
            intro a53 he53
            clear he50 a50 hH43 hn hq_ hB_
            refine lV (Value.slice (some ⟨q51, 0, none⟩) ((say (s ++ [ch])).take 16).length ((say (s ++ [ch])).take 16).length) he53 rfl rfl (wanted_plain rfl _) (rn_asg rfl (he53.op rfl) w51) ?_
            intro a54 he54
            clear he53 a53
            refine wpList_nil ?_
            refine then_ok ?_
            refine wp_seq ?_
            refine wp_seq ?_
            refine wp_region_lit ?_
            refine lV (Value.slice (some ⟨q51, 0, none⟩) ((say (s ++ [ch])).take 16).length ((say (s ++ [ch])).take 16).length) he54 rfl rfl (wanted_plain rfl _) (rn_mv rfl (he54.op rfl) w51) ?_
            intro a55 he55
            clear he54 a54
            refine lV (Value.slice A42 (lst (s ++ [ch])).length c42) he55 rfl rfl (wanted_plain rfl _) (rn_mv rfl (he55.op rfl) w51) ?_
            intro a56 he56
            clear he55 a55
            refine lC he56 rfl rfl Tryd.func24 (by kernel_rfl) rfl rfl (wanted_plain rfl _) rfl (Same_c (some ⟨q51, 0, none⟩) (((say (s ++ [ch])).take 16).length) q51 ((say (s ++ [ch])).take 16) A42 c42 b42 (lst (s ++ [ch])) true (decide_eq_true rfl) (by rw [List.length_take]; omega) (by rw [lst_len]; omega) w51 (rd_own (l := ((say (s ++ [ch])).take 16)) (hH52.at (i := 0) rfl)) hr42) ?_
            intro w57 a58 hn he58
            have hH57 := hH52.call hn
            replace hr42 := hr42.new hn
            clear he56 a56 hH52 hn
            refine lV (Value.bool false) he58 rfl rfl (wanted_plain rfl _) (rn_not (b := true) rfl (he58.op rfl) w57) ?_
            intro a59 he59
            clear he58 a58
            refine wpList_nil ?_
            refine then_ok ?_
            refine wp_cond_false (he59.op rfl) ?_
            refine wp_skip ?_
            refine then_ok ?_
            refine wp_seq ?_
            refine wp_region_lit ?_
            refine lV (Value.slice (some ⟨q51, 0, none⟩) ((say (s ++ [ch])).take 16).length ((say (s ++ [ch])).take 16).length) he59 rfl rfl (wanted_plain rfl _) (rn_mv rfl (he59.op rfl) w57) ?_
            intro a60 he60
            clear he59 a59
            refine lV (Value.int .i64 ((((say (s ++ [ch])).take 16).length : Nat) : Int)) he60 rfl rfl (wanted_plain rfl _) (rn_lenJ rfl (he60.op rfl) w57) ?_
            intro a61 he61
            clear he60 a60
            refine lV (Value.int .i64 0) he61 rfl rfl (wanted_plain rfl _) (rn_mv rfl (he61.op rfl) w57) ?_
            intro a62 he62
            clear he61 a61
            refine wpList_nil ?_
            refine then_ok ?_
            refine wp_block ?_
            have hn16 : ((say (s ++ [ch])).take 16).length ≤ 16 := by rw [List.length_take]; omega
            refine loop_nat (fun q a w' => ∃ (k : Nat) (xs : List Int), q = ((say (s ++ [ch])).take 16).length - k ∧ k ≤ ((say (s ++ [ch])).take 16).length ∧ xs.length = ((say (s ++ [ch])).take 16).length ∧ Env 92 [(70, Value.int .i64 (k : Int)), (69, Value.int .i64 ((((say (s ++ [ch])).take 16).length : Nat) : Int)), (24, Value.int .i64 (i : Int)), (23, Value.int .i64 ((l.length : Nat) : Int)), (22, Value.slice A l.length c), (6, Value.string (bs (s ++ [ch]))), (5, Value.pointer (some ⟨p, 0, none⟩)), (1, Value.int .i64 at_), (0, Value.slice A l.length c), (12, Value.slice (some ⟨q51, 0, none⟩) ((say (s ++ [ch])).take 16).length ((say (s ++ [ch])).take 16).length)] a ∧ Hp w [⟨q51, 3, (ivs xs).toArray⟩, ⟨p, 39, (cbF (say (s ++ [ch])))⟩] w') _ ⟨0, ((say (s ++ [ch])).take 16), rfl, Nat.zero_le _, rfl, he62.mem ⟨rfl, rfl, rfl, rfl, rfl, rfl, rfl, rfl, rfl, rfl, trivial⟩, hH57⟩ ?_
            clear he62 hH57
            rintro q a63 w63 ⟨k, xs, rfl, hk, hx, he63, hH63⟩
            refine wp_seq ?_
            refine wp_region_lit ?_
            by_cases hb5 : (k : Int) < ((((say (s ++ [ch])).take 16).length : Nat) : Int)
            · skip
              refine lV (Value.bool true) he63 rfl rfl (wanted_plain rfl _) (rn_lsI rfl (he63.op rfl) (he63.op rfl) (decide_eq_true hb5) w63) ?_
              intro a64 he64
              clear he63 a63
              refine wpList_nil ?_
              refine then_ok ?_
              refine wp_seq ?_
              refine wp_cond_true (he64.op rfl) ?_
              refine wp_skip ?_
              refine then_ok ?_
              refine wp_seq ?_
              refine wp_block ?_
              refine wp_seq ?_
              refine wp_region_lit ?_
              refine lV (Value.int .i64 (k : Int)) he64 rfl rfl (wanted_plain rfl _) (rn_mv rfl (he64.op rfl) w63) ?_
              intro a65 he65
              clear he64 a64
              refine lV (Value.int .i64 (k : Int)) he65 rfl rfl (wanted_plain rfl _) (rn_asg rfl (he65.op rfl) w63) ?_
              intro a66 he66
              clear he65 a65
              refine wpList_nil ?_
              refine then_ok ?_
              refine wp_region_lit ?_
              refine lV (Value.slice (some ⟨q51, 0, none⟩) ((say (s ++ [ch])).take 16).length ((say (s ++ [ch])).take 16).length) he66 rfl rfl (wanted_plain rfl _) (rn_mv rfl (he66.op rfl) w63) ?_
              intro a67 he67
              clear he66 a66
              refine lV (Value.int .i64 (k : Int)) he67 rfl rfl (wanted_plain rfl _) (rn_mv rfl (he67.op rfl) w63) ?_
              intro a68 he68
              clear he67 a67
              refine lV (Value.pointer (some ⟨q51, k, none⟩)) he68 rfl rfl (wanted_plain rfl _) (rn_ixDJ (k := k) rfl (he68.op rfl) (he68.op rfl) rfl (by omega) w63) ?_
              intro a69 he69
              clear he68 a68
              refine lV (Value.int .i64 (xs.getD k 0)) he69 rfl rfl (wanted_plain rfl _) (rn_ldD (k := k) rfl (he69.op rfl) (hH63.at (i := 0) rfl) (getD_at (by omega))) ?_
              intro a70 he70
              clear he69 a69
              refine lV (Value.int .i64 (IntKind.i64.wrap ((xs.getD k 0) + 1))) he70 rfl rfl (wanted_plain rfl _) (rn_addI rfl (he70.op rfl) (he70.op rfl) rfl w63) ?_
              intro a71 he71
              clear he70 a70
              refine lV (Value.pointer (some ⟨q51, k, none⟩)) he71 rfl rfl (wanted_plain rfl _) (rn_ixDJ (k := k) rfl (he71.op rfl) (he71.op rfl) rfl (by omega) w63) ?_
              intro a72 he72
              clear he71 a71
              refine lSetD 0 (cs := (ivs (xs.set k (IntKind.i64.wrap ((xs.getD k 0) + 1)))).toArray) he72 hH63 rfl (wanted_plain rfl _) rfl rfl rfl rfl rfl infoI1 rfl (ivs_size (by omega)) (set_cb _ _ _) ?_
              intro w73 a74 hH73 hf he74
              replace hH73 : Hp w [⟨q51, 3, (ivs (xs.set k (IntKind.i64.wrap ((xs.getD k 0) + 1)))).toArray⟩, ⟨p, 39, (cbF (say (s ++ [ch])))⟩] w73 := hH73
              clear hf
              clear he72 a72 hH63
              refine wpList_nil ?_
              refine block_ok ?_
              refine then_ok ?_
              refine wp_region_lit ?_
              refine lV (Value.int .i64 ((k + 1 : Nat) : Int)) he74 rfl rfl (wanted_plain rfl _) (rn_addI rfl (he74.op rfl) (he74.op rfl) (by rw [i64w (by omega) (by omega)]; omega) w73) ?_
              intro a75 he75
              clear he74 a74
              refine lV (Value.int .i64 ((k + 1 : Nat) : Int)) he75 rfl rfl (wanted_plain rfl _) (rn_mv rfl (he75.op rfl) w73) ?_
              intro a76 he76
              clear he75 a75
              refine wpList_nil ?_
              refine then_ok ?_
              exact ⟨((say (s ++ [ch])).take 16).length - (k + 1), by omega, k + 1, xs.set k (IntKind.i64.wrap ((xs.getD k 0) + 1)), rfl, by omega, by rw [List.length_set]; exact hx, he76.mem ⟨rfl, rfl, rfl, rfl, rfl, rfl, rfl, rfl, rfl, rfl, trivial⟩, hH73⟩
            · skip
              refine lV (Value.bool false) he63 rfl rfl (wanted_plain rfl _) (rn_lsI rfl (he63.op rfl) (he63.op rfl) (decide_eq_false hb5) w63) ?_
              intro a64 he64
              clear he63 a63
              refine wpList_nil ?_
              refine then_ok ?_
              refine wp_seq ?_
              refine wp_cond_false (he64.op rfl) ?_
              refine wp_exit ?_
              refine then_exit ?_
              refine then_exit ?_
              refine block_exit ?_
              refine block_ok ?_
              refine then_ok ?_
              have hH65 := hH63.tail rfl
              clear hH63
              refine wp_region_lit ?_
              refine lV (Value.int .i64 ((i + 1 : Nat) : Int)) he64 rfl rfl (wanted_plain rfl _) (rn_addI rfl (he64.op rfl) (he64.op rfl) (by rw [i64w (by omega) (by omega)]; omega) w63) ?_
              intro a66 he66
              clear he64 a64
              refine lV (Value.int .i64 ((i + 1 : Nat) : Int)) he66 rfl rfl (wanted_plain rfl _) (rn_mv rfl (he66.op rfl) w63) ?_
              intro a67 he67
              clear he66 a66
              refine wpList_nil ?_
              refine then_ok ?_
              exact ⟨l.length - (i + 1), by omega, i + 1, p, (s ++ [ch]), rfl, by omega, (fine_snoc hfs hcf), (by first | omega | exact Nat.zero_le _ | (simp only [List.length_append, List.length_singleton]; omega)), he67.mem ⟨rfl, rfl, rfl, rfl, rfl, rfl, rfl, trivial⟩, hH65⟩
          · skip
            refine lC he26 rfl rfl Tryd.func20 (by kernel_rfl) rfl rfl (wanted_plain rfl _) rfl (AddNo_c p (l.getD i 0) hb4 w13) ?_
            intro w27 a28 hn he28
            have hH27 := hH13.call hn
            clear he26 a26 hH13 hn
            refine lV (Value.int .i32 (l.getD i 0)) he28 rfl rfl (wanted_plain rfl _) (rn_mv rfl (he28.op rfl) w27) ?_
            intro a29 he29
            clear he28 a28
            refine lC he29 rfl rfl Tryd.func22 (by kernel_rfl) rfl rfl (wanted_plain rfl _) rfl (Fine_c (l.getD i 0) false (decide_eq_false hb4) w27) ?_
            intro w30 a31 hn he31
            have hH30 := hH27.call hn
            clear he29 a29 hH27 hn
            refine lV (Value.bool false) he31 rfl rfl (wanted_plain rfl _) (rn_neB (i := false) (j := false) rfl (he31.op rfl) (he31.op rfl) rfl w30) ?_
            intro a32 he32
            clear he31 a31
            refine wpList_nil ?_
            refine then_ok ?_
            refine wp_cond_false (he32.op rfl) ?_
            refine wp_skip ?_
            refine then_ok ?_
            refine wp_seq ?_
            refine wp_region_lit ?_
            refine lV (Value.int .i32 (l.getD i 0)) he32 rfl rfl (wanted_plain rfl _) (rn_mv rfl (he32.op rfl) w30) ?_
            intro a33 he33
            clear he32 a32
            refine lC he33 rfl rfl Tryd.func22 (by kernel_rfl) rfl rfl (wanted_plain rfl _) rfl (Fine_c (l.getD i 0) false (decide_eq_false hb4) w30) ?_
            intro w34 a35 hn he35
            have hH34 := hH30.call hn
            clear he33 a33 hH30 hn
            refine wpList_nil ?_
            refine then_ok ?_
            refine wp_cond_false (he35.op rfl) ?_
            refine wp_skip ?_
            refine then_ok ?_
            refine wp_seq ?_
            refine wp_region_lit ?_
            refine lV (Value.string (bs s)) he35 rfl rfl (wanted_plain rfl _) (rn_mv rfl (he35.op rfl) w34) ?_
            intro a36 he36
            clear he35 a35
            refine lCx he36 rfl rfl Tryd.func18 (by kernel_rfl) rfl rfl (wanted_plain rfl _) rfl (RParse_yes s hfs (by first | omega | decide | (simp only [List.length_append, List.length_singleton]; omega)) w34) ?_
            rintro _ w38 ⟨A37, c37, b37, rfl, hr37, hn⟩
            refine ⟨_, rfl, ?_⟩
            intro a39 he39
            have hH38 := hH34.call hn
            clear he36 a36 hH34
            clear hn
            refine lV (Value.tuple #[Value.slice A37 (lst s).length c37, Value.bool true]) he39 rfl rfl (wanted_plain rfl _) (rn_mv rfl (he39.op rfl) w38) ?_
            intro a40 he40
            clear he39 a39
            refine lV (Value.slice A37 (lst s).length c37) he40 rfl rfl (wanted_plain rfl _) (rn_ext rfl (he40.op rfl) rfl w38) ?_
            intro a41 he41
            clear he40 a40
            refine lV (Value.bool true) he41 rfl rfl (wanted_plain rfl _) (rn_ext rfl (he41.op rfl) rfl w38) ?_
            intro a42 he42
            clear he41 a41
            refine lV (Value.slice A37 (lst s).length c37) he42 rfl rfl (wanted_plain rfl _) (rn_asg rfl (he42.op rfl) w38) ?_
            intro a43 he43
            clear he42 a42
            refine lV (Value.bool true) he43 rfl rfl (wanted_plain rfl _) (rn_asg rfl (he43.op rfl) w38) ?_
            intro a44 he44
            clear he43 a43
            refine wpList_nil ?_
            refine then_ok ?_
            refine wp_seq ?_
            refine wp_region_lit ?_
            refine lV (Value.pointer (some ⟨p, 0, none⟩)) he44 rfl rfl (wanted_plain rfl _) (rn_mv rfl (he44.op rfl) w38) ?_
            intro a45 he45
            clear he44 a44
            refine lCx he45 rfl rfl Tryd.func23 (by kernel_rfl) rfl rfl (wanted_plain rfl _) rfl (List_c p (say s) w38 (hH38.at (i := 0) rfl)) ?_
            rintro _ w46 ⟨q46, rfl, hq_, hB_, hn⟩
            replace hr37 := hr37.new hn
            have hH47 : Hp w [⟨q46, 3, (ivs ((say s).take 16)).toArray⟩, ⟨p, 39, (cbF (say s))⟩] w46 := hH38.cons hn hq_ hB_
            refine ⟨_, rfl, ?_⟩
            intro a48 he48
            clear he45 a45 hH38 hn hq_ hB_
            refine lV (Value.slice (some ⟨q46, 0, none⟩) ((say s).take 16).length ((say s).take 16).length) he48 rfl rfl (wanted_plain rfl _) (rn_asg rfl (he48.op rfl) w46) ?_
            intro a49 he49
            clear he48 a48
            refine wpList_nil ?_
            refine then_ok ?_
            refine wp_seq ?_
            refine wp_seq ?_
            refine wp_region_lit ?_
            refine lV (Value.slice (some ⟨q46, 0, none⟩) ((say s).take 16).length ((say s).take 16).length) he49 rfl rfl (wanted_plain rfl _) (rn_mv rfl (he49.op rfl) w46) ?_
            intro a50 he50
            clear he49 a49
            refine lV (Value.slice A37 (lst s).length c37) he50 rfl rfl (wanted_plain rfl _) (rn_mv rfl (he50.op rfl) w46) ?_
            intro a51 he51
            clear he50 a50
            refine lC he51 rfl rfl Tryd.func24 (by kernel_rfl) rfl rfl (wanted_plain rfl _) rfl (Same_c (some ⟨q46, 0, none⟩) (((say s).take 16).length) q46 ((say s).take 16) A37 c37 b37 (lst s) true (decide_eq_true rfl) (by rw [List.length_take]; omega) (by rw [lst_len]; omega) w46 (rd_own (l := ((say s).take 16)) (hH47.at (i := 0) rfl)) hr37) ?_
            intro w52 a53 hn he53
            have hH52 := hH47.call hn
            replace hr37 := hr37.new hn
            clear he51 a51 hH47 hn
            refine lV (Value.bool false) he53 rfl rfl (wanted_plain rfl _) (rn_not (b := true) rfl (he53.op rfl) w52) ?_
            intro a54 he54
            clear he53 a53
            refine wpList_nil ?_
            refine then_ok ?_
            refine wp_cond_false (he54.op rfl) ?_
            refine wp_skip ?_
            refine then_ok ?_
            refine wp_seq ?_
            refine wp_region_lit ?_
            refine lV (Value.slice (some ⟨q46, 0, none⟩) ((say s).take 16).length ((say s).take 16).length) he54 rfl rfl (wanted_plain rfl _) (rn_mv rfl (he54.op rfl) w52) ?_
            intro a55 he55
            clear he54 a54
            refine lV (Value.int .i64 ((((say s).take 16).length : Nat) : Int)) he55 rfl rfl (wanted_plain rfl _) (rn_lenJ rfl (he55.op rfl) w52) ?_
            intro a56 he56
            clear he55 a55
            refine lV (Value.int .i64 0) he56 rfl rfl (wanted_plain rfl _) (rn_mv rfl (he56.op rfl) w52) ?_
            intro a57 he57
            clear he56 a56
            refine wpList_nil ?_
            refine then_ok ?_
            refine wp_block ?_
            have hn16 : ((say s).take 16).length ≤ 16 := by rw [List.length_take]; omega
            refine loop_nat (fun q a w' => ∃ (k : Nat) (xs : List Int), q = ((say s).take 16).length - k ∧ k ≤ ((say s).take 16).length ∧ xs.length = ((say s).take 16).length ∧ Env 92 [(70, Value.int .i64 (k : Int)), (69, Value.int .i64 ((((say s).take 16).length : Nat) : Int)), (24, Value.int .i64 (i : Int)), (23, Value.int .i64 ((l.length : Nat) : Int)), (22, Value.slice A l.length c), (6, Value.string (bs s)), (5, Value.pointer (some ⟨p, 0, none⟩)), (1, Value.int .i64 at_), (0, Value.slice A l.length c), (12, Value.slice (some ⟨q46, 0, none⟩) ((say s).take 16).length ((say s).take 16).length)] a ∧ Hp w [⟨q46, 3, (ivs xs).toArray⟩, ⟨p, 39, (cbF (say s))⟩] w') _ ⟨0, ((say s).take 16), rfl, Nat.zero_le _, rfl, he57.mem ⟨rfl, rfl, rfl, rfl, rfl, rfl, rfl, rfl, rfl, rfl, trivial⟩, hH52⟩ ?_
            clear he57 hH52
            rintro q a58 w58 ⟨k, xs, rfl, hk, hx, he58, hH58⟩
            refine wp_seq ?_
            refine wp_region_lit ?_
            by_cases hb5 : (k : Int) < ((((say s).take 16).length : Nat) : Int)
            · skip
              refine lV (Value.bool true) he58 rfl rfl (wanted_plain rfl _) (rn_lsI rfl (he58.op rfl) (he58.op rfl) (decide_eq_true hb5) w58) ?_
              intro a59 he59
              clear he58 a58
              refine wpList_nil ?_
              refine then_ok ?_
              refine wp_seq ?_
              refine wp_cond_true (he59.op rfl) ?_
              refine wp_skip ?_
              refine then_ok ?_
              refine wp_seq ?_
              refine wp_block ?_
              refine wp_seq ?_
              refine wp_region_lit ?_
              refine lV (Value.int .i64 (k : Int)) he59 rfl rfl (wanted_plain rfl _) (rn_mv rfl (he59.op rfl) w58) ?_
              intro a60 he60
              clear he59 a59
              refine lV (Value.int .i64 (k : Int)) he60 rfl rfl (wanted_plain rfl _) (rn_asg rfl (he60.op rfl) w58) ?_
              intro a61 he61
              clear he60 a60
              refine wpList_nil ?_
              refine then_ok ?_
              refine wp_region_lit ?_
              refine lV (Value.slice (some ⟨q46, 0, none⟩) ((say s).take 16).length ((say s).take 16).length) he61 rfl rfl (wanted_plain rfl _) (rn_mv rfl (he61.op rfl) w58) ?_
              intro a62 he62
              clear he61 a61
              refine lV (Value.int .i64 (k : Int)) he62 rfl rfl (wanted_plain rfl _) (rn_mv rfl (he62.op rfl) w58) ?_
              intro a63 he63
              clear he62 a62
              refine lV (Value.pointer (some ⟨q46, k, none⟩)) he63 rfl rfl (wanted_plain rfl _) (rn_ixDJ (k := k) rfl (he63.op rfl) (he63.op rfl) rfl (by omega) w58) ?_
              intro a64 he64
              clear he63 a63
              refine lV (Value.int .i64 (xs.getD k 0)) he64 rfl rfl (wanted_plain rfl _) (rn_ldD (k := k) rfl (he64.op rfl) (hH58.at (i := 0) rfl) (getD_at (by omega))) ?_
              intro a65 he65
              clear he64 a64
              refine lV (Value.int .i64 (IntKind.i64.wrap ((xs.getD k 0) + 1))) he65 rfl rfl (wanted_plain rfl _) (rn_addI rfl (he65.op rfl) (he65.op rfl) rfl w58) ?_
              intro a66 he66
              clear he65 a65
              refine lV (Value.pointer (some ⟨q46, k, none⟩)) he66 rfl rfl (wanted_plain rfl _) (rn_ixDJ (k := k) rfl (he66.op rfl) (he66.op rfl) rfl (by omega) w58) ?_
              intro a67 he67
              clear he66 a66
              refine lSetD 0 (cs := (ivs (xs.set k (IntKind.i64.wrap ((xs.getD k 0) + 1)))).toArray) he67 hH58 rfl (wanted_plain rfl _) rfl rfl rfl rfl rfl infoI1 rfl (ivs_size (by omega)) (set_cb _ _ _) ?_
              intro w68 a69 hH68 hf he69
              replace hH68 : Hp w [⟨q46, 3, (ivs (xs.set k (IntKind.i64.wrap ((xs.getD k 0) + 1)))).toArray⟩, ⟨p, 39, (cbF (say s))⟩] w68 := hH68
              clear hf
              clear he67 a67 hH58
              refine wpList_nil ?_
              refine block_ok ?_
              refine then_ok ?_
              refine wp_region_lit ?_
              refine lV (Value.int .i64 ((k + 1 : Nat) : Int)) he69 rfl rfl (wanted_plain rfl _) (rn_addI rfl (he69.op rfl) (he69.op rfl) (by rw [i64w (by omega) (by omega)]; omega) w68) ?_
              intro a70 he70
              clear he69 a69
              refine lV (Value.int .i64 ((k + 1 : Nat) : Int)) he70 rfl rfl (wanted_plain rfl _) (rn_mv rfl (he70.op rfl) w68) ?_
              intro a71 he71
              clear he70 a70
              refine wpList_nil ?_
              refine then_ok ?_
              exact ⟨((say s).take 16).length - (k + 1), by omega, k + 1, xs.set k (IntKind.i64.wrap ((xs.getD k 0) + 1)), rfl, by omega, by rw [List.length_set]; exact hx, he71.mem ⟨rfl, rfl, rfl, rfl, rfl, rfl, rfl, rfl, rfl, rfl, trivial⟩, hH68⟩
            · skip
              refine lV (Value.bool false) he58 rfl rfl (wanted_plain rfl _) (rn_lsI rfl (he58.op rfl) (he58.op rfl) (decide_eq_false hb5) w58) ?_
              intro a59 he59
              clear he58 a58
              refine wpList_nil ?_
              refine then_ok ?_
              refine wp_seq ?_
              refine wp_cond_false (he59.op rfl) ?_
              refine wp_exit ?_
              refine then_exit ?_
              refine then_exit ?_
              refine block_exit ?_
              refine block_ok ?_
              refine then_ok ?_
              have hH60 := hH58.tail rfl
              clear hH58
              refine wp_region_lit ?_
              refine lV (Value.int .i64 ((i + 1 : Nat) : Int)) he59 rfl rfl (wanted_plain rfl _) (rn_addI rfl (he59.op rfl) (he59.op rfl) (by rw [i64w (by omega) (by omega)]; omega) w58) ?_
              intro a61 he61
              clear he59 a59
              refine lV (Value.int .i64 ((i + 1 : Nat) : Int)) he61 rfl rfl (wanted_plain rfl _) (rn_mv rfl (he61.op rfl) w58) ?_
              intro a62 he62
              clear he61 a61
              refine wpList_nil ?_
              refine then_ok ?_
              exact ⟨l.length - (i + 1), by omega, i + 1, p, s, rfl, by omega, hfs, (by first | omega | exact Nat.zero_le _ | (simp only [List.length_append, List.length_singleton]; omega)), he62.mem ⟨rfl, rfl, rfl, rfl, rfl, rfl, rfl, trivial⟩, hH60⟩
    · skip
      refine lV (Value.bool false) he13 rfl rfl (wanted_plain rfl _) (rn_lsI rfl (he13.op rfl) (he13.op rfl) (decide_eq_false hb1) w13) ?_
      intro a14 he14
      clear he13 a13
      refine wpList_nil ?_
      refine then_ok ?_
      refine wp_seq ?_
      refine wp_cond_false (he14.op rfl) ?_
      refine wp_exit ?_
      refine then_exit ?_
      refine then_exit ?_
      refine block_exit ?_
      refine then_ok ?_
      refine wp_seq ?_
      refine wp_region_lit ?_
      refine lV (Value.string (bs s)) he14 rfl rfl (wanted_plain rfl _) (rn_mv rfl (he14.op rfl) w13) ?_
      intro a15 he15
      clear he14 a14
      refine lCx he15 rfl rfl Tryd.func18 (by kernel_rfl) rfl rfl (wanted_plain rfl _) rfl (RParse_yes s hfs (by first | omega | decide | (simp only [List.length_append, List.length_singleton]; omega)) w13) ?_
      rintro _ w17 ⟨A16, c16, b16, rfl, hr16, hn⟩
      refine ⟨_, rfl, ?_⟩
      intro a18 he18
      have hH17 := hH13.call hn
      clear he15 a15 hH13
      clear hn
      refine lV (Value.tuple #[Value.slice A16 (lst s).length c16, Value.bool true]) he18 rfl rfl (wanted_plain rfl _) (rn_mv rfl (he18.op rfl) w17) ?_
      intro a19 he19
      clear he18 a18
      refine lV (Value.slice A16 (lst s).length c16) he19 rfl rfl (wanted_plain rfl _) (rn_ext rfl (he19.op rfl) rfl w17) ?_
      intro a20 he20
      clear he19 a19
      refine lV (Value.bool true) he20 rfl rfl (wanted_plain rfl _) (rn_ext rfl (he20.op rfl) rfl w17) ?_
      intro a21 he21
      clear he20 a20
      refine lV (Value.slice A16 (lst s).length c16) he21 rfl rfl (wanted_plain rfl _) (rn_asg rfl (he21.op rfl) w17) ?_
      intro a22 he22
      clear he21 a21
      refine lV (Value.bool true) he22 rfl rfl (wanted_plain rfl _) (rn_asg rfl (he22.op rfl) w17) ?_
      intro a23 he23
      clear he22 a22
      refine wpList_nil ?_
      refine then_ok ?_
      refine wp_seq ?_
      refine wp_region_lit ?_
      refine lV (Value.pointer (some ⟨p, 0, none⟩)) he23 rfl rfl (wanted_plain rfl _) (rn_mv rfl (he23.op rfl) w17) ?_
      intro a24 he24
      clear he23 a23
      refine lV (Value.slice A16 (lst s).length c16) he24 rfl rfl (wanted_plain rfl _) (rn_mv rfl (he24.op rfl) w17) ?_
      intro a25 he25
      clear he24 a24
      refine lC he25 rfl rfl Tryd.func25 (by kernel_rfl) rfl rfl (wanted_plain rfl _) rfl (has_c p (say s) A16 c16 b16 (lst s) true (decide_eq_true rfl) (by rw [lst_len]; omega) w17 (hH17.at (i := 0) rfl) hr16) ?_
      intro w26 a27 hn he27
      have hH26 := hH17.call hn
      replace hr16 := hr16.new hn
      clear he25 a25 hH17 hn
      refine lV (Value.bool true) he27 rfl rfl (wanted_plain rfl _) (rn_mv rfl (he27.op rfl) w26) ?_
      intro a28 he28
      clear he27 a27
      refine lC he28 rfl rfl Tryd.func9 (by kernel_rfl) rfl rfl (he28.want rfl rfl rfl rfl rfl) rfl (known_c w26 (hT.new hH26.new)) ?_
      intro w29 a30 hn he30
      have hH29 := hH26.call hn
      replace hr16 := hr16.new hn
      clear he28 a28 hH26 hn
      refine lV (Value.bool true) he30 rfl rfl (wanted_plain rfl _) (rn_pk rfl (he30.op rfl) (he30.op rfl) w29) ?_
      intro a31 he31
      clear he30 a30
      refine lV (Value.bool true) he31 rfl rfl (wanted_plain rfl _) (rn_asg rfl (he31.op rfl) w29) ?_
      intro a32 he32
      clear he31 a31
      refine wpList_nil ?_
      refine then_ok ?_
      refine wp_ret ?_
      try simp only [Exit.then, Exit.inBlock, Exit.noGoto]
      exact ret_env rfl he32 rfl ⟨by first | rfl | (exfalso; omega), hH29.new⟩
end Go.Proofs.YtpebpjkhkgakfaaDoor
