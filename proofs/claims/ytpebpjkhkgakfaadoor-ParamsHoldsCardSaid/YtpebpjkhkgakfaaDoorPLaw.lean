/-
  The law's small functions; the examples of the chapter.
-/
import Derived.Test.YtpebpjkhkgakfaaDoorPRt
namespace Go.Proofs.YtpebpjkhkgakfaaDoor
open Go.RowKit

theorem prs_len (s : List UInt8) : (prs s).1.length ≤ 16 := by
  unfold prs
  split
  · rw [lst_len]; omega
  · simp
set_option linter.unusedSimpArgs false in
set_option maxRecDepth 100000 in
set_option maxHeartbeats 1600000 in
theorem parses_c (s : List UInt8) (no : Int) (A : Option Addr) (c b : Nat) (l : List Int) (v : Bool) (hv : decide (prs s = (l, no)) = v) (hs : s.length ≤ 100000) (hl : l.length ≤ 1000000) (w : World) (hr : Rd w b A l.length (ivs l)) : Calls Tryd.prog 17 #[.string (bs s), .int .i64 no, .slice A l.length c] w fun e w' => e = .returned (.bool v) ∧ New w w' := by
  subst hv
  have hLl := prs_len s
  obtain ⟨L, er, h⟩ : ∃ L er, prs s = (L, er) := ⟨_, _, rfl⟩
  rw [h] at hLl
  simp only at hLl
  refine calls_args (vl := [Value.string (bs s), Value.int .i64 no, Value.slice A l.length c]) 22 Tryd.func17 rfl Tryd.ntmps17 (by kernel_rfl) (fun a he => ?_)
  have he0 : Env 22 [(0, Value.string (bs s)), (1, Value.int .i64 no), (2, Value.slice A l.length c)] a := he
  clear he
  have hH := Hp.start w
  refine wp_seq ?_
  refine wp_region_lit ?_
  refine lV (Value.bool false) he0 rfl rfl (wanted_plain rfl _) (rn_asg rfl (he0.op rfl) w) ?_
  intro a1 he1
  clear he0 a
  refine wpList_nil ?_
  refine then_ok ?_
  refine wp_seq ?_
  refine wp_region_lit ?_
  refine lV (Value.string (bs s)) he1 rfl rfl (wanted_plain rfl _) (rn_mv rfl (he1.op rfl) w) ?_
  intro a2 he2
  clear he1 a1
  refine lCx he2 rfl rfl Tryd.func28 (by kernel_rfl) rfl rfl (wanted_plain rfl _) rfl (Parse_c s L er h (by omega) w) ?_
  rintro _ w4 ⟨A3, c3, b3, rfl, hr3, hn⟩
  refine ⟨_, rfl, ?_⟩
  intro a5 he5
  have hH4 := hH.call hn
  clear he2 a2 hH
  clear hn
  refine lV (Value.tuple #[Value.slice A3 L.length c3, Value.int .i64 er]) he5 rfl rfl (wanted_plain rfl _) (rn_mv rfl (he5.op rfl) w4) ?_
  intro a6 he6
  clear he5 a5
  refine lV (Value.slice A3 L.length c3) he6 rfl rfl (wanted_plain rfl _) (rn_ext rfl (he6.op rfl) rfl w4) ?_
  intro a7 he7
  clear he6 a6
  refine lV (Value.int .i64 er) he7 rfl rfl (wanted_plain rfl _) (rn_ext rfl (he7.op rfl) rfl w4) ?_
  intro a8 he8
  clear he7 a7
  refine lV (Value.slice A3 L.length c3) he8 rfl rfl (wanted_plain rfl _) (rn_asg rfl (he8.op rfl) w4) ?_
  intro a9 he9
  clear he8 a8
  refine lV (Value.int .i64 er) he9 rfl rfl (wanted_plain rfl _) (rn_asg rfl (he9.op rfl) w4) ?_
  intro a10 he10
  clear he9 a9
  refine wpList_nil ?_
  refine then_ok ?_
  refine wp_seq ?_
  refine wp_region_lit ?_
  refine lV (Value.slice A3 L.length c3) he10 rfl rfl (wanted_plain rfl _) (rn_mv rfl (he10.op rfl) w4) ?_
  intro a11 he11
  clear he10 a10
  refine lV (Value.slice A l.length c) he11 rfl rfl (wanted_plain rfl _) (rn_mv rfl (he11.op rfl) w4) ?_
  intro a12 he12
  clear he11 a11
  by_cases hb0 : L = l
  · skip
    refine lC he12 rfl rfl Tryd.func24 (by kernel_rfl) rfl rfl (wanted_plain rfl _) rfl (Same_c A3 c3 b3 L A c b l true (decide_eq_true hb0) (by omega) (by omega) w4 hr3 (hr.new hH4.new)) ?_
    intro w13 a14 hn he14
    have hH13 := hH4.call hn
    replace hr3 := hr3.new hn
    clear he12 a12 hH4 hn
    refine lV (Value.bool true) he14 rfl rfl (wanted_plain rfl _) (rn_mv rfl (he14.op rfl) w13) ?_
    intro a15 he15
    clear he14 a14
    refine lV (Value.int .i64 er) he15 rfl rfl (he15.want rfl rfl rfl rfl rfl) (rn_mv rfl (he15.op rfl) w13) ?_
    intro a16 he16
    clear he15 a15
    refine lV (Value.int .i64 no) he16 rfl rfl (he16.want rfl rfl rfl rfl rfl) (rn_mv rfl (he16.op rfl) w13) ?_
    intro a17 he17
    clear he16 a16
    by_cases hb1 : er = no
    · skip
      refine lV (Value.bool true) he17 rfl rfl (he17.want rfl rfl rfl rfl rfl) (rn_eqE rfl (he17.op rfl) (he17.op rfl) (beqT hb1) w13) ?_
      intro a18 he18
      clear he17 a17
      refine lV (Value.bool true) he18 rfl rfl (wanted_plain rfl _) (rn_pk rfl (he18.op rfl) (he18.op rfl) w13) ?_
      intro a19 he19
      clear he18 a18
      refine lV (Value.bool true) he19 rfl rfl (wanted_plain rfl _) (rn_asg rfl (he19.op rfl) w13) ?_
      intro a20 he20
      clear he19 a19
      refine wpList_nil ?_
      refine then_ok ?_
      refine wp_ret ?_
      try simp only [Exit.then, Exit.inBlock, Exit.noGoto]
      exact ret_env rfl he20 rfl ⟨by (refine congrArg (fun b => Ending.returned (.bool b)) ?_; first | exact (decide_eq_true (h.trans (Prod.ext (by assumption) (by assumption)))).symm | exact (decide_eq_false (fun hh => absurd (congrArg Prod.fst (h.symm.trans hh)) (by assumption))).symm | exact (decide_eq_false (fun hh => absurd (congrArg Prod.snd (h.symm.trans hh)) (by assumption))).symm), hH13.new⟩
    · skip
      refine lV (Value.bool false) he17 rfl rfl (he17.want rfl rfl rfl rfl rfl) (rn_eqE rfl (he17.op rfl) (he17.op rfl) (beqF hb1) w13) ?_
      intro a18 he18
      clear he17 a17
      refine lV (Value.bool false) he18 rfl rfl (wanted_plain rfl _) (rn_pk rfl (he18.op rfl) (he18.op rfl) w13) ?_
      intro a19 he19
      clear he18 a18
      refine lV (Value.bool false) he19 rfl rfl (wanted_plain rfl _) (rn_asg rfl (he19.op rfl) w13) ?_
      intro a20 he20
      clear he19 a19
      refine wpList_nil ?_
      refine then_ok ?_
      refine wp_ret ?_
      try simp only [Exit.then, Exit.inBlock, Exit.noGoto]
      exact ret_env rfl he20 rfl ⟨by (refine congrArg (fun b => Ending.returned (.bool b)) ?_; first | exact (decide_eq_true (h.trans (Prod.ext (by assumption) (by assumption)))).symm | exact (decide_eq_false (fun hh => absurd (congrArg Prod.fst (h.symm.trans hh)) (by assumption))).symm | exact (decide_eq_false (fun hh => absurd (congrArg Prod.snd (h.symm.trans hh)) (by assumption))).symm), hH13.new⟩
  · skip
    refine lC he12 rfl rfl Tryd.func24 (by kernel_rfl) rfl rfl (wanted_plain rfl _) rfl (Same_c A3 c3 b3 L A c b l false (decide_eq_false hb0) (by omega) (by omega) w4 hr3 (hr.new hH4.new)) ?_
    intro w13 a14 hn he14
    have hH13 := hH4.call hn
    replace hr3 := hr3.new hn
    clear he12 a12 hH4 hn
    refine lV (Value.bool false) he14 rfl rfl (wanted_plain rfl _) (rn_mv rfl (he14.op rfl) w13) ?_
    intro a15 he15
    clear he14 a14
    refine lSkip he15 rfl rfl (he15.wantNot rfl rfl rfl rfl rfl rfl) ?_
    intro a16 he16
    clear he15 a15
    refine lSkip he16 rfl rfl (he16.wantNot rfl rfl rfl rfl rfl rfl) ?_
    intro a17 he17
    clear he16 a16
    refine lSkip he17 rfl rfl (he17.wantNot rfl rfl rfl rfl rfl rfl) ?_
    intro a18 he18
    clear he17 a17
    refine lV (Value.bool false) he18 rfl rfl (wanted_plain rfl _) (rn_pk0 rfl (he18.op rfl) (he18.op rfl) w13) ?_
    intro a19 he19
    clear he18 a18
    refine lV (Value.bool false) he19 rfl rfl (wanted_plain rfl _) (rn_asg rfl (he19.op rfl) w13) ?_
    intro a20 he20
    clear he19 a19
    refine wpList_nil ?_
    refine then_ok ?_
    refine wp_ret ?_
    try simp only [Exit.then, Exit.inBlock, Exit.noGoto]
    exact ret_env rfl he20 rfl ⟨by (refine congrArg (fun b => Ending.returned (.bool b)) ?_; first | exact (decide_eq_true (h.trans (Prod.ext (by assumption) (by assumption)))).symm | exact (decide_eq_false (fun hh => absurd (congrArg Prod.fst (h.symm.trans hh)) (by assumption))).symm | exact (decide_eq_false (fun hh => absurd (congrArg Prod.snd (h.symm.trans hh)) (by assumption))).symm), hH13.new⟩
set_option linter.unusedSimpArgs false in
set_option maxRecDepth 100000 in
set_option maxHeartbeats 1600000 in
theorem text_c (A : Option Addr) (c b : Nat) (l : List Int) (s : List UInt8) (no : Int) (v : Bool) (hv : decide (textE l = (s, no)) = v) (hl : l.length ≤ 1000000) (w : World) (hr : Rd w b A l.length (ivs l)) (hT : Tab w) : Calls Tryd.prog 15 #[.slice A l.length c, .string (bs s), .int .i64 no] w fun e w' => e = .returned (.bool v) ∧ New w w' := by
  subst hv
  obtain ⟨x, er, h⟩ : ∃ x er, textE l = (x, er) := ⟨_, _, rfl⟩
  refine calls_args (vl := [Value.slice A l.length c, Value.string (bs s), Value.int .i64 no]) 22 Tryd.func15 rfl Tryd.ntmps15 (by kernel_rfl) (fun a he => ?_)
  have he0 : Env 22 [(0, Value.slice A l.length c), (1, Value.string (bs s)), (2, Value.int .i64 no)] a := he
  clear he
  have hH := Hp.start w
  refine wp_seq ?_
  refine wp_region_lit ?_
  refine lV (Value.bool false) he0 rfl rfl (wanted_plain rfl _) (rn_asg rfl (he0.op rfl) w) ?_
  intro a1 he1
  clear he0 a
  refine wpList_nil ?_
  refine then_ok ?_
  refine wp_seq ?_
  refine wp_region_lit ?_
  refine lV (Value.slice A l.length c) he1 rfl rfl (wanted_plain rfl _) (rn_mv rfl (he1.op rfl) w) ?_
  intro a2 he2
  clear he1 a1
  refine lC he2 rfl rfl Tryd.func27 (by kernel_rfl) rfl rfl (wanted_plain rfl _) rfl (Text_c A c b l x er h (by omega) w (hr.new hH.new) (hT.new hH.new)) ?_
  intro w3 a4 hn he4
  have hH3 := hH.call hn
  clear he2 a2 hH hn
  refine lV (Value.tuple #[Value.string (bs x), Value.int .i64 er]) he4 rfl rfl (wanted_plain rfl _) (rn_mv rfl (he4.op rfl) w3) ?_
  intro a5 he5
  clear he4 a4
  refine lV (Value.string (bs x)) he5 rfl rfl (wanted_plain rfl _) (rn_ext rfl (he5.op rfl) rfl w3) ?_
  intro a6 he6
  clear he5 a5
  refine lV (Value.int .i64 er) he6 rfl rfl (wanted_plain rfl _) (rn_ext rfl (he6.op rfl) rfl w3) ?_
  intro a7 he7
  clear he6 a6
  refine lV (Value.string (bs x)) he7 rfl rfl (wanted_plain rfl _) (rn_asg rfl (he7.op rfl) w3) ?_
  intro a8 he8
  clear he7 a7
  refine lV (Value.int .i64 er) he8 rfl rfl (wanted_plain rfl _) (rn_asg rfl (he8.op rfl) w3) ?_
  intro a9 he9
  clear he8 a8
  refine wpList_nil ?_
  refine then_ok ?_
  refine wp_seq ?_
  refine wp_region_lit ?_
  refine lV (Value.string (bs x)) he9 rfl rfl (wanted_plain rfl _) (rn_mv rfl (he9.op rfl) w3) ?_
  intro a10 he10
  clear he9 a9
  refine lV (Value.string (bs s)) he10 rfl rfl (wanted_plain rfl _) (rn_mv rfl (he10.op rfl) w3) ?_
  intro a11 he11
  clear he10 a10
  by_cases hb0 : x = s
  · skip
    refine lV (Value.bool true) he11 rfl rfl (wanted_plain rfl _) (rn_eqS (a := x) (c := s) rfl (he11.op rfl) (he11.op rfl) (decide_eq_true hb0) w3) ?_
    intro a12 he12
    clear he11 a11
    refine lV (Value.bool true) he12 rfl rfl (wanted_plain rfl _) (rn_mv rfl (he12.op rfl) w3) ?_
    intro a13 he13
    clear he12 a12
    refine lV (Value.int .i64 er) he13 rfl rfl (he13.want rfl rfl rfl rfl rfl) (rn_mv rfl (he13.op rfl) w3) ?_
    intro a14 he14
    clear he13 a13
    refine lV (Value.int .i64 no) he14 rfl rfl (he14.want rfl rfl rfl rfl rfl) (rn_mv rfl (he14.op rfl) w3) ?_
    intro a15 he15
    clear he14 a14
    by_cases hb1 : er = no
    · skip
      refine lV (Value.bool true) he15 rfl rfl (he15.want rfl rfl rfl rfl rfl) (rn_eqE rfl (he15.op rfl) (he15.op rfl) (beqT hb1) w3) ?_
      intro a16 he16
      clear he15 a15
      refine lV (Value.bool true) he16 rfl rfl (wanted_plain rfl _) (rn_pk rfl (he16.op rfl) (he16.op rfl) w3) ?_
      intro a17 he17
      clear he16 a16
      refine lV (Value.bool true) he17 rfl rfl (wanted_plain rfl _) (rn_asg rfl (he17.op rfl) w3) ?_
      intro a18 he18
      clear he17 a17
      refine wpList_nil ?_
      refine then_ok ?_
      refine wp_ret ?_
      try simp only [Exit.then, Exit.inBlock, Exit.noGoto]
      exact ret_env rfl he18 rfl ⟨by (refine congrArg (fun b => Ending.returned (.bool b)) ?_; first | exact (decide_eq_true (h.trans (Prod.ext (by assumption) (by assumption)))).symm | exact (decide_eq_false (fun hh => absurd (congrArg Prod.fst (h.symm.trans hh)) (by assumption))).symm | exact (decide_eq_false (fun hh => absurd (congrArg Prod.snd (h.symm.trans hh)) (by assumption))).symm), hH3.new⟩
    · skip
      refine lV (Value.bool false) he15 rfl rfl (he15.want rfl rfl rfl rfl rfl) (rn_eqE rfl (he15.op rfl) (he15.op rfl) (beqF hb1) w3) ?_
      intro a16 he16
      clear he15 a15
      refine lV (Value.bool false) he16 rfl rfl (wanted_plain rfl _) (rn_pk rfl (he16.op rfl) (he16.op rfl) w3) ?_
      intro a17 he17
      clear he16 a16
      refine lV (Value.bool false) he17 rfl rfl (wanted_plain rfl _) (rn_asg rfl (he17.op rfl) w3) ?_
      intro a18 he18
      clear he17 a17
      refine wpList_nil ?_
      refine then_ok ?_
      refine wp_ret ?_
      try simp only [Exit.then, Exit.inBlock, Exit.noGoto]
      exact ret_env rfl he18 rfl ⟨by (refine congrArg (fun b => Ending.returned (.bool b)) ?_; first | exact (decide_eq_true (h.trans (Prod.ext (by assumption) (by assumption)))).symm | exact (decide_eq_false (fun hh => absurd (congrArg Prod.fst (h.symm.trans hh)) (by assumption))).symm | exact (decide_eq_false (fun hh => absurd (congrArg Prod.snd (h.symm.trans hh)) (by assumption))).symm), hH3.new⟩
  · skip
    refine lV (Value.bool false) he11 rfl rfl (wanted_plain rfl _) (rn_eqS (a := x) (c := s) rfl (he11.op rfl) (he11.op rfl) (decide_eq_false hb0) w3) ?_
    intro a12 he12
    clear he11 a11
    refine lV (Value.bool false) he12 rfl rfl (wanted_plain rfl _) (rn_mv rfl (he12.op rfl) w3) ?_
    intro a13 he13
    clear he12 a12
    refine lSkip he13 rfl rfl (he13.wantNot rfl rfl rfl rfl rfl rfl) ?_
    intro a14 he14
    clear he13 a13
    refine lSkip he14 rfl rfl (he14.wantNot rfl rfl rfl rfl rfl rfl) ?_
    intro a15 he15
    clear he14 a14
    refine lSkip he15 rfl rfl (he15.wantNot rfl rfl rfl rfl rfl rfl) ?_
    intro a16 he16
    clear he15 a15
    refine lV (Value.bool false) he16 rfl rfl (wanted_plain rfl _) (rn_pk0 rfl (he16.op rfl) (he16.op rfl) w3) ?_
    intro a17 he17
    clear he16 a16
    refine lV (Value.bool false) he17 rfl rfl (wanted_plain rfl _) (rn_asg rfl (he17.op rfl) w3) ?_
    intro a18 he18
    clear he17 a17
    refine wpList_nil ?_
    refine then_ok ?_
    refine wp_ret ?_
    try simp only [Exit.then, Exit.inBlock, Exit.noGoto]
    exact ret_env rfl he18 rfl ⟨by (refine congrArg (fun b => Ending.returned (.bool b)) ?_; first | exact (decide_eq_true (h.trans (Prod.ext (by assumption) (by assumption)))).symm | exact (decide_eq_false (fun hh => absurd (congrArg Prod.fst (h.symm.trans hh)) (by assumption))).symm | exact (decide_eq_false (fun hh => absurd (congrArg Prod.snd (h.symm.trans hh)) (by assumption))).symm), hH3.new⟩
set_option linter.unusedSimpArgs false in
set_option maxRecDepth 100000 in
set_option maxHeartbeats 1600000 in
theorem has_c (p : Nat) (f : List Int) (A : Option Addr) (c b : Nat) (l : List Int) (v : Bool) (hv : decide (f.take 16 = l) = v) (hl : l.length ≤ 1000000) (w : World) (hB : Blk w p 39 (cbF f)) (hr : Rd w b A l.length (ivs l)) : Calls Tryd.prog 25 #[.pointer (some ⟨p, 0, none⟩), .slice A l.length c] w fun e w' => e = .returned (.bool v) ∧ New w w' := by
  subst hv
  have hfl : (f.take 16).length ≤ 16 := by rw [List.length_take]; omega
  refine calls_args (vl := [Value.pointer (some ⟨p, 0, none⟩), Value.slice A l.length c]) 9 Tryd.func25 rfl Tryd.ntmps25 (by kernel_rfl) (fun a he => ?_)
  have he0 : Env 9 [(0, Value.pointer (some ⟨p, 0, none⟩)), (1, Value.slice A l.length c)] a := he
  clear he
  have hH := Hp.start w
  refine wp_seq ?_
  refine wp_region_lit ?_
  refine lV (Value.bool false) he0 rfl rfl (wanted_plain rfl _) (rn_asg rfl (he0.op rfl) w) ?_
  intro a1 he1
  clear he0 a
  refine wpList_nil ?_
  refine then_ok ?_
  refine wp_seq ?_
  refine wp_region_lit ?_
  refine lV (Value.pointer (some ⟨p, 0, none⟩)) he1 rfl rfl (wanted_plain rfl _) (rn_mv rfl (he1.op rfl) w) ?_
  intro a2 he2
  clear he1 a1
  refine lCx he2 rfl rfl Tryd.func23 (by kernel_rfl) rfl rfl (wanted_plain rfl _) rfl (List_c p f w (hB.fr hH.new (fun h => h))) ?_
  rintro _ w3 ⟨q3, rfl, hq_, hB_, hn⟩
  have hH4 : Hp w [⟨q3, 3, (ivs (f.take 16)).toArray⟩] w3 := hH.cons hn hq_ hB_
  refine ⟨_, rfl, ?_⟩
  intro a5 he5
  clear he2 a2 hH hn hq_ hB_
  refine lV (Value.slice A l.length c) he5 rfl rfl (wanted_plain rfl _) (rn_mv rfl (he5.op rfl) w3) ?_
  intro a6 he6
  clear he5 a5
  by_cases hb0 : (f.take 16) = l
  · skip
    refine lC he6 rfl rfl Tryd.func24 (by kernel_rfl) rfl rfl (wanted_plain rfl _) rfl (Same_c (some ⟨q3, 0, none⟩) ((f.take 16).length) q3 (f.take 16) A c b l true (decide_eq_true hb0) (by omega) (by omega) w3 (rd_own (l := (f.take 16)) (hH4.at (i := 0) rfl)) (hr.new hH4.new)) ?_
    intro w7 a8 hn he8
    have hH7 := hH4.call hn
    clear he6 a6 hH4 hn
    refine lV (Value.bool true) he8 rfl rfl (wanted_plain rfl _) (rn_asg rfl (he8.op rfl) w7) ?_
    intro a9 he9
    clear he8 a8
    refine wpList_nil ?_
    refine then_ok ?_
    refine wp_ret ?_
    try simp only [Exit.then, Exit.inBlock, Exit.noGoto]
    exact ret_env rfl he9 rfl ⟨by (refine congrArg (fun b => Ending.returned (.bool b)) ?_; first | exact (decide_eq_true (by assumption)).symm | exact (decide_eq_false (by assumption)).symm), hH7.new⟩
  · skip
    refine lC he6 rfl rfl Tryd.func24 (by kernel_rfl) rfl rfl (wanted_plain rfl _) rfl (Same_c (some ⟨q3, 0, none⟩) ((f.take 16).length) q3 (f.take 16) A c b l false (decide_eq_false hb0) (by omega) (by omega) w3 (rd_own (l := (f.take 16)) (hH4.at (i := 0) rfl)) (hr.new hH4.new)) ?_
    intro w7 a8 hn he8
    have hH7 := hH4.call hn
    clear he6 a6 hH4 hn
    refine lV (Value.bool false) he8 rfl rfl (wanted_plain rfl _) (rn_asg rfl (he8.op rfl) w7) ?_
    intro a9 he9
    clear he8 a8
    refine wpList_nil ?_
    refine then_ok ?_
    refine wp_ret ?_
    try simp only [Exit.then, Exit.inBlock, Exit.noGoto]
    exact ret_env rfl he9 rfl ⟨by (refine congrArg (fun b => Ending.returned (.bool b)) ?_; first | exact (decide_eq_true (by assumption)).symm | exact (decide_eq_false (by assumption)).symm), hH7.new⟩
set_option linter.unusedSimpArgs false in
set_option maxRecDepth 100000 in
set_option maxHeartbeats 1600000 in
theorem has_nil (A : Option Addr) (c b : Nat) (l : List Int) (v : Bool) (hv : decide ([] = l) = v) (hl : l.length ≤ 1000000) (w : World) (hr : Rd w b A l.length (ivs l)) : Calls Tryd.prog 25 #[.pointer none, .slice A l.length c] w fun e w' => e = .returned (.bool v) ∧ New w w' := by
  subst hv
  refine calls_args (vl := [Value.pointer none, Value.slice A l.length c]) 9 Tryd.func25 rfl Tryd.ntmps25 (by kernel_rfl) (fun a he => ?_)
  have he0 : Env 9 [(0, Value.pointer none), (1, Value.slice A l.length c)] a := he
  clear he
  have hH := Hp.start w
  refine wp_seq ?_
  refine wp_region_lit ?_
  refine lV (Value.bool false) he0 rfl rfl (wanted_plain rfl _) (rn_asg rfl (he0.op rfl) w) ?_
  intro a1 he1
  clear he0 a
  refine wpList_nil ?_
  refine then_ok ?_
  refine wp_seq ?_
  refine wp_region_lit ?_
  refine lV (Value.pointer none) he1 rfl rfl (wanted_plain rfl _) (rn_mv rfl (he1.op rfl) w) ?_
  intro a2 he2
  clear he1 a1
  refine lC he2 rfl rfl Tryd.func23 (by kernel_rfl) rfl rfl (wanted_plain rfl _) rfl (ListNil_c w) ?_
  intro w3 a4 hn he4
  have hH3 := hH.call hn
  clear he2 a2 hH hn
  refine lV (Value.slice A l.length c) he4 rfl rfl (wanted_plain rfl _) (rn_mv rfl (he4.op rfl) w3) ?_
  intro a5 he5
  clear he4 a4
  by_cases hb0 : ([] : List Int) = l
  · skip
    refine lC he5 rfl rfl Tryd.func24 (by kernel_rfl) rfl rfl (wanted_plain rfl _) rfl (Same_c none 0 0 ([] : List Int) A c b l true (decide_eq_true hb0) (by decide) (by omega) w3 (Rd.nil _ 0 none) (hr.new hH3.new)) ?_
    intro w6 a7 hn he7
    have hH6 := hH3.call hn
    clear he5 a5 hH3 hn
    refine lV (Value.bool true) he7 rfl rfl (wanted_plain rfl _) (rn_asg rfl (he7.op rfl) w6) ?_
    intro a8 he8
    clear he7 a7
    refine wpList_nil ?_
    refine then_ok ?_
    refine wp_ret ?_
    try simp only [Exit.then, Exit.inBlock, Exit.noGoto]
    exact ret_env rfl he8 rfl ⟨by (refine congrArg (fun b => Ending.returned (.bool b)) ?_; first | exact (decide_eq_true (by assumption)).symm | exact (decide_eq_false (by assumption)).symm), hH6.new⟩
  · skip
    refine lC he5 rfl rfl Tryd.func24 (by kernel_rfl) rfl rfl (wanted_plain rfl _) rfl (Same_c none 0 0 ([] : List Int) A c b l false (decide_eq_false hb0) (by decide) (by omega) w3 (Rd.nil _ 0 none) (hr.new hH3.new)) ?_
    intro w6 a7 hn he7
    have hH6 := hH3.call hn
    clear he5 a5 hH3 hn
    refine lV (Value.bool false) he7 rfl rfl (wanted_plain rfl _) (rn_asg rfl (he7.op rfl) w6) ?_
    intro a8 he8
    clear he7 a7
    refine wpList_nil ?_
    refine then_ok ?_
    refine wp_ret ?_
    try simp only [Exit.then, Exit.inBlock, Exit.noGoto]
    exact ret_env rfl he8 rfl ⟨by (refine congrArg (fun b => Ending.returned (.bool b)) ?_; first | exact (decide_eq_true (by assumption)).symm | exact (decide_eq_false (by assumption)).symm), hH6.new⟩
theorem d1 {u : Nat} (h : u < 10) : Lib.decDigits u = [UInt8.ofNat (48 + u)] := Lib.decDigits_one h
theorem kt1 : textE [5, -1, 0] = ([53, 59, 59, 48], 0) := by
  unfold textE
  rw [if_pos (by decide +kernel)]
  rw [show ([5, -1, 0] : List Int) = [5, -1] ++ [0] from rfl, textL_snoc _ _ (by simp), show ([5, -1] : List Int) = [5] ++ [-1] from rfl, textL_snoc _ _ (by simp), textL_one]
  rw [part_yes (n := 5) (by decide), part_yes (n := 0) (by decide), show part1 (-1) = [] from rfl]
  rw [show (5 : Int).toNat = 5 from rfl, show (0 : Int).toNat = 0 from rfl, d1 (by decide), d1 (by decide)]
  rfl
theorem Get_v {A : Option Addr} {c b : Nat} {l : List Int} {i m x : Int} (hx : getL l i m = x) (hl : l.length ≤ 1000000) {w : World} (hr : Rd w b A l.length (ivs l)) : Calls Tryd.prog 12 #[.slice A l.length c, .int .i64 i, .int .i64 m] w fun e w' => e = .returned (.int .i64 x) ∧ New w w' := hx ▸ Get_c A c b l i m hl w hr
theorem One_v {A : Option Addr} {c b : Nat} {l : List Int} {i x : Int} (hx : oneL l i = x) (hl : l.length ≤ 1000000) {w : World} (hr : Rd w b A l.length (ivs l)) : Calls Tryd.prog 14 #[.slice A l.length c, .int .i64 i] w fun e w' => e = .returned (.int .i64 x) ∧ New w w' := hx ▸ One_c A c b l i hl w hr
set_option linter.unusedSimpArgs false in
set_option maxRecDepth 100000 in
set_option maxHeartbeats 1600000 in
theorem known_c  (w : World) (hT : Tab w) : Calls Tryd.prog 9 #[] w fun e w' => e = .returned (.bool true) ∧ New w w' := by
  refine calls_args (vl := []) 148 Tryd.func9 rfl Tryd.ntmps9 (by kernel_rfl) (fun a he => ?_)
  have he0 : Env 148 [] a := he
  clear he
  have hH := Hp.start w
  refine wp_seq ?_
  refine wp_region_lit ?_
  refine lV (Value.bool false) he0 rfl rfl (wanted_plain rfl _) (rn_asg rfl (he0.op rfl) w) ?_
  intro a1 he1
  clear he0 a
  refine wpList_nil ?_
  refine then_ok ?_
  refine wp_seq ?_
  refine wp_seq ?_
  refine wp_region_lit ?_
  refine lC he1 rfl rfl Tryd.func17 (by kernel_rfl) rfl rfl (wanted_plain rfl _) rfl (parses_c ([] : List UInt8) 0 none 0 0 ([] : List Int) true (by decide +kernel) (by decide +kernel) (by decide) w (Rd.nil _ 0 none)) ?_
  intro w2 a3 hn he3
  have hH2 := hH.call hn
  clear he1 a1 hH hn
  refine lV (Value.bool false) he3 rfl rfl (wanted_plain rfl _) (rn_not (b := true) rfl (he3.op rfl) w2) ?_
  intro a4 he4
  clear he3 a3
  refine lV (Value.bool false) he4 rfl rfl (wanted_plain rfl _) (rn_mv rfl (he4.op rfl) w2) ?_
  intro a5 he5
  clear he4 a4
  refine lNewP (fun p => .slice (some ⟨p, 0, none⟩) 1 1) he5 hH2 rfl rfl (he5.want rfl rfl rfl rfl rfl) (rn_bsJ1 rfl (he5.op rfl) w2) ?_
  intro p6 w6 a7 hp hn hH6 he7
  clear he5 a5 hH2 hn hp
  refine lC he7 rfl rfl Tryd.func17 (by kernel_rfl) rfl rfl (he7.want rfl rfl rfl rfl rfl) rfl (parses_c ([53] : List UInt8) 0 (some ⟨p6, 0, none⟩) 1 p6 ([5]) true (by decide +kernel) (by decide +kernel) (by decide) w6 (rd_own (l := [5]) (hH6.at (i := 0) rfl))) ?_
  intro w8 a9 hn he9
  have hH8 := hH6.call hn
  clear he7 a7 hH6 hn
  refine lV (Value.bool false) he9 rfl rfl (he9.want rfl rfl rfl rfl rfl) (rn_not (b := true) rfl (he9.op rfl) w8) ?_
  intro a10 he10
  clear he9 a9
  refine lV (Value.bool false) he10 rfl rfl (wanted_plain rfl _) (rn_pk0 rfl (he10.op rfl) (he10.op rfl) w8) ?_
  intro a11 he11
  clear he10 a10
  refine lV (Value.bool false) he11 rfl rfl (wanted_plain rfl _) (rn_mv rfl (he11.op rfl) w8) ?_
  intro a12 he12
  clear he11 a11
  refine lNewP (fun p => .slice (some ⟨p, 0, none⟩) 2 2) he12 hH8 rfl rfl (he12.want rfl rfl rfl rfl rfl) (rn_bsJ2 rfl (he12.op rfl) (he12.op rfl) w8) ?_
  intro p13 w13 a14 hp hn hH13 he14
  clear he12 a12 hH8 hn hp
  refine lC he14 rfl rfl Tryd.func17 (by kernel_rfl) rfl rfl (he14.want rfl rfl rfl rfl rfl) rfl (parses_c ([53, 59] : List UInt8) 0 (some ⟨p13, 0, none⟩) 2 p13 ([5, (-1)]) true (by decide +kernel) (by decide +kernel) (by decide) w13 (rd_own (l := [5, (-1)]) (hH13.at (i := 0) rfl))) ?_
  intro w15 a16 hn he16
  have hH15 := hH13.call hn
  clear he14 a14 hH13 hn
  refine lV (Value.bool false) he16 rfl rfl (he16.want rfl rfl rfl rfl rfl) (rn_not (b := true) rfl (he16.op rfl) w15) ?_
  intro a17 he17
  clear he16 a16
  refine lV (Value.bool false) he17 rfl rfl (wanted_plain rfl _) (rn_pk0 rfl (he17.op rfl) (he17.op rfl) w15) ?_
  intro a18 he18
  clear he17 a17
  refine lV (Value.bool false) he18 rfl rfl (wanted_plain rfl _) (rn_mv rfl (he18.op rfl) w15) ?_
  intro a19 he19
  clear he18 a18
  refine lNewP (fun p => .slice (some ⟨p, 0, none⟩) 3 3) he19 hH15 rfl rfl (he19.want rfl rfl rfl rfl rfl) (rn_bsJ3 rfl (he19.op rfl) (he19.op rfl) (he19.op rfl) w15) ?_
  intro p20 w20 a21 hp hn hH20 he21
  clear he19 a19 hH15 hn hp
  refine lC he21 rfl rfl Tryd.func17 (by kernel_rfl) rfl rfl (he21.want rfl rfl rfl rfl rfl) rfl (parses_c ([59, 59] : List UInt8) 0 (some ⟨p20, 0, none⟩) 3 p20 ([(-1), (-1), (-1)]) true (by decide +kernel) (by decide +kernel) (by decide) w20 (rd_own (l := [(-1), (-1), (-1)]) (hH20.at (i := 0) rfl))) ?_
  intro w22 a23 hn he23
  have hH22 := hH20.call hn
  clear he21 a21 hH20 hn
  refine lV (Value.bool false) he23 rfl rfl (he23.want rfl rfl rfl rfl rfl) (rn_not (b := true) rfl (he23.op rfl) w22) ?_
  intro a24 he24
  clear he23 a23
  refine lV (Value.bool false) he24 rfl rfl (wanted_plain rfl _) (rn_pk0 rfl (he24.op rfl) (he24.op rfl) w22) ?_
  intro a25 he25
  clear he24 a24
  refine lV (Value.bool false) he25 rfl rfl (wanted_plain rfl _) (rn_mv rfl (he25.op rfl) w22) ?_
  intro a26 he26
  clear he25 a25
  refine lNewP (fun p => .slice (some ⟨p, 0, none⟩) 2 2) he26 hH22 rfl rfl (he26.want rfl rfl rfl rfl rfl) (rn_bsJ2 rfl (he26.op rfl) (he26.op rfl) w22) ?_
  intro p27 w27 a28 hp hn hH27 he28
  clear he26 a26 hH22 hn hp
  refine lC he28 rfl rfl Tryd.func17 (by kernel_rfl) rfl rfl (he28.want rfl rfl rfl rfl rfl) rfl (parses_c ([48, 48, 55, 59, 49, 50, 51, 52, 53] : List UInt8) 0 (some ⟨p27, 0, none⟩) 2 p27 ([7, 9999]) true (by decide +kernel) (by decide +kernel) (by decide) w27 (rd_own (l := [7, 9999]) (hH27.at (i := 0) rfl))) ?_
  intro w29 a30 hn he30
  have hH29 := hH27.call hn
  clear he28 a28 hH27 hn
  refine lV (Value.bool false) he30 rfl rfl (he30.want rfl rfl rfl rfl rfl) (rn_not (b := true) rfl (he30.op rfl) w29) ?_
  intro a31 he31
  clear he30 a30
  refine lV (Value.bool false) he31 rfl rfl (wanted_plain rfl _) (rn_pk0 rfl (he31.op rfl) (he31.op rfl) w29) ?_
  intro a32 he32
  clear he31 a31
  refine lV (Value.bool false) he32 rfl rfl (wanted_plain rfl _) (rn_mv rfl (he32.op rfl) w29) ?_
  intro a33 he33
  clear he32 a32
  refine lC he33 rfl rfl Tryd.func17 (by kernel_rfl) rfl rfl (he33.want rfl rfl rfl rfl rfl) rfl (parses_c ([53, 120] : List UInt8) 6 none 0 0 ([] : List Int) true (by decide +kernel) (by decide +kernel) (by decide) w29 (Rd.nil _ 0 none)) ?_
  intro w34 a35 hn he35
  have hH34 := hH29.call hn
  clear he33 a33 hH29 hn
  refine lV (Value.bool false) he35 rfl rfl (he35.want rfl rfl rfl rfl rfl) (rn_not (b := true) rfl (he35.op rfl) w34) ?_
  intro a36 he36
  clear he35 a35
  refine lV (Value.bool false) he36 rfl rfl (wanted_plain rfl _) (rn_pk0 rfl (he36.op rfl) (he36.op rfl) w34) ?_
  intro a37 he37
  clear he36 a36
  refine lV (Value.bool false) he37 rfl rfl (wanted_plain rfl _) (rn_mv rfl (he37.op rfl) w34) ?_
  intro a38 he38
  clear he37 a37
  refine lC he38 rfl rfl Tryd.func17 (by kernel_rfl) rfl rfl (he38.want rfl rfl rfl rfl rfl) rfl (parses_c ([45, 49] : List UInt8) 6 none 0 0 ([] : List Int) true (by decide +kernel) (by decide +kernel) (by decide) w34 (Rd.nil _ 0 none)) ?_
  intro w39 a40 hn he40
  have hH39 := hH34.call hn
  clear he38 a38 hH34 hn
  refine lV (Value.bool false) he40 rfl rfl (he40.want rfl rfl rfl rfl rfl) (rn_not (b := true) rfl (he40.op rfl) w39) ?_
  intro a41 he41
  clear he40 a40
  refine lV (Value.bool false) he41 rfl rfl (wanted_plain rfl _) (rn_pk0 rfl (he41.op rfl) (he41.op rfl) w39) ?_
  intro a42 he42
  clear he41 a41
  refine wpList_nil ?_
  as_aux_lemma =>
    refine then_ok ?_
    refine wp_cond_false (he42.op rfl) ?_
    refine wp_skip ?_
    refine then_ok ?_
    refine wp_seq ?_
    refine wp_region_lit ?_
    refine lC he42 rfl rfl Tryd.func26 (by kernel_rfl) rfl rfl (wanted_plain rfl _) rfl (Repeat_c [59] 16 (by decide) (by decide) w39) ?_
    intro w43 a44 hn he44
    have hH43 := hH39.call hn
    clear he42 a42 hH39 hn
    refine lV (Value.string (bs ((Lib.repeatL [59] 16) ++ ([55] : List UInt8)))) he44 rfl rfl (wanted_plain rfl _) (rn_addS (a := (Lib.repeatL [59] 16)) (c := ([55] : List UInt8)) rfl (he44.op rfl) (he44.op rfl) (by first | decide | omega | (simp only [List.length_append, List.length_cons, List.length_nil]; omega)) rfl w43) ?_
    intro a45 he45
    clear he44 a44
    refine lCx he45 rfl rfl Tryd.func28 (by kernel_rfl) rfl rfl (wanted_plain rfl _) rfl (Parse_c ((Lib.repeatL [59] 16) ++ ([55] : List UInt8)) [(-1), (-1), (-1), (-1), (-1), (-1), (-1), (-1), (-1), (-1), (-1), (-1), (-1), (-1), (-1), (-1)] 0 (by decide +kernel) (by decide +kernel) w43) ?_
    rintro _ w47 ⟨A46, c46, b46, rfl, hr46, hn⟩
    refine ⟨_, rfl, ?_⟩
    intro a48 he48
    have hH47 := hH43.call hn
    clear he45 a45 hH43
    clear hn
    refine lV (Value.tuple #[Value.slice A46 16 c46, Value.int .i64 0]) he48 rfl rfl (wanted_plain rfl _) (rn_mv rfl (he48.op rfl) w47) ?_
    intro a49 he49
    clear he48 a48
    refine lV (Value.slice A46 16 c46) he49 rfl rfl (wanted_plain rfl _) (rn_ext rfl (he49.op rfl) rfl w47) ?_
    intro a50 he50
    clear he49 a49
    refine lV (Value.int .i64 0) he50 rfl rfl (wanted_plain rfl _) (rn_ext rfl (he50.op rfl) rfl w47) ?_
    intro a51 he51
    clear he50 a50
    refine lV (Value.slice A46 16 c46) he51 rfl rfl (wanted_plain rfl _) (rn_asg rfl (he51.op rfl) w47) ?_
    intro a52 he52
    clear he51 a51
    refine lV (Value.int .i64 0) he52 rfl rfl (wanted_plain rfl _) (rn_asg rfl (he52.op rfl) w47) ?_
    intro a53 he53
    clear he52 a52
    refine wpList_nil ?_
    as_aux_lemma =>
      refine then_ok ?_
      refine wp_seq ?_
      refine wp_seq ?_
      refine wp_region_lit ?_
      refine lNewP (fun p => .slice (some ⟨p, 0, none⟩) 3 3) he53 hH47 rfl rfl (wanted_plain rfl _) (rn_bsJ3 rfl (he53.op rfl) (he53.op rfl) (he53.op rfl) w47) ?_
      intro p54 w54 a55 hp hn hH54 he55
      replace hr46 := hr46.new hn
      clear he53 a53 hH47 hn hp
      refine lC he55 rfl rfl Tryd.func15 (by kernel_rfl) rfl rfl (wanted_plain rfl _) rfl (text_c (some ⟨p54, 0, none⟩) 3 p54 ([5, (-1), 0]) ([53, 59, 59, 48] : List UInt8) 0 true (decide_eq_true kt1) (by decide) w54 (rd_own (l := [5, (-1), 0]) (hH54.at (i := 0) rfl)) (hT.new hH54.new)) ?_
      intro w56 a57 hn he57
      have hH56 := hH54.call hn
      replace hr46 := hr46.new hn
      clear he55 a55 hH54 hn
      refine lV (Value.bool false) he57 rfl rfl (wanted_plain rfl _) (rn_not (b := true) rfl (he57.op rfl) w56) ?_
      intro a58 he58
      clear he57 a57
      refine lV (Value.bool false) he58 rfl rfl (wanted_plain rfl _) (rn_mv rfl (he58.op rfl) w56) ?_
      intro a59 he59
      clear he58 a58
      refine lC he59 rfl rfl Tryd.func15 (by kernel_rfl) rfl rfl (he59.want rfl rfl rfl rfl rfl) rfl (text_c none 0 0 ([] : List Int) ([] : List UInt8) 0 true (by decide +kernel) (by decide) w56 (Rd.nil _ 0 none) (hT.new hH56.new)) ?_
      intro w60 a61 hn he61
      have hH60 := hH56.call hn
      replace hr46 := hr46.new hn
      clear he59 a59 hH56 hn
      refine lV (Value.bool false) he61 rfl rfl (he61.want rfl rfl rfl rfl rfl) (rn_not (b := true) rfl (he61.op rfl) w60) ?_
      intro a62 he62
      clear he61 a61
      refine lV (Value.bool false) he62 rfl rfl (wanted_plain rfl _) (rn_pk0 rfl (he62.op rfl) (he62.op rfl) w60) ?_
      intro a63 he63
      clear he62 a62
      refine lV (Value.bool false) he63 rfl rfl (wanted_plain rfl _) (rn_mv rfl (he63.op rfl) w60) ?_
      intro a64 he64
      clear he63 a63
      refine lNewP (fun p => .slice (some ⟨p, 0, none⟩) 1 1) he64 hH60 rfl rfl (he64.want rfl rfl rfl rfl rfl) (rn_bsJ1 rfl (he64.op rfl) w60) ?_
      intro p65 w65 a66 hp hn hH65 he66
      replace hr46 := hr46.new hn
      clear he64 a64 hH60 hn hp
      refine lC he66 rfl rfl Tryd.func15 (by kernel_rfl) rfl rfl (he66.want rfl rfl rfl rfl rfl) rfl (text_c (some ⟨p65, 0, none⟩) 1 p65 ([(-1)]) ([] : List UInt8) 2 true (by decide +kernel) (by decide) w65 (rd_own (l := [(-1)]) (hH65.at (i := 0) rfl)) (hT.new hH65.new)) ?_
      intro w67 a68 hn he68
      have hH67 := hH65.call hn
      replace hr46 := hr46.new hn
      clear he66 a66 hH65 hn
      refine lV (Value.bool false) he68 rfl rfl (he68.want rfl rfl rfl rfl rfl) (rn_not (b := true) rfl (he68.op rfl) w67) ?_
      intro a69 he69
      clear he68 a68
      refine lV (Value.bool false) he69 rfl rfl (wanted_plain rfl _) (rn_pk0 rfl (he69.op rfl) (he69.op rfl) w67) ?_
      intro a70 he70
      clear he69 a69
      refine lV (Value.bool false) he70 rfl rfl (wanted_plain rfl _) (rn_mv rfl (he70.op rfl) w67) ?_
      intro a71 he71
      clear he70 a70
      refine lNewP (fun p => .slice (some ⟨p, 0, none⟩) 2 2) he71 hH67 rfl rfl (he71.want rfl rfl rfl rfl rfl) (rn_bsJ2 rfl (he71.op rfl) (he71.op rfl) w67) ?_
      intro p72 w72 a73 hp hn hH72 he73
      replace hr46 := hr46.new hn
      clear he71 a71 hH67 hn hp
      refine lC he73 rfl rfl Tryd.func15 (by kernel_rfl) rfl rfl (he73.want rfl rfl rfl rfl rfl) rfl (text_c (some ⟨p72, 0, none⟩) 2 p72 ([(-1), (-1)]) ([59] : List UInt8) 0 true (by decide +kernel) (by decide) w72 (rd_own (l := [(-1), (-1)]) (hH72.at (i := 0) rfl)) (hT.new hH72.new)) ?_
      intro w74 a75 hn he75
      have hH74 := hH72.call hn
      replace hr46 := hr46.new hn
      clear he73 a73 hH72 hn
      refine lV (Value.bool false) he75 rfl rfl (he75.want rfl rfl rfl rfl rfl) (rn_not (b := true) rfl (he75.op rfl) w74) ?_
      intro a76 he76
      clear he75 a75
      refine lV (Value.bool false) he76 rfl rfl (wanted_plain rfl _) (rn_pk0 rfl (he76.op rfl) (he76.op rfl) w74) ?_
      intro a77 he77
      clear he76 a76
      refine lV (Value.bool false) he77 rfl rfl (wanted_plain rfl _) (rn_mv rfl (he77.op rfl) w74) ?_
      intro a78 he78
      clear he77 a77
      refine lNewP (fun p => .slice (some ⟨p, 0, none⟩) 1 1) he78 hH74 rfl rfl (he78.want rfl rfl rfl rfl rfl) (rn_bsJ1 rfl (he78.op rfl) w74) ?_
      intro p79 w79 a80 hp hn hH79 he80
      replace hr46 := hr46.new hn
      clear he78 a78 hH74 hn hp
      refine lC he80 rfl rfl Tryd.func15 (by kernel_rfl) rfl rfl (he80.want rfl rfl rfl rfl rfl) rfl (text_c (some ⟨p79, 0, none⟩) 1 p79 ([10000]) ([] : List UInt8) 2 true (by decide +kernel) (by decide) w79 (rd_own (l := [10000]) (hH79.at (i := 0) rfl)) (hT.new hH79.new)) ?_
      intro w81 a82 hn he82
      have hH81 := hH79.call hn
      replace hr46 := hr46.new hn
      clear he80 a80 hH79 hn
      refine lV (Value.bool false) he82 rfl rfl (he82.want rfl rfl rfl rfl rfl) (rn_not (b := true) rfl (he82.op rfl) w81) ?_
      intro a83 he83
      clear he82 a82
      refine lV (Value.bool false) he83 rfl rfl (wanted_plain rfl _) (rn_pk0 rfl (he83.op rfl) (he83.op rfl) w81) ?_
      intro a84 he84
      clear he83 a83
      refine lV (Value.bool false) he84 rfl rfl (wanted_plain rfl _) (rn_mv rfl (he84.op rfl) w81) ?_
      intro a85 he85
      clear he84 a84
      refine lV (Value.slice A46 16 c46) he85 rfl rfl (he85.want rfl rfl rfl rfl rfl) (rn_mv rfl (he85.op rfl) w81) ?_
      intro a86 he86
      clear he85 a85
      refine lV (Value.int .i64 16) he86 rfl rfl (he86.want rfl rfl rfl rfl rfl) (rn_lenJ rfl (he86.op rfl) w81) ?_
      intro a87 he87
      clear he86 a86
      refine lV (Value.bool false) he87 rfl rfl (he87.want rfl rfl rfl rfl rfl) (rn_neI rfl (he87.op rfl) (he87.op rfl) (bneT rfl) w81) ?_
      intro a88 he88
      clear he87 a87
      refine lV (Value.bool false) he88 rfl rfl (wanted_plain rfl _) (rn_pk0 rfl (he88.op rfl) (he88.op rfl) w81) ?_
      intro a89 he89
      clear he88 a88
      refine lV (Value.bool false) he89 rfl rfl (wanted_plain rfl _) (rn_mv rfl (he89.op rfl) w81) ?_
      intro a90 he90
      clear he89 a89
      refine lV (Value.slice A46 16 c46) he90 rfl rfl (he90.want rfl rfl rfl rfl rfl) (rn_mv rfl (he90.op rfl) w81) ?_
      intro a91 he91
      clear he90 a90
      refine lV (Value.pointer (some ⟨b46, offA A46 + 15, none⟩)) he91 rfl rfl (he91.want rfl rfl rfl rfl rfl) (rn_ixJ (k := 15) hr46 rfl (he91.op rfl) (he91.op rfl) rfl (by decide)) ?_
      intro a92 he92
      clear he91 a91
      refine lV (Value.int .i64 (-1)) he92 rfl rfl (he92.want rfl rfl rfl rfl rfl) (rn_ldJ (k := 15) hr46 rfl (he92.op rfl) (by decide) rfl) ?_
      intro a93 he93
      clear he92 a92
      refine lV (Value.bool false) he93 rfl rfl (he93.want rfl rfl rfl rfl rfl) (rn_neI rfl (he93.op rfl) (he93.op rfl) (bneT rfl) w81) ?_
      intro a94 he94
      clear he93 a93
      refine lV (Value.bool false) he94 rfl rfl (wanted_plain rfl _) (rn_pk0 rfl (he94.op rfl) (he94.op rfl) w81) ?_
      intro a95 he95
      clear he94 a94
      refine lV (Value.bool false) he95 rfl rfl (wanted_plain rfl _) (rn_mv rfl (he95.op rfl) w81) ?_
      intro a96 he96
      clear he95 a95
      refine lV (Value.int .i64 0) he96 rfl rfl (he96.want rfl rfl rfl rfl rfl) (rn_mv rfl (he96.op rfl) w81) ?_
      intro a97 he97
      clear he96 a96
      refine lV (Value.bool false) he97 rfl rfl (he97.want rfl rfl rfl rfl rfl) (rn_neE rfl (he97.op rfl) (he97.op rfl) (bneT rfl) w81) ?_
      intro a98 he98
      clear he97 a97
      refine lV (Value.bool false) he98 rfl rfl (wanted_plain rfl _) (rn_pk0 rfl (he98.op rfl) (he98.op rfl) w81) ?_
      intro a99 he99
      clear he98 a98
      refine wpList_nil ?_
      as_aux_lemma =>
        refine then_ok ?_
        refine wp_cond_false (he99.op rfl) ?_
        refine wp_skip ?_
        refine then_ok ?_
        refine wp_seq ?_
        refine wp_region_lit ?_
        refine lNewP (fun p => .slice (some ⟨p, 0, none⟩) 2 2) he99 hH81 rfl rfl (wanted_plain rfl _) (rn_bsJ2 rfl (he99.op rfl) (he99.op rfl) w81) ?_
        intro p100 w100 a101 hp hn hH100 he101
        replace hr46 := hr46.new hn
        clear he99 a99 hH81 hn hp
        refine lNewP (fun p => .slice (some ⟨p, 0, none⟩) 3 3) he101 hH100 rfl rfl (wanted_plain rfl _) (rn_bsJ3 rfl (he101.op rfl) (he101.op rfl) (he101.op rfl) w100) ?_
        intro p102 w102 a103 hp hn hH102 he103
        replace hr46 := hr46.new hn
        clear he101 a101 hH100 hn hp
        refine lV (Value.slice (some ⟨p100, 0, none⟩) 2 2) he103 rfl rfl (wanted_plain rfl _) (rn_asg rfl (he103.op rfl) w102) ?_
        intro a104 he104
        clear he103 a103
        refine lV (Value.slice (some ⟨p102, 0, none⟩) 3 3) he104 rfl rfl (wanted_plain rfl _) (rn_asg rfl (he104.op rfl) w102) ?_
        intro a105 he105
        clear he104 a104
        refine wpList_nil ?_
        as_aux_lemma =>
          refine then_ok ?_
          refine wp_seq ?_
          refine wp_seq ?_
          refine wp_region_lit ?_
          refine lV (Value.slice (some ⟨p100, 0, none⟩) 2 2) he105 rfl rfl (wanted_plain rfl _) (rn_mv rfl (he105.op rfl) w102) ?_
          intro a106 he106
          clear he105 a105
          refine lC he106 rfl rfl Tryd.func12 (by kernel_rfl) rfl rfl (wanted_plain rfl _) rfl (Get_v (A := (some ⟨p100, 0, none⟩)) (c := 2) (l := ([5, (-1)])) (i := 0) (m := 9) (x := 5) (by decide +kernel) (by decide) (rd_own (l := [5, (-1)]) (hH102.at (i := 1) rfl))) ?_
          intro w107 a108 hn he108
          have hH107 := hH102.call hn
          replace hr46 := hr46.new hn
          clear he106 a106 hH102 hn
          refine lV (Value.bool false) he108 rfl rfl (wanted_plain rfl _) (rn_neI rfl (he108.op rfl) (he108.op rfl) (bneT rfl) w107) ?_
          intro a109 he109
          clear he108 a108
          refine lV (Value.bool false) he109 rfl rfl (wanted_plain rfl _) (rn_mv rfl (he109.op rfl) w107) ?_
          intro a110 he110
          clear he109 a109
          refine lV (Value.slice (some ⟨p100, 0, none⟩) 2 2) he110 rfl rfl (he110.want rfl rfl rfl rfl rfl) (rn_mv rfl (he110.op rfl) w107) ?_
          intro a111 he111
          clear he110 a110
          refine lC he111 rfl rfl Tryd.func12 (by kernel_rfl) rfl rfl (he111.want rfl rfl rfl rfl rfl) rfl (Get_v (A := (some ⟨p100, 0, none⟩)) (c := 2) (l := ([5, (-1)])) (i := 1) (m := 9) (x := 9) (by decide +kernel) (by decide) (rd_own (l := [5, (-1)]) (hH107.at (i := 1) rfl))) ?_
          intro w112 a113 hn he113
          have hH112 := hH107.call hn
          replace hr46 := hr46.new hn
          clear he111 a111 hH107 hn
          refine lV (Value.bool false) he113 rfl rfl (he113.want rfl rfl rfl rfl rfl) (rn_neI rfl (he113.op rfl) (he113.op rfl) (bneT rfl) w112) ?_
          intro a114 he114
          clear he113 a113
          refine lV (Value.bool false) he114 rfl rfl (wanted_plain rfl _) (rn_pk0 rfl (he114.op rfl) (he114.op rfl) w112) ?_
          intro a115 he115
          clear he114 a114
          refine lV (Value.bool false) he115 rfl rfl (wanted_plain rfl _) (rn_mv rfl (he115.op rfl) w112) ?_
          intro a116 he116
          clear he115 a115
          refine lV (Value.slice (some ⟨p100, 0, none⟩) 2 2) he116 rfl rfl (he116.want rfl rfl rfl rfl rfl) (rn_mv rfl (he116.op rfl) w112) ?_
          intro a117 he117
          clear he116 a116
          refine lC he117 rfl rfl Tryd.func12 (by kernel_rfl) rfl rfl (he117.want rfl rfl rfl rfl rfl) rfl (Get_v (A := (some ⟨p100, 0, none⟩)) (c := 2) (l := ([5, (-1)])) (i := 2) (m := 9) (x := 9) (by decide +kernel) (by decide) (rd_own (l := [5, (-1)]) (hH112.at (i := 1) rfl))) ?_
          intro w118 a119 hn he119
          have hH118 := hH112.call hn
          replace hr46 := hr46.new hn
          clear he117 a117 hH112 hn
          refine lV (Value.bool false) he119 rfl rfl (he119.want rfl rfl rfl rfl rfl) (rn_neI rfl (he119.op rfl) (he119.op rfl) (bneT rfl) w118) ?_
          intro a120 he120
          clear he119 a119
          refine lV (Value.bool false) he120 rfl rfl (wanted_plain rfl _) (rn_pk0 rfl (he120.op rfl) (he120.op rfl) w118) ?_
          intro a121 he121
          clear he120 a120
          refine lV (Value.bool false) he121 rfl rfl (wanted_plain rfl _) (rn_mv rfl (he121.op rfl) w118) ?_
          intro a122 he122
          clear he121 a121
          refine lV (Value.slice (some ⟨p100, 0, none⟩) 2 2) he122 rfl rfl (he122.want rfl rfl rfl rfl rfl) (rn_mv rfl (he122.op rfl) w118) ?_
          intro a123 he123
          clear he122 a122
          refine lC he123 rfl rfl Tryd.func12 (by kernel_rfl) rfl rfl (he123.want rfl rfl rfl rfl rfl) rfl (Get_v (A := (some ⟨p100, 0, none⟩)) (c := 2) (l := ([5, (-1)])) (i := (-1)) (m := 9) (x := 9) (by decide +kernel) (by decide) (rd_own (l := [5, (-1)]) (hH118.at (i := 1) rfl))) ?_
          intro w124 a125 hn he125
          have hH124 := hH118.call hn
          replace hr46 := hr46.new hn
          clear he123 a123 hH118 hn
          refine lV (Value.bool false) he125 rfl rfl (he125.want rfl rfl rfl rfl rfl) (rn_neI rfl (he125.op rfl) (he125.op rfl) (bneT rfl) w124) ?_
          intro a126 he126
          clear he125 a125
          refine lV (Value.bool false) he126 rfl rfl (wanted_plain rfl _) (rn_pk0 rfl (he126.op rfl) (he126.op rfl) w124) ?_
          intro a127 he127
          clear he126 a126
          refine lV (Value.bool false) he127 rfl rfl (wanted_plain rfl _) (rn_mv rfl (he127.op rfl) w124) ?_
          intro a128 he128
          clear he127 a127
          refine lV (Value.slice (some ⟨p102, 0, none⟩) 3 3) he128 rfl rfl (he128.want rfl rfl rfl rfl rfl) (rn_mv rfl (he128.op rfl) w124) ?_
          intro a129 he129
          clear he128 a128
          refine lC he129 rfl rfl Tryd.func14 (by kernel_rfl) rfl rfl (he129.want rfl rfl rfl rfl rfl) rfl (One_v (A := (some ⟨p102, 0, none⟩)) (c := 3) (l := ([0, 7, (-1)])) (i := 0) (x := 1) (by decide +kernel) (by decide) (rd_own (l := [0, 7, (-1)]) (hH124.at (i := 0) rfl))) ?_
          intro w130 a131 hn he131
          have hH130 := hH124.call hn
          replace hr46 := hr46.new hn
          clear he129 a129 hH124 hn
          refine lV (Value.bool false) he131 rfl rfl (he131.want rfl rfl rfl rfl rfl) (rn_neI rfl (he131.op rfl) (he131.op rfl) (bneT rfl) w130) ?_
          intro a132 he132
          clear he131 a131
          refine lV (Value.bool false) he132 rfl rfl (wanted_plain rfl _) (rn_pk0 rfl (he132.op rfl) (he132.op rfl) w130) ?_
          intro a133 he133
          clear he132 a132
          refine lV (Value.bool false) he133 rfl rfl (wanted_plain rfl _) (rn_mv rfl (he133.op rfl) w130) ?_
          intro a134 he134
          clear he133 a133
          refine lV (Value.slice (some ⟨p102, 0, none⟩) 3 3) he134 rfl rfl (he134.want rfl rfl rfl rfl rfl) (rn_mv rfl (he134.op rfl) w130) ?_
          intro a135 he135
          clear he134 a134
          refine lC he135 rfl rfl Tryd.func14 (by kernel_rfl) rfl rfl (he135.want rfl rfl rfl rfl rfl) rfl (One_v (A := (some ⟨p102, 0, none⟩)) (c := 3) (l := ([0, 7, (-1)])) (i := 1) (x := 7) (by decide +kernel) (by decide) (rd_own (l := [0, 7, (-1)]) (hH130.at (i := 0) rfl))) ?_
          intro w136 a137 hn he137
          have hH136 := hH130.call hn
          replace hr46 := hr46.new hn
          clear he135 a135 hH130 hn
          refine lV (Value.bool false) he137 rfl rfl (he137.want rfl rfl rfl rfl rfl) (rn_neI rfl (he137.op rfl) (he137.op rfl) (bneT rfl) w136) ?_
          intro a138 he138
          clear he137 a137
          refine lV (Value.bool false) he138 rfl rfl (wanted_plain rfl _) (rn_pk0 rfl (he138.op rfl) (he138.op rfl) w136) ?_
          intro a139 he139
          clear he138 a138
          refine lV (Value.bool false) he139 rfl rfl (wanted_plain rfl _) (rn_mv rfl (he139.op rfl) w136) ?_
          intro a140 he140
          clear he139 a139
          refine lV (Value.slice (some ⟨p102, 0, none⟩) 3 3) he140 rfl rfl (he140.want rfl rfl rfl rfl rfl) (rn_mv rfl (he140.op rfl) w136) ?_
          intro a141 he141
          clear he140 a140
          refine lC he141 rfl rfl Tryd.func14 (by kernel_rfl) rfl rfl (he141.want rfl rfl rfl rfl rfl) rfl (One_v (A := (some ⟨p102, 0, none⟩)) (c := 3) (l := ([0, 7, (-1)])) (i := 2) (x := 1) (by decide +kernel) (by decide) (rd_own (l := [0, 7, (-1)]) (hH136.at (i := 0) rfl))) ?_
          intro w142 a143 hn he143
          have hH142 := hH136.call hn
          replace hr46 := hr46.new hn
          clear he141 a141 hH136 hn
          refine lV (Value.bool false) he143 rfl rfl (he143.want rfl rfl rfl rfl rfl) (rn_neI rfl (he143.op rfl) (he143.op rfl) (bneT rfl) w142) ?_
          intro a144 he144
          clear he143 a143
          refine lV (Value.bool false) he144 rfl rfl (wanted_plain rfl _) (rn_pk0 rfl (he144.op rfl) (he144.op rfl) w142) ?_
          intro a145 he145
          clear he144 a144
          refine lV (Value.bool false) he145 rfl rfl (wanted_plain rfl _) (rn_mv rfl (he145.op rfl) w142) ?_
          intro a146 he146
          clear he145 a145
          refine lC he146 rfl rfl Tryd.func14 (by kernel_rfl) rfl rfl (he146.want rfl rfl rfl rfl rfl) rfl (One_v (A := none) (c := 0) (l := ([] : List Int)) (i := 0) (x := 1) (by decide +kernel) (by decide) (Rd.nil _ 0 none)) ?_
          intro w147 a148 hn he148
          have hH147 := hH142.call hn
          replace hr46 := hr46.new hn
          clear he146 a146 hH142 hn
          refine lV (Value.bool false) he148 rfl rfl (he148.want rfl rfl rfl rfl rfl) (rn_neI rfl (he148.op rfl) (he148.op rfl) (bneT rfl) w147) ?_
          intro a149 he149
          clear he148 a148
          refine lV (Value.bool false) he149 rfl rfl (wanted_plain rfl _) (rn_pk0 rfl (he149.op rfl) (he149.op rfl) w147) ?_
          intro a150 he150
          clear he149 a149
          refine wpList_nil ?_
          as_aux_lemma =>
            refine then_ok ?_
            refine wp_cond_false (he150.op rfl) ?_
            refine wp_skip ?_
            refine then_ok ?_
            refine wp_seq ?_
            refine wp_region_lit ?_
            refine lNewP (fun p => .pointer (some ⟨p, 0, none⟩)) he150 hH147 rfl rfl (wanted_plain rfl _) (rn_allocN rfl w147) ?_
            intro p151 w151 a152 hp hn hH151 he152
            replace hr46 := hr46.new hn
            clear he150 a150 hH147 hn hp
            refine wpList_nil ?_
            as_aux_lemma =>
              refine then_ok ?_
              refine wp_seq ?_
              refine wp_seq ?_
              refine wp_region_lit ?_
              refine lCx he152 rfl rfl Tryd.func20 (by kernel_rfl) rfl rfl (wanted_plain rfl _) rfl (Add_k p151 [] (52 : UInt8) 52 (by decide) (by decide) (by decide) w151 (hH151.at (i := 0) rfl)) ?_
              rintro _ w153 ⟨rfl, hf, hB_⟩
              have hH153 : Hp w [⟨p151, 39, (cbF (say ([] ++ [(52 : UInt8)])))⟩, ⟨p102, 3, #[Value.int .i64 0, Value.int .i64 7, Value.int .i64 (-1)]⟩, ⟨p100, 3, #[Value.int .i64 5, Value.int .i64 (-1)]⟩, ⟨p79, 3, #[Value.int .i64 10000]⟩, ⟨p72, 3, #[Value.int .i64 (-1), Value.int .i64 (-1)]⟩, ⟨p65, 3, #[Value.int .i64 (-1)]⟩, ⟨p54, 3, #[Value.int .i64 5, Value.int .i64 (-1), Value.int .i64 0]⟩, ⟨p27, 3, #[Value.int .i64 7, Value.int .i64 9999]⟩, ⟨p20, 3, #[Value.int .i64 (-1), Value.int .i64 (-1), Value.int .i64 (-1)]⟩, ⟨p13, 3, #[Value.int .i64 5, Value.int .i64 (-1)]⟩, ⟨p6, 3, #[Value.int .i64 5]⟩] w153 := hH151.turn 0 rfl hf hB_ rfl
              refine ⟨_, rfl, ?_⟩
              intro a154 he154
              clear he152 a152 hH151 hf hB_
              refine lV (Value.bool false) he154 rfl rfl (wanted_plain rfl _) (rn_not (b := true) rfl (he154.op rfl) w153) ?_
              intro a155 he155
              clear he154 a154
              refine lV (Value.bool false) he155 rfl rfl (wanted_plain rfl _) (rn_mv rfl (he155.op rfl) w153) ?_
              intro a156 he156
              clear he155 a155
              refine lCx he156 rfl rfl Tryd.func20 (by kernel_rfl) rfl rfl (he156.want rfl rfl rfl rfl rfl) rfl (Add_k p151 ([] ++ [(52 : UInt8)]) (50 : UInt8) 50 (by decide) (by decide) (fine_snoc (by decide) (by decide)) w153 (hH153.at (i := 0) rfl)) ?_
              rintro _ w157 ⟨rfl, hf, hB_⟩
              have hH157 : Hp w [⟨p151, 39, (cbF (say (([] ++ [(52 : UInt8)]) ++ [(50 : UInt8)])))⟩, ⟨p102, 3, #[Value.int .i64 0, Value.int .i64 7, Value.int .i64 (-1)]⟩, ⟨p100, 3, #[Value.int .i64 5, Value.int .i64 (-1)]⟩, ⟨p79, 3, #[Value.int .i64 10000]⟩, ⟨p72, 3, #[Value.int .i64 (-1), Value.int .i64 (-1)]⟩, ⟨p65, 3, #[Value.int .i64 (-1)]⟩, ⟨p54, 3, #[Value.int .i64 5, Value.int .i64 (-1), Value.int .i64 0]⟩, ⟨p27, 3, #[Value.int .i64 7, Value.int .i64 9999]⟩, ⟨p20, 3, #[Value.int .i64 (-1), Value.int .i64 (-1), Value.int .i64 (-1)]⟩, ⟨p13, 3, #[Value.int .i64 5, Value.int .i64 (-1)]⟩, ⟨p6, 3, #[Value.int .i64 5]⟩] w157 := hH153.turn 0 rfl hf hB_ rfl
              refine ⟨_, rfl, ?_⟩
              intro a158 he158
              clear he156 a156 hH153 hf hB_
              refine lV (Value.bool false) he158 rfl rfl (he158.want rfl rfl rfl rfl rfl) (rn_not (b := true) rfl (he158.op rfl) w157) ?_
              intro a159 he159
              clear he158 a158
              refine lV (Value.bool false) he159 rfl rfl (wanted_plain rfl _) (rn_pk0 rfl (he159.op rfl) (he159.op rfl) w157) ?_
              intro a160 he160
              clear he159 a159
              refine lV (Value.bool false) he160 rfl rfl (wanted_plain rfl _) (rn_mv rfl (he160.op rfl) w157) ?_
              intro a161 he161
              clear he160 a160
              refine lNewP (fun p => .slice (some ⟨p, 0, none⟩) 1 1) he161 hH157 rfl rfl (he161.want rfl rfl rfl rfl rfl) (rn_bsJ1 rfl (he161.op rfl) w157) ?_
              intro p162 w162 a163 hp hn hH162 he163
              clear he161 a161 hH157 hn hp
              refine lC he163 rfl rfl Tryd.func25 (by kernel_rfl) rfl rfl (he163.want rfl rfl rfl rfl rfl) rfl (has_c p151 (say (([] ++ [(52 : UInt8)]) ++ [(50 : UInt8)])) (some ⟨p162, 0, none⟩) 1 p162 ([42]) true (by decide +kernel) (by decide) w162 (hH162.at (i := 1) rfl) (rd_own (l := [42]) (hH162.at (i := 0) rfl))) ?_
              intro w164 a165 hn he165
              have hH164 := hH162.call hn
              clear he163 a163 hH162 hn
              refine lV (Value.bool false) he165 rfl rfl (he165.want rfl rfl rfl rfl rfl) (rn_not (b := true) rfl (he165.op rfl) w164) ?_
              intro a166 he166
              clear he165 a165
              refine lV (Value.bool false) he166 rfl rfl (wanted_plain rfl _) (rn_pk0 rfl (he166.op rfl) (he166.op rfl) w164) ?_
              intro a167 he167
              clear he166 a166
              refine lV (Value.bool false) he167 rfl rfl (wanted_plain rfl _) (rn_mv rfl (he167.op rfl) w164) ?_
              intro a168 he168
              clear he167 a167
              refine lCx he168 rfl rfl Tryd.func20 (by kernel_rfl) rfl rfl (he168.want rfl rfl rfl rfl rfl) rfl (Add_k p151 (([] ++ [(52 : UInt8)]) ++ [(50 : UInt8)]) (59 : UInt8) 59 (by decide) (by decide) (fine_snoc (fine_snoc (by decide) (by decide)) (by decide)) w164 (hH164.at (i := 1) rfl)) ?_
              rintro _ w169 ⟨rfl, hf, hB_⟩
              have hH169 : Hp w [⟨p162, 3, #[Value.int .i64 42]⟩, ⟨p151, 39, (cbF (say ((([] ++ [(52 : UInt8)]) ++ [(50 : UInt8)]) ++ [(59 : UInt8)])))⟩, ⟨p102, 3, #[Value.int .i64 0, Value.int .i64 7, Value.int .i64 (-1)]⟩, ⟨p100, 3, #[Value.int .i64 5, Value.int .i64 (-1)]⟩, ⟨p79, 3, #[Value.int .i64 10000]⟩, ⟨p72, 3, #[Value.int .i64 (-1), Value.int .i64 (-1)]⟩, ⟨p65, 3, #[Value.int .i64 (-1)]⟩, ⟨p54, 3, #[Value.int .i64 5, Value.int .i64 (-1), Value.int .i64 0]⟩, ⟨p27, 3, #[Value.int .i64 7, Value.int .i64 9999]⟩, ⟨p20, 3, #[Value.int .i64 (-1), Value.int .i64 (-1), Value.int .i64 (-1)]⟩, ⟨p13, 3, #[Value.int .i64 5, Value.int .i64 (-1)]⟩, ⟨p6, 3, #[Value.int .i64 5]⟩] w169 := hH164.turn 1 rfl hf hB_ rfl
              refine ⟨_, rfl, ?_⟩
              intro a170 he170
              clear he168 a168 hH164 hf hB_
              refine lV (Value.bool false) he170 rfl rfl (he170.want rfl rfl rfl rfl rfl) (rn_not (b := true) rfl (he170.op rfl) w169) ?_
              intro a171 he171
              clear he170 a170
              refine lV (Value.bool false) he171 rfl rfl (wanted_plain rfl _) (rn_pk0 rfl (he171.op rfl) (he171.op rfl) w169) ?_
              intro a172 he172
              clear he171 a171
              refine lV (Value.bool false) he172 rfl rfl (wanted_plain rfl _) (rn_mv rfl (he172.op rfl) w169) ?_
              intro a173 he173
              clear he172 a172
              refine lNewP (fun p => .slice (some ⟨p, 0, none⟩) 2 2) he173 hH169 rfl rfl (he173.want rfl rfl rfl rfl rfl) (rn_bsJ2 rfl (he173.op rfl) (he173.op rfl) w169) ?_
              intro p174 w174 a175 hp hn hH174 he175
              clear he173 a173 hH169 hn hp
              refine lC he175 rfl rfl Tryd.func25 (by kernel_rfl) rfl rfl (he175.want rfl rfl rfl rfl rfl) rfl (has_c p151 (say ((([] ++ [(52 : UInt8)]) ++ [(50 : UInt8)]) ++ [(59 : UInt8)])) (some ⟨p174, 0, none⟩) 2 p174 ([42, (-1)]) true (by decide +kernel) (by decide) w174 (hH174.at (i := 2) rfl) (rd_own (l := [42, (-1)]) (hH174.at (i := 0) rfl))) ?_
              intro w176 a177 hn he177
              have hH176 := hH174.call hn
              clear he175 a175 hH174 hn
              refine lV (Value.bool false) he177 rfl rfl (he177.want rfl rfl rfl rfl rfl) (rn_not (b := true) rfl (he177.op rfl) w176) ?_
              intro a178 he178
              clear he177 a177
              refine lV (Value.bool false) he178 rfl rfl (wanted_plain rfl _) (rn_pk0 rfl (he178.op rfl) (he178.op rfl) w176) ?_
              intro a179 he179
              clear he178 a178
              refine lV (Value.bool false) he179 rfl rfl (wanted_plain rfl _) (rn_mv rfl (he179.op rfl) w176) ?_
              intro a180 he180
              clear he179 a179
              refine lC he180 rfl rfl Tryd.func20 (by kernel_rfl) rfl rfl (he180.want rfl rfl rfl rfl rfl) rfl (AddNo_c p151 120 (by decide) w176) ?_
              intro w181 a182 hn he182
              have hH181 := hH176.call hn
              clear he180 a180 hH176 hn
              refine lV (Value.bool false) he182 rfl rfl (wanted_plain rfl _) (rn_pk0 rfl (he182.op rfl) (he182.op rfl) w181) ?_
              intro a183 he183
              clear he182 a182
              refine lV (Value.bool false) he183 rfl rfl (wanted_plain rfl _) (rn_mv rfl (he183.op rfl) w181) ?_
              intro a184 he184
              clear he183 a183
              refine lNewP (fun p => .slice (some ⟨p, 0, none⟩) 2 2) he184 hH181 rfl rfl (he184.want rfl rfl rfl rfl rfl) (rn_bsJ2 rfl (he184.op rfl) (he184.op rfl) w181) ?_
              intro p185 w185 a186 hp hn hH185 he186
              clear he184 a184 hH181 hn hp
              refine lC he186 rfl rfl Tryd.func25 (by kernel_rfl) rfl rfl (he186.want rfl rfl rfl rfl rfl) rfl (has_c p151 (say ((([] ++ [(52 : UInt8)]) ++ [(50 : UInt8)]) ++ [(59 : UInt8)])) (some ⟨p185, 0, none⟩) 2 p185 ([42, (-1)]) true (by decide +kernel) (by decide) w185 (hH185.at (i := 3) rfl) (rd_own (l := [42, (-1)]) (hH185.at (i := 0) rfl))) ?_
              intro w187 a188 hn he188
              have hH187 := hH185.call hn
              clear he186 a186 hH185 hn
              refine lV (Value.bool false) he188 rfl rfl (he188.want rfl rfl rfl rfl rfl) (rn_not (b := true) rfl (he188.op rfl) w187) ?_
              intro a189 he189
              clear he188 a188
              refine lV (Value.bool false) he189 rfl rfl (wanted_plain rfl _) (rn_pk0 rfl (he189.op rfl) (he189.op rfl) w187) ?_
              intro a190 he190
              clear he189 a189
              refine wpList_nil ?_
              refine then_ok ?_
              refine wp_cond_false (he190.op rfl) ?_
              refine wp_skip ?_
              refine then_ok ?_
              refine wp_seq ?_
              refine wp_region_lit ?_
              refine lCx he190 rfl rfl Tryd.func21 (by kernel_rfl) rfl rfl (wanted_plain rfl _) rfl (Reset_c p151 (say ((([] ++ [(52 : UInt8)]) ++ [(50 : UInt8)]) ++ [(59 : UInt8)])) w187 (hH187.at (i := 3) rfl)) ?_
              rintro _ w191 ⟨rfl, hf, hB_⟩
              have hH191 : Hp w [⟨p185, 3, #[Value.int .i64 42, Value.int .i64 (-1)]⟩, ⟨p174, 3, #[Value.int .i64 42, Value.int .i64 (-1)]⟩, ⟨p162, 3, #[Value.int .i64 42]⟩, ⟨p151, 39, (cbF (say []))⟩, ⟨p102, 3, #[Value.int .i64 0, Value.int .i64 7, Value.int .i64 (-1)]⟩, ⟨p100, 3, #[Value.int .i64 5, Value.int .i64 (-1)]⟩, ⟨p79, 3, #[Value.int .i64 10000]⟩, ⟨p72, 3, #[Value.int .i64 (-1), Value.int .i64 (-1)]⟩, ⟨p65, 3, #[Value.int .i64 (-1)]⟩, ⟨p54, 3, #[Value.int .i64 5, Value.int .i64 (-1), Value.int .i64 0]⟩, ⟨p27, 3, #[Value.int .i64 7, Value.int .i64 9999]⟩, ⟨p20, 3, #[Value.int .i64 (-1), Value.int .i64 (-1), Value.int .i64 (-1)]⟩, ⟨p13, 3, #[Value.int .i64 5, Value.int .i64 (-1)]⟩, ⟨p6, 3, #[Value.int .i64 5]⟩] w191 := hH187.turn 3 rfl hf hB_ rfl
              refine ⟨_, rfl, ?_⟩
              intro a192 he192
              clear he190 a190 hH187 hf hB_
              refine wpList_nil ?_
              refine then_ok ?_
              refine wp_seq ?_
              refine wp_region_lit ?_
              refine lC he192 rfl rfl Tryd.func25 (by kernel_rfl) rfl rfl (wanted_plain rfl _) rfl (has_c p151 (say []) none 0 0 ([] : List Int) true (by decide +kernel) (by decide) w191 (hH191.at (i := 3) rfl) (Rd.nil _ 0 none)) ?_
              intro w193 a194 hn he194
              have hH193 := hH191.call hn
              clear he192 a192 hH191 hn
              refine lV (Value.bool true) he194 rfl rfl (wanted_plain rfl _) (rn_asg rfl (he194.op rfl) w193) ?_
              intro a195 he195
              clear he194 a194
              refine wpList_nil ?_
              refine then_ok ?_
              refine wp_ret ?_
              try simp only [Exit.then, Exit.inBlock, Exit.noGoto]
              exact ret_env rfl he195 rfl ⟨by rfl, hH193.new⟩
end Go.Proofs.YtpebpjkhkgakfaaDoor
