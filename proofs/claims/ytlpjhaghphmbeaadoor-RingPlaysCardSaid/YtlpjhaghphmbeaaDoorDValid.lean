/-
  Which cells are valid: package cell.
-/
import Derived.Test.YtlpjhaghphmbeaaDoorDSmall
import Derived.Test.YtlpjhaghphmbeaaDoorDMarks
import Derived.Test.YtlpjhaghphmbeaaDoorA6
namespace Go.Proofs.YtlpjhaghphmbeaaDoor
open Go.RowKit

theorem Tab.drew {w : World} (h : Tab w) : Tab w.drew := h.new (Fr.drew (Fr.refl _ _))
theorem Tab.drewN {w : World} (h : Tab w) (k : Nat) : Tab (w.drewN k) := h.new (Fr.drewN (Fr.refl _ _) k)
def noM (c : Ce) : Bool := c.m0 == 0 && c.m1 == 0 && c.m2 == 0
theorem cellB_bad {c : Ce} (h : validB c.p = false) : cellB c = false := by simp [cellB, h]
theorem cellB_zero {c : Ce} (h : validB c.p = true) (hr : c.r = 0) : cellB c = ((c.wd == 0 || c.wd == 1) && noM c) := by
  have hn : (okM c && decide (nM c = 0)) = noM c := by
    unfold okM nM noM
    by_cases a : c.m0 = 0
    · by_cases b : c.m1 = 0 <;> by_cases d : c.m2 = 0 <;> simp [a, b, d]
    · simp only [a, if_false]
      have : ¬ (if c.m1 = 0 then 1 else if c.m2 = 0 then 2 else 3) = 0 := by
        split
        · omega
        · split <;> omega
      simp [a, this]
  unfold cellB
  rw [h, hr, of_zero, ← hn]
  by_cases w0 : c.wd = 0
  · simp [w0]
  · by_cases w1 : c.wd = 1
    · simp [w1]
    · by_cases w2 : c.wd = 2
      · simp [w2]
      · simp [w0, w1, w2]
theorem cellB_wr {c : Ce} (h : validB c.p = true) (hr : c.r ≠ 0) : cellB c = ((c.wd == 1 || c.wd == 2) && (decide (c.wd = ofI c.r) && okM c)) := by
  unfold cellB
  rw [h]
  by_cases w0 : c.wd = 0
  · simp [w0, hr]
  · by_cases w1 : c.wd = 1
    · simp [w1, hr, eq_comm, Bool.and_comm]
    · by_cases w2 : c.wd = 2
      · simp [w2, eq_comm, Bool.and_comm]
      · simp [w0, w1, w2]
abbrev CValidSaid (c : Ce) (b : Bool) (w : World) : Prop := Calls Tryd.prog 75 #[c.v] w fun e w' => e = .returned (.bool b) ∧ New w w'
theorem PVK (p : Pn) (b : Bool) (h : validB p = b) (w : World) : Calls Tryd.prog 79 #[p.v] w fun e w' => e = .returned (.bool b) ∧ New w w' := by
  subst h
  exact Valid_any p w
set_option linter.unusedSimpArgs false in
set_option maxRecDepth 100000 in
set_option maxHeartbeats 1600000 in
theorem CValidK (c : Ce) (b : Bool) (h : cellB c = b) (w : World) (hT : Tab w) : CValidSaid c b w := by
  subst h
  obtain ⟨pv, hpv⟩ : ∃ pv, validB c.p = pv := ⟨_, rfl⟩
  refine calls_args (vl := [Ce.v c]) 45 Tryd.func75 rfl Tryd.ntmps75 (by kernel_rfl) (fun a he => ?_)
  have he0 : Env 45 [(0, Ce.v c)] a := he
  clear he
  have hH := Hp.start w
  refine wp_seq (wp_region_lit ?_)
  refine lNew (fun p => .pointer (some ⟨p, 0, none⟩)) he0 hH rfl rfl (wanted_plain rfl _) (rn_boxC rfl (he0.op rfl) w) ?_
  intro p1 w1 a2 hn hH1 he2
  clear he0 a hH hn
  refine lW (.bool false) he2 rfl (rn_asg rfl (he2.op rfl) w1) ?_
  intro a3 he3
  clear he2 a2
  refine wpList_nil (then_ok ?_)
  cases pv with
  | false =>
    refine wp_seq ?_
    refine wp_seq (wp_region_lit ?_)
    refine lW (.pointer (some ⟨p1, 5, none⟩)) he3 rfl (rn_faC3 rfl (he3.op rfl) rfl w1) ?_
    intro a4 he4
    clear he3 a3
    refine lW (Pn.v c.p) he4 rfl (rn_ldp _ rfl (he4.op rfl) und27 rfl infoP11 (hH1.at (i := 0) rfl) rfl) ?_
    intro a5 he5
    clear he4 a4
    refine lC he5 rfl rfl Tryd.func79 (by kernel_rfl) rfl rfl (wanted_plain rfl _) rfl (PVK c.p false hpv w1) ?_
    intro w6 a7 hn he7
    have hH6 := hH1.call hn
    clear he5 a5 hH1 hn
    refine lW (.bool true) he7 rfl (rn_not (b := false) rfl (he7.op rfl) w6) ?_
    intro a8 he8
    clear he7 a7
    refine wpList_nil (then_ok ?_)
    refine wp_cond_true (he8.op rfl) ?_
    refine wp_seq (wp_region_lit ?_)
    refine lW (.bool false) he8 rfl (rn_asg rfl (he8.op rfl) w6) ?_
    intro a9 he9
    clear he8 a8
    refine wpList_nil (then_ok ?_)
    have hcb : cellB c = false := by exact cellB_bad hpv
    refine wp_ret ?_
    try simp only [Exit.then, Exit.inBlock]
    exact ret_env rfl he9 rfl ⟨by rw [hcb], hH6.new⟩
  | true =>
    refine wp_seq ?_
    refine wp_seq (wp_region_lit ?_)
    refine lW (.pointer (some ⟨p1, 5, none⟩)) he3 rfl (rn_faC3 rfl (he3.op rfl) rfl w1) ?_
    intro a10 he10
    clear he3 a3
    refine lW (Pn.v c.p) he10 rfl (rn_ldp _ rfl (he10.op rfl) und27 rfl infoP11 (hH1.at (i := 0) rfl) rfl) ?_
    intro a11 he11
    clear he10 a10
    refine lC he11 rfl rfl Tryd.func79 (by kernel_rfl) rfl rfl (wanted_plain rfl _) rfl (PVK c.p true hpv w1) ?_
    intro w12 a13 hn he13
    have hH12 := hH1.call hn
    clear he11 a11 hH1 hn
    refine lW (.bool false) he13 rfl (rn_not (b := true) rfl (he13.op rfl) w12) ?_
    intro a14 he14
    clear he13 a13
    refine wpList_nil (then_ok ?_)
    refine wp_cond_false (he14.op rfl) ?_
    refine wp_skip ?_
    refine then_ok ?_
    have he15 : Env 45 [(2, .bool false), (1, .pointer (some ⟨p1, 0, none⟩)), (0, Ce.v c)] a14 := he14.mem ⟨rfl, rfl, rfl, trivial⟩
    clear he14
    as_aux_lemma =>
      obtain ⟨er, her⟩ : ∃ er, (c.r != 0) = er := ⟨_, rfl⟩
      obtain ⟨e0, h0⟩ : ∃ e0, (c.wd == 0) = e0 := ⟨_, rfl⟩
      obtain ⟨e1, h1⟩ : ∃ e1, (c.wd == 1) = e1 := ⟨_, rfl⟩
      obtain ⟨e2, h2⟩ : ∃ e2, (c.wd == 2) = e2 := ⟨_, rfl⟩
      cases er with
      | false =>
        have r0 : c.r = 0 := by simpa using her
        refine wp_seq ?_
        refine wp_seq (wp_region_lit ?_)
        refine lW (Ce.v c) he15 rfl (rn_load rfl (he15.op rfl) (hH12.at (i := 0) rfl)) ?_
        intro a16 he16
        clear he15 a14
        refine lC he16 rfl rfl Tryd.func80 (by kernel_rfl) rfl rfl (wanted_plain rfl _) rfl (WrittenK c false her w12) ?_
        intro w17 a18 hn he18
        have hH17 := hH12.call hn
        clear he16 a16 hH12 hn
        refine lW (.bool true) he18 rfl (rn_not (b := false) rfl (he18.op rfl) w17) ?_
        intro a19 he19
        clear he18 a18
        refine wpList_nil (then_ok ?_)
        refine wp_cond_true (he19.op rfl) ?_
        have hz := cellB_zero hpv r0
        rw [h0, h1] at hz
        obtain ⟨nm, hnm⟩ : ∃ nm, noM c = nm := ⟨_, rfl⟩
        have hnm2 : (c.m0 == 0 && c.m1 == 0 && c.m2 == 0) = nm := hnm
        cases e0 with
        | true =>
          refine wp_seq (wp_region_lit ?_)
          refine lW (.pointer (some ⟨p1, 4, none⟩)) he19 rfl (rn_faC2 rfl (he19.op rfl) rfl w17) ?_
          intro a20 he20
          clear he19 a19
          refine lW (.int .i64 c.wd) he20 rfl (rn_ld1 rfl (he20.op rfl) Tryd.underlying3 (hH17.at (i := 0) rfl) rfl) ?_
          intro a21 he21
          clear he20 a20
          refine lW (.bool true) he21 rfl (rn_eqI rfl (he21.op rfl) (he21.op rfl) h0 w17) ?_
          intro a22 he22
          clear he21 a21
          refine lW (.bool true) he22 rfl (rn_mv rfl (he22.op rfl) w17) ?_
          intro a23 he23
          clear he22 a22
          refine lSkip he23 rfl rfl (he23.wantNot rfl rfl rfl rfl rfl rfl) ?_
          intro a24 he24
          clear he23 a23
          refine lSkip he24 rfl rfl (he24.wantNot rfl rfl rfl rfl rfl rfl) ?_
          intro a25 he25
          clear he24 a24
          refine lSkip he25 rfl rfl (he25.wantNot rfl rfl rfl rfl rfl rfl) ?_
          intro a26 he26
          clear he25 a25
          refine lW (.bool true) he26 rfl (rn_pk rfl (he26.op rfl) (he26.op rfl) w17) ?_
          intro a27 he27
          clear he26 a26
          refine lW (.bool true) he27 rfl (rn_mv rfl (he27.op rfl) w17) ?_
          intro a28 he28
          clear he27 a27
          refine lV (.pointer (some ⟨p1, 1, none⟩)) he28 rfl rfl (he28.want rfl rfl rfl rfl rfl) (rn_faC1 rfl (he28.op rfl) rfl w17) ?_
          intro a29 he29
          clear he28 a28
          refine lV (.agg #[.int .i32 c.m0, .int .i32 c.m1, .int .i32 c.m2]) he29 rfl rfl (he29.want rfl rfl rfl rfl rfl) (rn_ldp _ rfl (he29.op rfl) Tryd.underlying87 rfl infoM3 (hH17.at (i := 0) rfl) rfl) ?_
          intro a30 he30
          clear he29 a29
          refine lV (.agg #[.int .i32 0, .int .i32 0, .int .i32 0]) he30 rfl rfl (he30.want rfl rfl rfl rfl rfl) (rn_bM0 rfl w17) ?_
          intro a31 he31
          clear he30 a30
          refine lV (.bool nm) he31 rfl rfl (he31.want rfl rfl rfl rfl rfl) (rn_eqM rfl (he31.op rfl) (he31.op rfl) hnm2 w17) ?_
          intro a32 he32
          clear he31 a31
          refine lW (.bool nm) he32 rfl (rn_pk rfl (he32.op rfl) (he32.op rfl) w17) ?_
          intro a33 he33
          clear he32 a32
          refine lW (.bool nm) he33 rfl (rn_asg rfl (he33.op rfl) w17) ?_
          intro a34 he34
          clear he33 a33
          refine wpList_nil (then_ok ?_)
          have hcb : cellB c = nm := by rw [hz, hnm]; simp
          refine wp_ret ?_
          try simp only [Exit.then, Exit.inBlock]
          exact ret_env rfl he34 rfl ⟨by rw [hcb], hH17.new⟩
        | false =>
          cases e1 with
          | true =>
            refine wp_seq (wp_region_lit ?_)
            refine lW (.pointer (some ⟨p1, 4, none⟩)) he19 rfl (rn_faC2 rfl (he19.op rfl) rfl w17) ?_
            intro a35 he35
            clear he19 a19
            refine lW (.int .i64 c.wd) he35 rfl (rn_ld1 rfl (he35.op rfl) Tryd.underlying3 (hH17.at (i := 0) rfl) rfl) ?_
            intro a36 he36
            clear he35 a35
            refine lW (.bool false) he36 rfl (rn_eqI rfl (he36.op rfl) (he36.op rfl) h0 w17) ?_
            intro a37 he37
            clear he36 a36
            refine lW (.bool false) he37 rfl (rn_mv rfl (he37.op rfl) w17) ?_
            intro a38 he38
            clear he37 a37
            refine lV (.pointer (some ⟨p1, 4, none⟩)) he38 rfl rfl (he38.want rfl rfl rfl rfl rfl) (rn_faC2 rfl (he38.op rfl) rfl w17) ?_
            intro a39 he39
            clear he38 a38
            refine lV (.int .i64 c.wd) he39 rfl rfl (he39.want rfl rfl rfl rfl rfl) (rn_ld1 rfl (he39.op rfl) Tryd.underlying3 (hH17.at (i := 0) rfl) rfl) ?_
            intro a40 he40
            clear he39 a39
            refine lV (.bool true) he40 rfl rfl (he40.want rfl rfl rfl rfl rfl) (rn_eqI rfl (he40.op rfl) (he40.op rfl) h1 w17) ?_
            intro a41 he41
            clear he40 a40
            refine lW (.bool true) he41 rfl (rn_pk0 rfl (he41.op rfl) (he41.op rfl) w17) ?_
            intro a42 he42
            clear he41 a41
            refine lW (.bool true) he42 rfl (rn_mv rfl (he42.op rfl) w17) ?_
            intro a43 he43
            clear he42 a42
            refine lV (.pointer (some ⟨p1, 1, none⟩)) he43 rfl rfl (he43.want rfl rfl rfl rfl rfl) (rn_faC1 rfl (he43.op rfl) rfl w17) ?_
            intro a44 he44
            clear he43 a43
            refine lV (.agg #[.int .i32 c.m0, .int .i32 c.m1, .int .i32 c.m2]) he44 rfl rfl (he44.want rfl rfl rfl rfl rfl) (rn_ldp _ rfl (he44.op rfl) Tryd.underlying87 rfl infoM3 (hH17.at (i := 0) rfl) rfl) ?_
            intro a45 he45
            clear he44 a44
            refine lV (.agg #[.int .i32 0, .int .i32 0, .int .i32 0]) he45 rfl rfl (he45.want rfl rfl rfl rfl rfl) (rn_bM0 rfl w17) ?_
            intro a46 he46
            clear he45 a45
            refine lV (.bool nm) he46 rfl rfl (he46.want rfl rfl rfl rfl rfl) (rn_eqM rfl (he46.op rfl) (he46.op rfl) hnm2 w17) ?_
            intro a47 he47
            clear he46 a46
            refine lW (.bool nm) he47 rfl (rn_pk rfl (he47.op rfl) (he47.op rfl) w17) ?_
            intro a48 he48
            clear he47 a47
            refine lW (.bool nm) he48 rfl (rn_asg rfl (he48.op rfl) w17) ?_
            intro a49 he49
            clear he48 a48
            refine wpList_nil (then_ok ?_)
            have hcb : cellB c = nm := by rw [hz, hnm]; simp
            refine wp_ret ?_
            try simp only [Exit.then, Exit.inBlock]
            exact ret_env rfl he49 rfl ⟨by rw [hcb], hH17.new⟩
          | false =>
            refine wp_seq (wp_region_lit ?_)
            refine lW (.pointer (some ⟨p1, 4, none⟩)) he19 rfl (rn_faC2 rfl (he19.op rfl) rfl w17) ?_
            intro a50 he50
            clear he19 a19
            refine lW (.int .i64 c.wd) he50 rfl (rn_ld1 rfl (he50.op rfl) Tryd.underlying3 (hH17.at (i := 0) rfl) rfl) ?_
            intro a51 he51
            clear he50 a50
            refine lW (.bool false) he51 rfl (rn_eqI rfl (he51.op rfl) (he51.op rfl) h0 w17) ?_
            intro a52 he52
            clear he51 a51
            refine lW (.bool false) he52 rfl (rn_mv rfl (he52.op rfl) w17) ?_
            intro a53 he53
            clear he52 a52
            refine lV (.pointer (some ⟨p1, 4, none⟩)) he53 rfl rfl (he53.want rfl rfl rfl rfl rfl) (rn_faC2 rfl (he53.op rfl) rfl w17) ?_
            intro a54 he54
            clear he53 a53
            refine lV (.int .i64 c.wd) he54 rfl rfl (he54.want rfl rfl rfl rfl rfl) (rn_ld1 rfl (he54.op rfl) Tryd.underlying3 (hH17.at (i := 0) rfl) rfl) ?_
            intro a55 he55
            clear he54 a54
            refine lV (.bool false) he55 rfl rfl (he55.want rfl rfl rfl rfl rfl) (rn_eqI rfl (he55.op rfl) (he55.op rfl) h1 w17) ?_
            intro a56 he56
            clear he55 a55
            refine lW (.bool false) he56 rfl (rn_pk0 rfl (he56.op rfl) (he56.op rfl) w17) ?_
            intro a57 he57
            clear he56 a56
            refine lW (.bool false) he57 rfl (rn_mv rfl (he57.op rfl) w17) ?_
            intro a58 he58
            clear he57 a57
            refine lSkip he58 rfl rfl (he58.wantNot rfl rfl rfl rfl rfl rfl) ?_
            intro a59 he59
            clear he58 a58
            refine lSkip he59 rfl rfl (he59.wantNot rfl rfl rfl rfl rfl rfl) ?_
            intro a60 he60
            clear he59 a59
            refine lSkip he60 rfl rfl (he60.wantNot rfl rfl rfl rfl rfl rfl) ?_
            intro a61 he61
            clear he60 a60
            refine lSkip he61 rfl rfl (he61.wantNot rfl rfl rfl rfl rfl rfl) ?_
            intro a62 he62
            clear he61 a61
            refine lW (.bool false) he62 rfl (rn_pk0 rfl (he62.op rfl) (he62.op rfl) w17) ?_
            intro a63 he63
            clear he62 a62
            refine lW (.bool false) he63 rfl (rn_asg rfl (he63.op rfl) w17) ?_
            intro a64 he64
            clear he63 a63
            refine wpList_nil (then_ok ?_)
            have hcb : cellB c = false := by rw [hz]; simp
            refine wp_ret ?_
            try simp only [Exit.then, Exit.inBlock]
            exact ret_env rfl he64 rfl ⟨by rw [hcb], hH17.new⟩
      | true =>
        have r0 : c.r ≠ 0 := by simpa using her
        refine wp_seq ?_
        refine wp_seq (wp_region_lit ?_)
        refine lW (Ce.v c) he15 rfl (rn_load rfl (he15.op rfl) (hH12.at (i := 0) rfl)) ?_
        intro a65 he65
        clear he15 a14
        refine lC he65 rfl rfl Tryd.func80 (by kernel_rfl) rfl rfl (wanted_plain rfl _) rfl (WrittenK c true her w12) ?_
        intro w66 a67 hn he67
        have hH66 := hH12.call hn
        clear he65 a65 hH12 hn
        refine lW (.bool false) he67 rfl (rn_not (b := true) rfl (he67.op rfl) w66) ?_
        intro a68 he68
        clear he67 a67
        refine wpList_nil (then_ok ?_)
        refine wp_cond_false (he68.op rfl) ?_
        refine wp_skip ?_
        refine then_ok ?_
        have hz := cellB_wr hpv r0
        rw [h1, h2] at hz
        obtain ⟨q, hq⟩ : ∃ q, ofI c.r = q := ⟨_, rfl⟩
        obtain ⟨eq, heq⟩ : ∃ eq, (c.wd == q) = eq := ⟨_, rfl⟩
        have heq2 : decide (c.wd = ofI c.r) = eq := by rw [hq, ← heq]; rfl
        rw [heq2] at hz
        cases e1 with
        | true =>
          cases eq with
          | true =>
            refine wp_seq ?_
            refine wp_region_held_drew (S := Hp w [⟨p1, 95, (Ce.cs c)⟩]) (by kernel_rfl) (hH66.drew) (fun _ => ?_)
            have hn : New w66 (World.drew w66) := (Fr.refl _ _).drew
            clear hn
            have hH69 := hH66.drew
            clear hH66
            generalize World.drew w66 = w69 at *
            refine hW (fuel := 21) (i := 0) (.pointer (some ⟨p1, 4, none⟩)) he68 rfl (by kernel_rfl) (fun _ _ _ h => h) (fun w' _ => rn_faC2 rfl (he68.op rfl) rfl w') hH69 ?_
            intro a70 he70
            clear he68 a68
            refine hW (fuel := 20) (i := 1) (.int .i64 c.wd) he70 rfl (by kernel_rfl) (fun _ _ _ h => h) (fun w' hw' => rn_ld1 rfl (he70.op rfl) Tryd.underlying3 (hw'.at (i := 0) rfl) rfl) hH69 ?_
            intro a71 he71
            clear he70 a70
            refine hW (fuel := 19) (i := 2) (.bool true) he71 rfl (by kernel_rfl) (fun _ _ _ h => h) (fun w' _ => rn_eqI rfl (he71.op rfl) (he71.op rfl) h1 w') hH69 ?_
            intro a72 he72
            clear he71 a71
            refine hW (fuel := 18) (i := 3) (.bool true) he72 rfl (by kernel_rfl) (fun _ _ _ h => h) (fun w' _ => rn_mv rfl (he72.op rfl) w') hH69 ?_
            intro a73 he73
            clear he72 a72
            refine hSkip (fuel := 17) (i := 4) he73 rfl rfl rfl (by kernel_rfl) (by kernel_rfl) (by kernel_rfl) (fun _ _ _ h => h) (he73.wantNot rfl rfl rfl rfl rfl rfl) hH69 ?_
            intro a74 he74
            clear he73 a73
            refine hSkip (fuel := 16) (i := 5) he74 rfl rfl rfl (by kernel_rfl) (by kernel_rfl) (by kernel_rfl) (fun _ _ _ h => h) (he74.wantNot rfl rfl rfl rfl rfl rfl) hH69 ?_
            intro a75 he75
            clear he74 a74
            refine hSkip (fuel := 15) (i := 6) he75 rfl rfl rfl (by kernel_rfl) (by kernel_rfl) (by kernel_rfl) (fun _ _ _ h => h) (he75.wantNot rfl rfl rfl rfl rfl rfl) hH69 ?_
            intro a76 he76
            clear he75 a75
            refine hW (fuel := 14) (i := 7) (.bool true) he76 rfl (by kernel_rfl) (fun _ _ _ h => h) (fun w' _ => rn_pk rfl (he76.op rfl) (he76.op rfl) w') hH69 ?_
            intro a77 he77
            clear he76 a76
            refine hW (fuel := 13) (i := 8) (.bool true) he77 rfl (by kernel_rfl) (fun _ _ _ h => h) (fun w' _ => rn_mv rfl (he77.op rfl) w') hH69 ?_
            intro a78 he78
            clear he77 a77
            refine hV (fuel := 12) (i := 9) (.pointer (some ⟨p1, 4, none⟩)) he78 rfl rfl rfl (by kernel_rfl) (by kernel_rfl) (by kernel_rfl) (fun _ _ _ h => h) (he78.want rfl rfl rfl rfl rfl) (fun w' _ => rn_faC2 rfl (he78.op rfl) rfl w') hH69 ?_
            intro a79 he79
            clear he78 a78
            refine hV (fuel := 11) (i := 10) (.int .i64 c.wd) he79 rfl rfl rfl (by kernel_rfl) (by kernel_rfl) (by kernel_rfl) (fun _ _ _ h => h) (he79.want rfl rfl rfl rfl rfl) (fun w' hw' => rn_ld1 rfl (he79.op rfl) Tryd.underlying3 (hw'.at (i := 0) rfl) rfl) hH69 ?_
            intro a80 he80
            clear he79 a79
            refine hV (fuel := 10) (i := 11) (.pointer (some ⟨p1, 0, none⟩)) he80 rfl rfl rfl (by kernel_rfl) (by kernel_rfl) (by kernel_rfl) (fun _ _ _ h => h) (he80.want rfl rfl rfl rfl rfl) (fun w' _ => rn_faC0 rfl (he80.op rfl) rfl w') hH69 ?_
            intro a81 he81
            clear he80 a80
            refine hV (fuel := 9) (i := 12) (.int .i32 c.r) he81 rfl rfl rfl (by kernel_rfl) (by kernel_rfl) (by kernel_rfl) (fun _ _ _ h => h) (he81.want rfl rfl rfl rfl rfl) (fun w' hw' => rn_ld1 rfl (he81.op rfl) Tryd.underlying21 (hw'.at (i := 0) rfl) rfl) hH69 ?_
            intro a82 he82
            clear he81 a81
            refine hC (fuel := 8) (i := 13) he82 (by kernel_rfl) rfl rfl rfl Tryd.func81 (by kernel_rfl) rfl rfl (he82.want rfl rfl rfl rfl rfl) rfl (OfK c.r q hq w69 (hT.new hH69.new)) ?_
            rintro _ w83 ⟨rfl, hn⟩
            have hH83 := hH69.call hn
            refine ⟨_, rfl, hH83, ?_⟩
            intro a84 he84
            clear he82 a82 hH69 hn
            refine hV (fuel := 7) (i := 14) (.bool true) he84 rfl rfl rfl (by kernel_rfl) (by kernel_rfl) (by kernel_rfl) (fun _ _ _ h => h) (he84.want rfl rfl rfl rfl rfl) (fun w' _ => rn_eqI rfl (he84.op rfl) (he84.op rfl) heq w') hH83 ?_
            intro a85 he85
            clear he84 a84
            refine hW (fuel := 6) (i := 15) (.bool true) he85 rfl (by kernel_rfl) (fun _ _ _ h => h) (fun w' _ => rn_pk rfl (he85.op rfl) (he85.op rfl) w') hH83 ?_
            intro a86 he86
            clear he85 a85
            refine hW (fuel := 5) (i := 16) (.bool true) he86 rfl (by kernel_rfl) (fun _ _ _ h => h) (fun w' _ => rn_mv rfl (he86.op rfl) w') hH83 ?_
            intro a87 he87
            clear he86 a86
            refine hV (fuel := 4) (i := 17) (.pointer (some ⟨p1, 1, none⟩)) he87 rfl rfl rfl (by kernel_rfl) (by kernel_rfl) (by kernel_rfl) (fun _ _ _ h => h) (he87.want rfl rfl rfl rfl rfl) (fun w' _ => rn_faC1 rfl (he87.op rfl) rfl w') hH83 ?_
            intro a88 he88
            clear he87 a87
            refine hV (fuel := 3) (i := 18) (.agg #[.int .i32 c.m0, .int .i32 c.m1, .int .i32 c.m2]) he88 rfl rfl rfl (by kernel_rfl) (by kernel_rfl) (by kernel_rfl) (fun _ _ _ h => h) (he88.want rfl rfl rfl rfl rfl) (fun w' hw' => rn_ldp _ rfl (he88.op rfl) Tryd.underlying87 rfl infoM3 (hw'.at (i := 0) rfl) rfl) hH83 ?_
            intro a89 he89
            clear he88 a88
            refine hC (fuel := 2) (i := 19) he89 (by kernel_rfl) rfl rfl rfl Tryd.func82 (by kernel_rfl) rfl rfl (he89.want rfl rfl rfl rfl rfl) rfl (areMarks_any c w83 (hT.new hH83.new)) ?_
            rintro _ w90 ⟨rfl, hn⟩
            have hH90 := hH83.call hn
            refine ⟨_, rfl, hH90, ?_⟩
            intro a91 he91
            clear he89 a89 hH83 hn
            refine hW (fuel := 1) (i := 20) (.bool (okM c)) he91 rfl (by kernel_rfl) (fun _ _ _ h => h) (fun w' _ => rn_pk rfl (he91.op rfl) (he91.op rfl) w') hH90 ?_
            intro a92 he92
            clear he91 a91
            refine hW (fuel := 0) (i := 21) (.bool (okM c)) he92 rfl (by kernel_rfl) (fun _ _ _ h => h) (fun w' _ => rn_asg rfl (he92.op rfl) w') hH90 ?_
            intro a93 he93
            clear he92 a92
            refine wpAnyH_done (by kernel_rfl) ?_ _
            refine then_ok ?_
            have hcb : cellB c = okM c := by rw [hz]; simp
            refine wp_ret ?_
            try simp only [Exit.then, Exit.inBlock]
            exact ret_env rfl he93 rfl ⟨by rw [hcb], hH90.new⟩
          | false =>
            refine wp_seq ?_
            refine wp_region_held_drew (S := Hp w [⟨p1, 95, (Ce.cs c)⟩]) (by kernel_rfl) (hH66.drew) (fun _ => ?_)
            have hn : New w66 (World.drew w66) := (Fr.refl _ _).drew
            clear hn
            have hH94 := hH66.drew
            clear hH66
            generalize World.drew w66 = w94 at *
            refine hW (fuel := 21) (i := 0) (.pointer (some ⟨p1, 4, none⟩)) he68 rfl (by kernel_rfl) (fun _ _ _ h => h) (fun w' _ => rn_faC2 rfl (he68.op rfl) rfl w') hH94 ?_
            intro a95 he95
            clear he68 a68
            refine hW (fuel := 20) (i := 1) (.int .i64 c.wd) he95 rfl (by kernel_rfl) (fun _ _ _ h => h) (fun w' hw' => rn_ld1 rfl (he95.op rfl) Tryd.underlying3 (hw'.at (i := 0) rfl) rfl) hH94 ?_
            intro a96 he96
            clear he95 a95
            refine hW (fuel := 19) (i := 2) (.bool true) he96 rfl (by kernel_rfl) (fun _ _ _ h => h) (fun w' _ => rn_eqI rfl (he96.op rfl) (he96.op rfl) h1 w') hH94 ?_
            intro a97 he97
            clear he96 a96
            refine hW (fuel := 18) (i := 3) (.bool true) he97 rfl (by kernel_rfl) (fun _ _ _ h => h) (fun w' _ => rn_mv rfl (he97.op rfl) w') hH94 ?_
            intro a98 he98
            clear he97 a97
            refine hSkip (fuel := 17) (i := 4) he98 rfl rfl rfl (by kernel_rfl) (by kernel_rfl) (by kernel_rfl) (fun _ _ _ h => h) (he98.wantNot rfl rfl rfl rfl rfl rfl) hH94 ?_
            intro a99 he99
            clear he98 a98
            refine hSkip (fuel := 16) (i := 5) he99 rfl rfl rfl (by kernel_rfl) (by kernel_rfl) (by kernel_rfl) (fun _ _ _ h => h) (he99.wantNot rfl rfl rfl rfl rfl rfl) hH94 ?_
            intro a100 he100
            clear he99 a99
            refine hSkip (fuel := 15) (i := 6) he100 rfl rfl rfl (by kernel_rfl) (by kernel_rfl) (by kernel_rfl) (fun _ _ _ h => h) (he100.wantNot rfl rfl rfl rfl rfl rfl) hH94 ?_
            intro a101 he101
            clear he100 a100
            refine hW (fuel := 14) (i := 7) (.bool true) he101 rfl (by kernel_rfl) (fun _ _ _ h => h) (fun w' _ => rn_pk rfl (he101.op rfl) (he101.op rfl) w') hH94 ?_
            intro a102 he102
            clear he101 a101
            refine hW (fuel := 13) (i := 8) (.bool true) he102 rfl (by kernel_rfl) (fun _ _ _ h => h) (fun w' _ => rn_mv rfl (he102.op rfl) w') hH94 ?_
            intro a103 he103
            clear he102 a102
            refine hV (fuel := 12) (i := 9) (.pointer (some ⟨p1, 4, none⟩)) he103 rfl rfl rfl (by kernel_rfl) (by kernel_rfl) (by kernel_rfl) (fun _ _ _ h => h) (he103.want rfl rfl rfl rfl rfl) (fun w' _ => rn_faC2 rfl (he103.op rfl) rfl w') hH94 ?_
            intro a104 he104
            clear he103 a103
            refine hV (fuel := 11) (i := 10) (.int .i64 c.wd) he104 rfl rfl rfl (by kernel_rfl) (by kernel_rfl) (by kernel_rfl) (fun _ _ _ h => h) (he104.want rfl rfl rfl rfl rfl) (fun w' hw' => rn_ld1 rfl (he104.op rfl) Tryd.underlying3 (hw'.at (i := 0) rfl) rfl) hH94 ?_
            intro a105 he105
            clear he104 a104
            refine hV (fuel := 10) (i := 11) (.pointer (some ⟨p1, 0, none⟩)) he105 rfl rfl rfl (by kernel_rfl) (by kernel_rfl) (by kernel_rfl) (fun _ _ _ h => h) (he105.want rfl rfl rfl rfl rfl) (fun w' _ => rn_faC0 rfl (he105.op rfl) rfl w') hH94 ?_
            intro a106 he106
            clear he105 a105
            refine hV (fuel := 9) (i := 12) (.int .i32 c.r) he106 rfl rfl rfl (by kernel_rfl) (by kernel_rfl) (by kernel_rfl) (fun _ _ _ h => h) (he106.want rfl rfl rfl rfl rfl) (fun w' hw' => rn_ld1 rfl (he106.op rfl) Tryd.underlying21 (hw'.at (i := 0) rfl) rfl) hH94 ?_
            intro a107 he107
            clear he106 a106
            refine hC (fuel := 8) (i := 13) he107 (by kernel_rfl) rfl rfl rfl Tryd.func81 (by kernel_rfl) rfl rfl (he107.want rfl rfl rfl rfl rfl) rfl (OfK c.r q hq w94 (hT.new hH94.new)) ?_
            rintro _ w108 ⟨rfl, hn⟩
            have hH108 := hH94.call hn
            refine ⟨_, rfl, hH108, ?_⟩
            intro a109 he109
            clear he107 a107 hH94 hn
            refine hV (fuel := 7) (i := 14) (.bool false) he109 rfl rfl rfl (by kernel_rfl) (by kernel_rfl) (by kernel_rfl) (fun _ _ _ h => h) (he109.want rfl rfl rfl rfl rfl) (fun w' _ => rn_eqI rfl (he109.op rfl) (he109.op rfl) heq w') hH108 ?_
            intro a110 he110
            clear he109 a109
            refine hW (fuel := 6) (i := 15) (.bool false) he110 rfl (by kernel_rfl) (fun _ _ _ h => h) (fun w' _ => rn_pk rfl (he110.op rfl) (he110.op rfl) w') hH108 ?_
            intro a111 he111
            clear he110 a110
            refine hW (fuel := 5) (i := 16) (.bool false) he111 rfl (by kernel_rfl) (fun _ _ _ h => h) (fun w' _ => rn_mv rfl (he111.op rfl) w') hH108 ?_
            intro a112 he112
            clear he111 a111
            refine hSkip (fuel := 4) (i := 17) he112 rfl rfl rfl (by kernel_rfl) (by kernel_rfl) (by kernel_rfl) (fun _ _ _ h => h) (he112.wantNot rfl rfl rfl rfl rfl rfl) hH108 ?_
            intro a113 he113
            clear he112 a112
            refine hSkip (fuel := 3) (i := 18) he113 rfl rfl rfl (by kernel_rfl) (by kernel_rfl) (by kernel_rfl) (fun _ _ _ h => h) (he113.wantNot rfl rfl rfl rfl rfl rfl) hH108 ?_
            intro a114 he114
            clear he113 a113
            refine hSkip (fuel := 2) (i := 19) he114 rfl rfl rfl (by kernel_rfl) (by kernel_rfl) (by kernel_rfl) (fun _ _ _ h => h) (he114.wantNot rfl rfl rfl rfl rfl rfl) hH108 ?_
            intro a115 he115
            clear he114 a114
            refine hW (fuel := 1) (i := 20) (.bool false) he115 rfl (by kernel_rfl) (fun _ _ _ h => h) (fun w' _ => rn_pk0 rfl (he115.op rfl) (he115.op rfl) w') hH108 ?_
            intro a116 he116
            clear he115 a115
            refine hW (fuel := 0) (i := 21) (.bool false) he116 rfl (by kernel_rfl) (fun _ _ _ h => h) (fun w' _ => rn_asg rfl (he116.op rfl) w') hH108 ?_
            intro a117 he117
            clear he116 a116
            refine wpAnyH_done (by kernel_rfl) ?_ _
            refine then_ok ?_
            have hcb : cellB c = false := by rw [hz]; simp
            refine wp_ret ?_
            try simp only [Exit.then, Exit.inBlock]
            exact ret_env rfl he117 rfl ⟨by rw [hcb], hH108.new⟩
        | false =>
          cases e2 with
          | false =>
            refine wp_seq ?_
            refine wp_region_held_drew (S := Hp w [⟨p1, 95, (Ce.cs c)⟩]) (by kernel_rfl) (hH66.drew) (fun _ => ?_)
            have hn : New w66 (World.drew w66) := (Fr.refl _ _).drew
            clear hn
            have hH118 := hH66.drew
            clear hH66
            generalize World.drew w66 = w118 at *
            refine hW (fuel := 21) (i := 0) (.pointer (some ⟨p1, 4, none⟩)) he68 rfl (by kernel_rfl) (fun _ _ _ h => h) (fun w' _ => rn_faC2 rfl (he68.op rfl) rfl w') hH118 ?_
            intro a119 he119
            clear he68 a68
            refine hW (fuel := 20) (i := 1) (.int .i64 c.wd) he119 rfl (by kernel_rfl) (fun _ _ _ h => h) (fun w' hw' => rn_ld1 rfl (he119.op rfl) Tryd.underlying3 (hw'.at (i := 0) rfl) rfl) hH118 ?_
            intro a120 he120
            clear he119 a119
            refine hW (fuel := 19) (i := 2) (.bool false) he120 rfl (by kernel_rfl) (fun _ _ _ h => h) (fun w' _ => rn_eqI rfl (he120.op rfl) (he120.op rfl) h1 w') hH118 ?_
            intro a121 he121
            clear he120 a120
            refine hW (fuel := 18) (i := 3) (.bool false) he121 rfl (by kernel_rfl) (fun _ _ _ h => h) (fun w' _ => rn_mv rfl (he121.op rfl) w') hH118 ?_
            intro a122 he122
            clear he121 a121
            refine hV (fuel := 17) (i := 4) (.pointer (some ⟨p1, 4, none⟩)) he122 rfl rfl rfl (by kernel_rfl) (by kernel_rfl) (by kernel_rfl) (fun _ _ _ h => h) (he122.want rfl rfl rfl rfl rfl) (fun w' _ => rn_faC2 rfl (he122.op rfl) rfl w') hH118 ?_
            intro a123 he123
            clear he122 a122
            refine hV (fuel := 16) (i := 5) (.int .i64 c.wd) he123 rfl rfl rfl (by kernel_rfl) (by kernel_rfl) (by kernel_rfl) (fun _ _ _ h => h) (he123.want rfl rfl rfl rfl rfl) (fun w' hw' => rn_ld1 rfl (he123.op rfl) Tryd.underlying3 (hw'.at (i := 0) rfl) rfl) hH118 ?_
            intro a124 he124
            clear he123 a123
            refine hV (fuel := 15) (i := 6) (.bool false) he124 rfl rfl rfl (by kernel_rfl) (by kernel_rfl) (by kernel_rfl) (fun _ _ _ h => h) (he124.want rfl rfl rfl rfl rfl) (fun w' _ => rn_eqI rfl (he124.op rfl) (he124.op rfl) h2 w') hH118 ?_
            intro a125 he125
            clear he124 a124
            refine hW (fuel := 14) (i := 7) (.bool false) he125 rfl (by kernel_rfl) (fun _ _ _ h => h) (fun w' _ => rn_pk0 rfl (he125.op rfl) (he125.op rfl) w') hH118 ?_
            intro a126 he126
            clear he125 a125
            refine hW (fuel := 13) (i := 8) (.bool false) he126 rfl (by kernel_rfl) (fun _ _ _ h => h) (fun w' _ => rn_mv rfl (he126.op rfl) w') hH118 ?_
            intro a127 he127
            clear he126 a126
            refine hSkip (fuel := 12) (i := 9) he127 rfl rfl rfl (by kernel_rfl) (by kernel_rfl) (by kernel_rfl) (fun _ _ _ h => h) (he127.wantNot rfl rfl rfl rfl rfl rfl) hH118 ?_
            intro a128 he128
            clear he127 a127
            refine hSkip (fuel := 11) (i := 10) he128 rfl rfl rfl (by kernel_rfl) (by kernel_rfl) (by kernel_rfl) (fun _ _ _ h => h) (he128.wantNot rfl rfl rfl rfl rfl rfl) hH118 ?_
            intro a129 he129
            clear he128 a128
            refine hSkip (fuel := 10) (i := 11) he129 rfl rfl rfl (by kernel_rfl) (by kernel_rfl) (by kernel_rfl) (fun _ _ _ h => h) (he129.wantNot rfl rfl rfl rfl rfl rfl) hH118 ?_
            intro a130 he130
            clear he129 a129
            refine hSkip (fuel := 9) (i := 12) he130 rfl rfl rfl (by kernel_rfl) (by kernel_rfl) (by kernel_rfl) (fun _ _ _ h => h) (he130.wantNot rfl rfl rfl rfl rfl rfl) hH118 ?_
            intro a131 he131
            clear he130 a130
            refine hSkip (fuel := 8) (i := 13) he131 rfl rfl rfl (by kernel_rfl) (by kernel_rfl) (by kernel_rfl) (fun _ _ _ h => h) (he131.wantNot rfl rfl rfl rfl rfl rfl) hH118 ?_
            intro a132 he132
            clear he131 a131
            refine hSkip (fuel := 7) (i := 14) he132 rfl rfl rfl (by kernel_rfl) (by kernel_rfl) (by kernel_rfl) (fun _ _ _ h => h) (he132.wantNot rfl rfl rfl rfl rfl rfl) hH118 ?_
            intro a133 he133
            clear he132 a132
            refine hW (fuel := 6) (i := 15) (.bool false) he133 rfl (by kernel_rfl) (fun _ _ _ h => h) (fun w' _ => rn_pk0 rfl (he133.op rfl) (he133.op rfl) w') hH118 ?_
            intro a134 he134
            clear he133 a133
            refine hW (fuel := 5) (i := 16) (.bool false) he134 rfl (by kernel_rfl) (fun _ _ _ h => h) (fun w' _ => rn_mv rfl (he134.op rfl) w') hH118 ?_
            intro a135 he135
            clear he134 a134
            refine hSkip (fuel := 4) (i := 17) he135 rfl rfl rfl (by kernel_rfl) (by kernel_rfl) (by kernel_rfl) (fun _ _ _ h => h) (he135.wantNot rfl rfl rfl rfl rfl rfl) hH118 ?_
            intro a136 he136
            clear he135 a135
            refine hSkip (fuel := 3) (i := 18) he136 rfl rfl rfl (by kernel_rfl) (by kernel_rfl) (by kernel_rfl) (fun _ _ _ h => h) (he136.wantNot rfl rfl rfl rfl rfl rfl) hH118 ?_
            intro a137 he137
            clear he136 a136
            refine hSkip (fuel := 2) (i := 19) he137 rfl rfl rfl (by kernel_rfl) (by kernel_rfl) (by kernel_rfl) (fun _ _ _ h => h) (he137.wantNot rfl rfl rfl rfl rfl rfl) hH118 ?_
            intro a138 he138
            clear he137 a137
            refine hW (fuel := 1) (i := 20) (.bool false) he138 rfl (by kernel_rfl) (fun _ _ _ h => h) (fun w' _ => rn_pk0 rfl (he138.op rfl) (he138.op rfl) w') hH118 ?_
            intro a139 he139
            clear he138 a138
            refine hW (fuel := 0) (i := 21) (.bool false) he139 rfl (by kernel_rfl) (fun _ _ _ h => h) (fun w' _ => rn_asg rfl (he139.op rfl) w') hH118 ?_
            intro a140 he140
            clear he139 a139
            refine wpAnyH_done (by kernel_rfl) ?_ _
            refine then_ok ?_
            have hcb : cellB c = false := by rw [hz]; simp
            refine wp_ret ?_
            try simp only [Exit.then, Exit.inBlock]
            exact ret_env rfl he140 rfl ⟨by rw [hcb], hH118.new⟩
          | true =>
            cases eq with
            | true =>
              refine wp_seq ?_
              refine wp_region_held_drew (S := Hp w [⟨p1, 95, (Ce.cs c)⟩]) (by kernel_rfl) (hH66.drew) (fun _ => ?_)
              have hn : New w66 (World.drew w66) := (Fr.refl _ _).drew
              clear hn
              have hH141 := hH66.drew
              clear hH66
              generalize World.drew w66 = w141 at *
              refine hW (fuel := 21) (i := 0) (.pointer (some ⟨p1, 4, none⟩)) he68 rfl (by kernel_rfl) (fun _ _ _ h => h) (fun w' _ => rn_faC2 rfl (he68.op rfl) rfl w') hH141 ?_
              intro a142 he142
              clear he68 a68
              refine hW (fuel := 20) (i := 1) (.int .i64 c.wd) he142 rfl (by kernel_rfl) (fun _ _ _ h => h) (fun w' hw' => rn_ld1 rfl (he142.op rfl) Tryd.underlying3 (hw'.at (i := 0) rfl) rfl) hH141 ?_
              intro a143 he143
              clear he142 a142
              refine hW (fuel := 19) (i := 2) (.bool false) he143 rfl (by kernel_rfl) (fun _ _ _ h => h) (fun w' _ => rn_eqI rfl (he143.op rfl) (he143.op rfl) h1 w') hH141 ?_
              intro a144 he144
              clear he143 a143
              refine hW (fuel := 18) (i := 3) (.bool false) he144 rfl (by kernel_rfl) (fun _ _ _ h => h) (fun w' _ => rn_mv rfl (he144.op rfl) w') hH141 ?_
              intro a145 he145
              clear he144 a144
              refine hV (fuel := 17) (i := 4) (.pointer (some ⟨p1, 4, none⟩)) he145 rfl rfl rfl (by kernel_rfl) (by kernel_rfl) (by kernel_rfl) (fun _ _ _ h => h) (he145.want rfl rfl rfl rfl rfl) (fun w' _ => rn_faC2 rfl (he145.op rfl) rfl w') hH141 ?_
              intro a146 he146
              clear he145 a145
              refine hV (fuel := 16) (i := 5) (.int .i64 c.wd) he146 rfl rfl rfl (by kernel_rfl) (by kernel_rfl) (by kernel_rfl) (fun _ _ _ h => h) (he146.want rfl rfl rfl rfl rfl) (fun w' hw' => rn_ld1 rfl (he146.op rfl) Tryd.underlying3 (hw'.at (i := 0) rfl) rfl) hH141 ?_
              intro a147 he147
              clear he146 a146
              refine hV (fuel := 15) (i := 6) (.bool true) he147 rfl rfl rfl (by kernel_rfl) (by kernel_rfl) (by kernel_rfl) (fun _ _ _ h => h) (he147.want rfl rfl rfl rfl rfl) (fun w' _ => rn_eqI rfl (he147.op rfl) (he147.op rfl) h2 w') hH141 ?_
              intro a148 he148
              clear he147 a147
              refine hW (fuel := 14) (i := 7) (.bool true) he148 rfl (by kernel_rfl) (fun _ _ _ h => h) (fun w' _ => rn_pk0 rfl (he148.op rfl) (he148.op rfl) w') hH141 ?_
              intro a149 he149
              clear he148 a148
              refine hW (fuel := 13) (i := 8) (.bool true) he149 rfl (by kernel_rfl) (fun _ _ _ h => h) (fun w' _ => rn_mv rfl (he149.op rfl) w') hH141 ?_
              intro a150 he150
              clear he149 a149
              refine hV (fuel := 12) (i := 9) (.pointer (some ⟨p1, 4, none⟩)) he150 rfl rfl rfl (by kernel_rfl) (by kernel_rfl) (by kernel_rfl) (fun _ _ _ h => h) (he150.want rfl rfl rfl rfl rfl) (fun w' _ => rn_faC2 rfl (he150.op rfl) rfl w') hH141 ?_
              intro a151 he151
              clear he150 a150
              refine hV (fuel := 11) (i := 10) (.int .i64 c.wd) he151 rfl rfl rfl (by kernel_rfl) (by kernel_rfl) (by kernel_rfl) (fun _ _ _ h => h) (he151.want rfl rfl rfl rfl rfl) (fun w' hw' => rn_ld1 rfl (he151.op rfl) Tryd.underlying3 (hw'.at (i := 0) rfl) rfl) hH141 ?_
              intro a152 he152
              clear he151 a151
              refine hV (fuel := 10) (i := 11) (.pointer (some ⟨p1, 0, none⟩)) he152 rfl rfl rfl (by kernel_rfl) (by kernel_rfl) (by kernel_rfl) (fun _ _ _ h => h) (he152.want rfl rfl rfl rfl rfl) (fun w' _ => rn_faC0 rfl (he152.op rfl) rfl w') hH141 ?_
              intro a153 he153
              clear he152 a152
              refine hV (fuel := 9) (i := 12) (.int .i32 c.r) he153 rfl rfl rfl (by kernel_rfl) (by kernel_rfl) (by kernel_rfl) (fun _ _ _ h => h) (he153.want rfl rfl rfl rfl rfl) (fun w' hw' => rn_ld1 rfl (he153.op rfl) Tryd.underlying21 (hw'.at (i := 0) rfl) rfl) hH141 ?_
              intro a154 he154
              clear he153 a153
              refine hC (fuel := 8) (i := 13) he154 (by kernel_rfl) rfl rfl rfl Tryd.func81 (by kernel_rfl) rfl rfl (he154.want rfl rfl rfl rfl rfl) rfl (OfK c.r q hq w141 (hT.new hH141.new)) ?_
              rintro _ w155 ⟨rfl, hn⟩
              have hH155 := hH141.call hn
              refine ⟨_, rfl, hH155, ?_⟩
              intro a156 he156
              clear he154 a154 hH141 hn
              refine hV (fuel := 7) (i := 14) (.bool true) he156 rfl rfl rfl (by kernel_rfl) (by kernel_rfl) (by kernel_rfl) (fun _ _ _ h => h) (he156.want rfl rfl rfl rfl rfl) (fun w' _ => rn_eqI rfl (he156.op rfl) (he156.op rfl) heq w') hH155 ?_
              intro a157 he157
              clear he156 a156
              refine hW (fuel := 6) (i := 15) (.bool true) he157 rfl (by kernel_rfl) (fun _ _ _ h => h) (fun w' _ => rn_pk rfl (he157.op rfl) (he157.op rfl) w') hH155 ?_
              intro a158 he158
              clear he157 a157
              refine hW (fuel := 5) (i := 16) (.bool true) he158 rfl (by kernel_rfl) (fun _ _ _ h => h) (fun w' _ => rn_mv rfl (he158.op rfl) w') hH155 ?_
              intro a159 he159
              clear he158 a158
              refine hV (fuel := 4) (i := 17) (.pointer (some ⟨p1, 1, none⟩)) he159 rfl rfl rfl (by kernel_rfl) (by kernel_rfl) (by kernel_rfl) (fun _ _ _ h => h) (he159.want rfl rfl rfl rfl rfl) (fun w' _ => rn_faC1 rfl (he159.op rfl) rfl w') hH155 ?_
              intro a160 he160
              clear he159 a159
              refine hV (fuel := 3) (i := 18) (.agg #[.int .i32 c.m0, .int .i32 c.m1, .int .i32 c.m2]) he160 rfl rfl rfl (by kernel_rfl) (by kernel_rfl) (by kernel_rfl) (fun _ _ _ h => h) (he160.want rfl rfl rfl rfl rfl) (fun w' hw' => rn_ldp _ rfl (he160.op rfl) Tryd.underlying87 rfl infoM3 (hw'.at (i := 0) rfl) rfl) hH155 ?_
              intro a161 he161
              clear he160 a160
              refine hC (fuel := 2) (i := 19) he161 (by kernel_rfl) rfl rfl rfl Tryd.func82 (by kernel_rfl) rfl rfl (he161.want rfl rfl rfl rfl rfl) rfl (areMarks_any c w155 (hT.new hH155.new)) ?_
              rintro _ w162 ⟨rfl, hn⟩
              have hH162 := hH155.call hn
              refine ⟨_, rfl, hH162, ?_⟩
              intro a163 he163
              clear he161 a161 hH155 hn
              refine hW (fuel := 1) (i := 20) (.bool (okM c)) he163 rfl (by kernel_rfl) (fun _ _ _ h => h) (fun w' _ => rn_pk rfl (he163.op rfl) (he163.op rfl) w') hH162 ?_
              intro a164 he164
              clear he163 a163
              refine hW (fuel := 0) (i := 21) (.bool (okM c)) he164 rfl (by kernel_rfl) (fun _ _ _ h => h) (fun w' _ => rn_asg rfl (he164.op rfl) w') hH162 ?_
              intro a165 he165
              clear he164 a164
              refine wpAnyH_done (by kernel_rfl) ?_ _
              refine then_ok ?_
              have hcb : cellB c = okM c := by rw [hz]; simp
              refine wp_ret ?_
              try simp only [Exit.then, Exit.inBlock]
              exact ret_env rfl he165 rfl ⟨by rw [hcb], hH162.new⟩
            | false =>
              refine wp_seq ?_
              refine wp_region_held_drew (S := Hp w [⟨p1, 95, (Ce.cs c)⟩]) (by kernel_rfl) (hH66.drew) (fun _ => ?_)
              have hn : New w66 (World.drew w66) := (Fr.refl _ _).drew
              clear hn
              have hH166 := hH66.drew
              clear hH66
              generalize World.drew w66 = w166 at *
              refine hW (fuel := 21) (i := 0) (.pointer (some ⟨p1, 4, none⟩)) he68 rfl (by kernel_rfl) (fun _ _ _ h => h) (fun w' _ => rn_faC2 rfl (he68.op rfl) rfl w') hH166 ?_
              intro a167 he167
              clear he68 a68
              refine hW (fuel := 20) (i := 1) (.int .i64 c.wd) he167 rfl (by kernel_rfl) (fun _ _ _ h => h) (fun w' hw' => rn_ld1 rfl (he167.op rfl) Tryd.underlying3 (hw'.at (i := 0) rfl) rfl) hH166 ?_
              intro a168 he168
              clear he167 a167
              refine hW (fuel := 19) (i := 2) (.bool false) he168 rfl (by kernel_rfl) (fun _ _ _ h => h) (fun w' _ => rn_eqI rfl (he168.op rfl) (he168.op rfl) h1 w') hH166 ?_
              intro a169 he169
              clear he168 a168
              refine hW (fuel := 18) (i := 3) (.bool false) he169 rfl (by kernel_rfl) (fun _ _ _ h => h) (fun w' _ => rn_mv rfl (he169.op rfl) w') hH166 ?_
              intro a170 he170
              clear he169 a169
              refine hV (fuel := 17) (i := 4) (.pointer (some ⟨p1, 4, none⟩)) he170 rfl rfl rfl (by kernel_rfl) (by kernel_rfl) (by kernel_rfl) (fun _ _ _ h => h) (he170.want rfl rfl rfl rfl rfl) (fun w' _ => rn_faC2 rfl (he170.op rfl) rfl w') hH166 ?_
              intro a171 he171
              clear he170 a170
              refine hV (fuel := 16) (i := 5) (.int .i64 c.wd) he171 rfl rfl rfl (by kernel_rfl) (by kernel_rfl) (by kernel_rfl) (fun _ _ _ h => h) (he171.want rfl rfl rfl rfl rfl) (fun w' hw' => rn_ld1 rfl (he171.op rfl) Tryd.underlying3 (hw'.at (i := 0) rfl) rfl) hH166 ?_
              intro a172 he172
              clear he171 a171
              refine hV (fuel := 15) (i := 6) (.bool true) he172 rfl rfl rfl (by kernel_rfl) (by kernel_rfl) (by kernel_rfl) (fun _ _ _ h => h) (he172.want rfl rfl rfl rfl rfl) (fun w' _ => rn_eqI rfl (he172.op rfl) (he172.op rfl) h2 w') hH166 ?_
              intro a173 he173
              clear he172 a172
              refine hW (fuel := 14) (i := 7) (.bool true) he173 rfl (by kernel_rfl) (fun _ _ _ h => h) (fun w' _ => rn_pk0 rfl (he173.op rfl) (he173.op rfl) w') hH166 ?_
              intro a174 he174
              clear he173 a173
              refine hW (fuel := 13) (i := 8) (.bool true) he174 rfl (by kernel_rfl) (fun _ _ _ h => h) (fun w' _ => rn_mv rfl (he174.op rfl) w') hH166 ?_
              intro a175 he175
              clear he174 a174
              refine hV (fuel := 12) (i := 9) (.pointer (some ⟨p1, 4, none⟩)) he175 rfl rfl rfl (by kernel_rfl) (by kernel_rfl) (by kernel_rfl) (fun _ _ _ h => h) (he175.want rfl rfl rfl rfl rfl) (fun w' _ => rn_faC2 rfl (he175.op rfl) rfl w') hH166 ?_
              intro a176 he176
              clear he175 a175
              refine hV (fuel := 11) (i := 10) (.int .i64 c.wd) he176 rfl rfl rfl (by kernel_rfl) (by kernel_rfl) (by kernel_rfl) (fun _ _ _ h => h) (he176.want rfl rfl rfl rfl rfl) (fun w' hw' => rn_ld1 rfl (he176.op rfl) Tryd.underlying3 (hw'.at (i := 0) rfl) rfl) hH166 ?_
              intro a177 he177
              clear he176 a176
              refine hV (fuel := 10) (i := 11) (.pointer (some ⟨p1, 0, none⟩)) he177 rfl rfl rfl (by kernel_rfl) (by kernel_rfl) (by kernel_rfl) (fun _ _ _ h => h) (he177.want rfl rfl rfl rfl rfl) (fun w' _ => rn_faC0 rfl (he177.op rfl) rfl w') hH166 ?_
              intro a178 he178
              clear he177 a177
              refine hV (fuel := 9) (i := 12) (.int .i32 c.r) he178 rfl rfl rfl (by kernel_rfl) (by kernel_rfl) (by kernel_rfl) (fun _ _ _ h => h) (he178.want rfl rfl rfl rfl rfl) (fun w' hw' => rn_ld1 rfl (he178.op rfl) Tryd.underlying21 (hw'.at (i := 0) rfl) rfl) hH166 ?_
              intro a179 he179
              clear he178 a178
              refine hC (fuel := 8) (i := 13) he179 (by kernel_rfl) rfl rfl rfl Tryd.func81 (by kernel_rfl) rfl rfl (he179.want rfl rfl rfl rfl rfl) rfl (OfK c.r q hq w166 (hT.new hH166.new)) ?_
              rintro _ w180 ⟨rfl, hn⟩
              have hH180 := hH166.call hn
              refine ⟨_, rfl, hH180, ?_⟩
              intro a181 he181
              clear he179 a179 hH166 hn
              refine hV (fuel := 7) (i := 14) (.bool false) he181 rfl rfl rfl (by kernel_rfl) (by kernel_rfl) (by kernel_rfl) (fun _ _ _ h => h) (he181.want rfl rfl rfl rfl rfl) (fun w' _ => rn_eqI rfl (he181.op rfl) (he181.op rfl) heq w') hH180 ?_
              intro a182 he182
              clear he181 a181
              refine hW (fuel := 6) (i := 15) (.bool false) he182 rfl (by kernel_rfl) (fun _ _ _ h => h) (fun w' _ => rn_pk rfl (he182.op rfl) (he182.op rfl) w') hH180 ?_
              intro a183 he183
              clear he182 a182
              refine hW (fuel := 5) (i := 16) (.bool false) he183 rfl (by kernel_rfl) (fun _ _ _ h => h) (fun w' _ => rn_mv rfl (he183.op rfl) w') hH180 ?_
              intro a184 he184
              clear he183 a183
              refine hSkip (fuel := 4) (i := 17) he184 rfl rfl rfl (by kernel_rfl) (by kernel_rfl) (by kernel_rfl) (fun _ _ _ h => h) (he184.wantNot rfl rfl rfl rfl rfl rfl) hH180 ?_
              intro a185 he185
              clear he184 a184
              refine hSkip (fuel := 3) (i := 18) he185 rfl rfl rfl (by kernel_rfl) (by kernel_rfl) (by kernel_rfl) (fun _ _ _ h => h) (he185.wantNot rfl rfl rfl rfl rfl rfl) hH180 ?_
              intro a186 he186
              clear he185 a185
              refine hSkip (fuel := 2) (i := 19) he186 rfl rfl rfl (by kernel_rfl) (by kernel_rfl) (by kernel_rfl) (fun _ _ _ h => h) (he186.wantNot rfl rfl rfl rfl rfl rfl) hH180 ?_
              intro a187 he187
              clear he186 a186
              refine hW (fuel := 1) (i := 20) (.bool false) he187 rfl (by kernel_rfl) (fun _ _ _ h => h) (fun w' _ => rn_pk0 rfl (he187.op rfl) (he187.op rfl) w') hH180 ?_
              intro a188 he188
              clear he187 a187
              refine hW (fuel := 0) (i := 21) (.bool false) he188 rfl (by kernel_rfl) (fun _ _ _ h => h) (fun w' _ => rn_asg rfl (he188.op rfl) w') hH180 ?_
              intro a189 he189
              clear he188 a188
              refine wpAnyH_done (by kernel_rfl) ?_ _
              refine then_ok ?_
              have hcb : cellB c = false := by rw [hz]; simp
              refine wp_ret ?_
              try simp only [Exit.then, Exit.inBlock]
              exact ret_env rfl he189 rfl ⟨by rw [hcb], hH180.new⟩

end Go.Proofs.YtlpjhaghphmbeaaDoor
