/-
  The specification's Valid.
-/
import Derived.Test.YtlpjhaghphmbeaaDoorCMarks
import Derived.Test.YtlpjhaghphmbeaaDoorA6
namespace Go.Proofs.YtlpjhaghphmbeaaDoor
open Go.RowKit

abbrev ValidSaid (c : Ce) (b : Bool) (w : World) : Prop := Calls Tryd.prog 78 #[c.v] w fun e w' => e = .returned (.bool b) ∧ New w w'
theorem RVP (p : Pn) (b : Bool) (h : validB p = b) (w : World) : Calls Tryd.prog 84 #[p.v] w fun e w' => e = .returned (.bool b) ∧ New w w' := by
  subst h
  exact RValid_any p w
theorem RMC (c : Ce) (ok : Bool) (k : Nat) (h : okM c = ok) (hk : ok = true → nM c = k) (w : World) :
    Calls Tryd.prog 83 #[c.v] w fun e w' => (∃ n : Int, e = .returned (.tuple #[.int .i64 n, .bool ok]) ∧ (ok = true → n = (k : Int))) ∧ New w w' := by
  have := RMarksC_any c w
  unfold MarksSaid at this
  rw [h] at this
  exact this.mono fun _ _ ⟨⟨n, h1, h2⟩, h3⟩ => ⟨⟨n, h1, fun e => by rw [h2 e, hk e]⟩, h3⟩
set_option linter.unusedSimpArgs false in
set_option maxRecDepth 100000 in
set_option maxHeartbeats 1600000 in
theorem RValidC_any (c : Ce) (w : World) : ValidSaid c (cellB c) w := by
  obtain ⟨pv, hpv⟩ : ∃ pv, validB c.p = pv := ⟨_, rfl⟩
  obtain ⟨ok, hok⟩ : ∃ ok, okM c = ok := ⟨_, rfl⟩
  refine calls_args (vl := [Ce.v c]) 55 Tryd.func78 rfl Tryd.ntmps78 (by kernel_rfl) (fun a he => ?_)
  have he0 : Env 55 [(0, Ce.v c)] a := he
  clear he
  have hH := Hp.start w
  refine wp_seq (wp_region_lit ?_)
  refine lNew (fun p => .pointer (some ⟨p, 0, none⟩)) he0 hH rfl rfl (wanted_plain rfl _) (rn_boxC rfl (he0.op rfl) w) ?_
  intro p1 w1 a2 hn hH1 he2
  clear he0 a hH hn
  refine lW (.bool false) he2 rfl (rn_asg rfl (he2.op rfl) w1) ?_
  intro a3 he3
  clear he2 a2
  refine wpList_nil (then_ok ?_)
  refine wp_seq (wp_region_lit ?_)
  refine lW (Ce.v c) he3 rfl (rn_load rfl (he3.op rfl) (hH1.at (i := 0) rfl)) ?_
  intro a4 he4
  clear he3 a3
  refine lCx he4 rfl rfl Tryd.func83 (by kernel_rfl) rfl rfl (wanted_plain rfl _) rfl (RMC c ok (nM c) hok (fun _ => rfl) w1) ?_
  rintro _ w5 ⟨⟨z, rfl, hz⟩, hn⟩
  refine ⟨_, rfl, ?_⟩
  intro a6 he6
  have hH5 := hH1.call hn
  clear he4 a4 hH1
  clear hn
  refine lW (.tuple #[.int .i64 z, .bool ok]) he6 rfl (rn_mv rfl (he6.op rfl) w5) ?_
  intro a7 he7
  clear he6 a6
  refine lW (.int .i64 z) he7 rfl (rn_ext rfl (he7.op rfl) rfl w5) ?_
  intro a8 he8
  clear he7 a7
  refine lW (.bool ok) he8 rfl (rn_ext rfl (he8.op rfl) rfl w5) ?_
  intro a9 he9
  clear he8 a8
  refine lW (.int .i64 z) he9 rfl (rn_asg rfl (he9.op rfl) w5) ?_
  intro a10 he10
  clear he9 a9
  refine lW (.bool ok) he10 rfl (rn_asg rfl (he10.op rfl) w5) ?_
  intro a11 he11
  clear he10 a10
  refine wpList_nil (then_ok ?_)
  have he12 : Env 55 [(4, .bool ok), (3, .int .i64 z), (2, .bool false), (1, .pointer (some ⟨p1, 0, none⟩)), (0, Ce.v c)] a11 := he11.mem ⟨rfl, rfl, rfl, rfl, rfl, trivial⟩
  clear he11
  cases pv with
  | false =>
    refine wp_seq ?_
    refine wp_seq (wp_region_lit ?_)
    refine lW (.pointer (some ⟨p1, 5, none⟩)) he12 rfl (rn_faC3 rfl (he12.op rfl) rfl w5) ?_
    intro a13 he13
    clear he12 a11
    refine lW (Pn.v c.p) he13 rfl (rn_ldp _ rfl (he13.op rfl) und27 rfl infoP11 (hH5.at (i := 0) rfl) rfl) ?_
    intro a14 he14
    clear he13 a13
    refine lC he14 rfl rfl Tryd.func84 (by kernel_rfl) rfl rfl (wanted_plain rfl _) rfl (RVP c.p false hpv w5) ?_
    intro w15 a16 hn he16
    have hH15 := hH5.call hn
    clear he14 a14 hH5 hn
    refine lW (.bool true) he16 rfl (rn_not (b := false) rfl (he16.op rfl) w15) ?_
    intro a17 he17
    clear he16 a16
    refine lW (.bool true) he17 rfl (rn_mv rfl (he17.op rfl) w15) ?_
    intro a18 he18
    clear he17 a17
    refine lSkip he18 rfl rfl (he18.wantNot rfl rfl rfl rfl rfl rfl) ?_
    intro a19 he19
    clear he18 a18
    refine lSkip he19 rfl rfl (he19.wantNot rfl rfl rfl rfl rfl rfl) ?_
    intro a20 he20
    clear he19 a19
    refine lW (.bool true) he20 rfl (rn_pk rfl (he20.op rfl) (he20.op rfl) w15) ?_
    intro a21 he21
    clear he20 a20
    refine wpList_nil (then_ok ?_)
    refine wp_cond_true (he21.op rfl) ?_
    refine wp_seq (wp_region_lit ?_)
    refine lW (.bool false) he21 rfl (rn_asg rfl (he21.op rfl) w15) ?_
    intro a22 he22
    clear he21 a21
    refine wpList_nil (then_ok ?_)
    have hcb : cellB c = false := by simp [cellB, hpv]
    refine wp_ret ?_
    try simp only [Exit.then, Exit.inBlock]
    exact ret_env rfl he22 rfl ⟨by rw [hcb], hH15.new⟩
  | true =>
    cases ok with
    | false =>
      refine wp_seq ?_
      refine wp_seq (wp_region_lit ?_)
      refine lW (.pointer (some ⟨p1, 5, none⟩)) he12 rfl (rn_faC3 rfl (he12.op rfl) rfl w5) ?_
      intro a23 he23
      clear he12 a11
      refine lW (Pn.v c.p) he23 rfl (rn_ldp _ rfl (he23.op rfl) und27 rfl infoP11 (hH5.at (i := 0) rfl) rfl) ?_
      intro a24 he24
      clear he23 a23
      refine lC he24 rfl rfl Tryd.func84 (by kernel_rfl) rfl rfl (wanted_plain rfl _) rfl (RVP c.p true hpv w5) ?_
      intro w25 a26 hn he26
      have hH25 := hH5.call hn
      clear he24 a24 hH5 hn
      refine lW (.bool false) he26 rfl (rn_not (b := true) rfl (he26.op rfl) w25) ?_
      intro a27 he27
      clear he26 a26
      refine lW (.bool false) he27 rfl (rn_mv rfl (he27.op rfl) w25) ?_
      intro a28 he28
      clear he27 a27
      refine lV (.bool false) he28 rfl rfl (he28.want rfl rfl rfl rfl rfl) (rn_mv rfl (he28.op rfl) w25) ?_
      intro a29 he29
      clear he28 a28
      refine lV (.bool true) he29 rfl rfl (he29.want rfl rfl rfl rfl rfl) (rn_not (b := false) rfl (he29.op rfl) w25) ?_
      intro a30 he30
      clear he29 a29
      refine lW (.bool true) he30 rfl (rn_pk0 rfl (he30.op rfl) (he30.op rfl) w25) ?_
      intro a31 he31
      clear he30 a30
      refine wpList_nil (then_ok ?_)
      refine wp_cond_true (he31.op rfl) ?_
      refine wp_seq (wp_region_lit ?_)
      refine lW (.bool false) he31 rfl (rn_asg rfl (he31.op rfl) w25) ?_
      intro a32 he32
      clear he31 a31
      refine wpList_nil (then_ok ?_)
      have hcb : cellB c = false := by simp [cellB, hok]
      refine wp_ret ?_
      try simp only [Exit.then, Exit.inBlock]
      exact ret_env rfl he32 rfl ⟨by rw [hcb], hH25.new⟩
    | true =>
      obtain rfl := hz rfl
      refine wp_seq ?_
      refine wp_seq (wp_region_lit ?_)
      refine lW (.pointer (some ⟨p1, 5, none⟩)) he12 rfl (rn_faC3 rfl (he12.op rfl) rfl w5) ?_
      intro a33 he33
      clear he12 a11
      refine lW (Pn.v c.p) he33 rfl (rn_ldp _ rfl (he33.op rfl) und27 rfl infoP11 (hH5.at (i := 0) rfl) rfl) ?_
      intro a34 he34
      clear he33 a33
      refine lC he34 rfl rfl Tryd.func84 (by kernel_rfl) rfl rfl (wanted_plain rfl _) rfl (RVP c.p true hpv w5) ?_
      intro w35 a36 hn he36
      have hH35 := hH5.call hn
      clear he34 a34 hH5 hn
      refine lW (.bool false) he36 rfl (rn_not (b := true) rfl (he36.op rfl) w35) ?_
      intro a37 he37
      clear he36 a36
      refine lW (.bool false) he37 rfl (rn_mv rfl (he37.op rfl) w35) ?_
      intro a38 he38
      clear he37 a37
      refine lV (.bool true) he38 rfl rfl (he38.want rfl rfl rfl rfl rfl) (rn_mv rfl (he38.op rfl) w35) ?_
      intro a39 he39
      clear he38 a38
      refine lV (.bool false) he39 rfl rfl (he39.want rfl rfl rfl rfl rfl) (rn_not (b := true) rfl (he39.op rfl) w35) ?_
      intro a40 he40
      clear he39 a39
      refine lW (.bool false) he40 rfl (rn_pk0 rfl (he40.op rfl) (he40.op rfl) w35) ?_
      intro a41 he41
      clear he40 a40
      refine wpList_nil (then_ok ?_)
      refine wp_cond_false (he41.op rfl) ?_
      refine wp_skip ?_
      refine then_ok ?_
      refine wp_seq ?_
      refine wp_seq (wp_region_lit ?_)
      refine lW (.pointer (some ⟨p1, 4, none⟩)) he41 rfl (rn_faC2 rfl (he41.op rfl) rfl w35) ?_
      intro a42 he42
      clear he41 a41
      refine lW (.int .i64 c.wd) he42 rfl (rn_ld1 rfl (he42.op rfl) Tryd.underlying3 (hH35.at (i := 0) rfl) rfl) ?_
      intro a43 he43
      clear he42 a42
      refine wpList_nil (then_ok ?_)
      refine wp_block ?_
      as_aux_lemma =>
        obtain ⟨e0, he0_⟩ : ∃ e0, (c.wd == 0) = e0 := ⟨_, rfl⟩
        cases e0 with
        | true =>
          have w0 : c.wd = 0 := by simpa using he0_
          refine wp_seq (wp_region_lit ?_)
          refine lW (.bool true) he43 rfl (rn_eqI rfl (he43.op rfl) (he43.op rfl) he0_ w35) ?_
          intro a44 he44
          clear he43 a43
          refine lW (.bool true) he44 rfl (rn_asg rfl (he44.op rfl) w35) ?_
          intro a45 he45
          clear he44 a44
          refine wpList_nil (then_ok ?_)
          refine wp_cond_true (he45.op rfl) ?_
          obtain ⟨er, her⟩ : ∃ er, (c.r == 0) = er := ⟨_, rfl⟩
          obtain ⟨en, hen⟩ : ∃ en, (((nM c : Nat) : Int) == 0) = en := ⟨_, rfl⟩
          have hen2 : decide (nM c = 0) = en := by rw [← hen]; by_cases h : nM c = 0 <;> simp [h]
          cases er with
          | false =>
            have r0 : c.r ≠ 0 := by simpa using her
            refine wp_seq (wp_region_lit ?_)
            refine lW (.pointer (some ⟨p1, 0, none⟩)) he45 rfl (rn_faC0 rfl (he45.op rfl) rfl w35) ?_
            intro a46 he46
            clear he45 a45
            refine lW (.int .i32 c.r) he46 rfl (rn_ld1 rfl (he46.op rfl) Tryd.underlying21 (hH35.at (i := 0) rfl) rfl) ?_
            intro a47 he47
            clear he46 a46
            refine lW (.bool false) he47 rfl (rn_eq32 rfl (he47.op rfl) (he47.op rfl) her w35) ?_
            intro a48 he48
            clear he47 a47
            refine lW (.bool false) he48 rfl (rn_mv rfl (he48.op rfl) w35) ?_
            intro a49 he49
            clear he48 a48
            refine lSkip he49 rfl rfl (he49.wantNot rfl rfl rfl rfl rfl rfl) ?_
            intro a50 he50
            clear he49 a49
            refine lSkip he50 rfl rfl (he50.wantNot rfl rfl rfl rfl rfl rfl) ?_
            intro a51 he51
            clear he50 a50
            refine lW (.bool false) he51 rfl (rn_pk0 rfl (he51.op rfl) (he51.op rfl) w35) ?_
            intro a52 he52
            clear he51 a51
            refine lW (.bool false) he52 rfl (rn_asg rfl (he52.op rfl) w35) ?_
            intro a53 he53
            clear he52 a52
            refine wpList_nil (then_ok ?_)
            have hcb : cellB c = false := by simp [cellB, hok, hpv, w0, r0]
            refine wp_ret ?_
            try simp only [Exit.then, Exit.inBlock]
            exact ret_env rfl he53 rfl ⟨by rw [hcb], hH35.new⟩
          | true =>
            have r0 : c.r = 0 := by simpa using her
            refine wp_seq (wp_region_lit ?_)
            refine lW (.pointer (some ⟨p1, 0, none⟩)) he45 rfl (rn_faC0 rfl (he45.op rfl) rfl w35) ?_
            intro a54 he54
            clear he45 a45
            refine lW (.int .i32 c.r) he54 rfl (rn_ld1 rfl (he54.op rfl) Tryd.underlying21 (hH35.at (i := 0) rfl) rfl) ?_
            intro a55 he55
            clear he54 a54
            refine lW (.bool true) he55 rfl (rn_eq32 rfl (he55.op rfl) (he55.op rfl) her w35) ?_
            intro a56 he56
            clear he55 a55
            refine lW (.bool true) he56 rfl (rn_mv rfl (he56.op rfl) w35) ?_
            intro a57 he57
            clear he56 a56
            refine lV (.int .i64 (nM c : Nat)) he57 rfl rfl (he57.want rfl rfl rfl rfl rfl) (rn_mv rfl (he57.op rfl) w35) ?_
            intro a58 he58
            clear he57 a57
            refine lV (.bool en) he58 rfl rfl (he58.want rfl rfl rfl rfl rfl) (rn_eqI rfl (he58.op rfl) (he58.op rfl) hen w35) ?_
            intro a59 he59
            clear he58 a58
            refine lW (.bool en) he59 rfl (rn_pk rfl (he59.op rfl) (he59.op rfl) w35) ?_
            intro a60 he60
            clear he59 a59
            refine lW (.bool en) he60 rfl (rn_asg rfl (he60.op rfl) w35) ?_
            intro a61 he61
            clear he60 a60
            refine wpList_nil (then_ok ?_)
            have hcb : cellB c = en := by rw [cellB, hok, hpv, if_pos w0, hen2, r0]; simp
            refine wp_ret ?_
            try simp only [Exit.then, Exit.inBlock]
            exact ret_env rfl he61 rfl ⟨by rw [hcb], hH35.new⟩
        | false =>
          have w0 : c.wd ≠ 0 := by simpa using he0_
          refine wp_seq (wp_region_lit ?_)
          refine lW (.bool false) he43 rfl (rn_eqI rfl (he43.op rfl) (he43.op rfl) he0_ w35) ?_
          intro a62 he62
          clear he43 a43
          refine lW (.bool false) he62 rfl (rn_asg rfl (he62.op rfl) w35) ?_
          intro a63 he63
          clear he62 a62
          refine wpList_nil (then_ok ?_)
          refine wp_cond_false (he63.op rfl) ?_
          obtain ⟨e1, he1_⟩ : ∃ e1, (c.wd == 1) = e1 := ⟨_, rfl⟩
          cases e1 with
          | true =>
            have w1 : c.wd = 1 := by simpa using he1_
            refine wp_seq (wp_region_lit ?_)
            refine lW (.bool true) he63 rfl (rn_eqI rfl (he63.op rfl) (he63.op rfl) he1_ w35) ?_
            intro a64 he64
            clear he63 a63
            refine lW (.bool true) he64 rfl (rn_asg rfl (he64.op rfl) w35) ?_
            intro a65 he65
            clear he64 a64
            refine wpList_nil (then_ok ?_)
            refine wp_cond_true (he65.op rfl) ?_
            obtain ⟨er, her⟩ : ∃ er, (c.r == 0) = er := ⟨_, rfl⟩
            obtain ⟨en, hen⟩ : ∃ en, (((nM c : Nat) : Int) == 0) = en := ⟨_, rfl⟩
            have hen2 : decide (nM c = 0) = en := by rw [← hen]; by_cases h : nM c = 0 <;> simp [h]
            cases er with
            | false =>
              have r0 : c.r ≠ 0 := by simpa using her
              obtain ⟨q, hq⟩ : ∃ q, ofI c.r = q := ⟨_, rfl⟩
              obtain ⟨eq, heq⟩ : ∃ eq, (q == 1) = eq := ⟨_, rfl⟩
              refine wp_seq (wp_region_lit ?_)
              refine lW (.pointer (some ⟨p1, 0, none⟩)) he65 rfl (rn_faC0 rfl (he65.op rfl) rfl w35) ?_
              intro a66 he66
              clear he65 a65
              refine lW (.int .i32 c.r) he66 rfl (rn_ld1 rfl (he66.op rfl) Tryd.underlying21 (hH35.at (i := 0) rfl) rfl) ?_
              intro a67 he67
              clear he66 a66
              refine lW (.bool false) he67 rfl (rn_eq32 rfl (he67.op rfl) (he67.op rfl) her w35) ?_
              intro a68 he68
              clear he67 a67
              refine lW (.bool false) he68 rfl (rn_mv rfl (he68.op rfl) w35) ?_
              intro a69 he69
              clear he68 a68
              refine lSkip he69 rfl rfl (he69.wantNot rfl rfl rfl rfl rfl rfl) ?_
              intro a70 he70
              clear he69 a69
              refine lSkip he70 rfl rfl (he70.wantNot rfl rfl rfl rfl rfl rfl) ?_
              intro a71 he71
              clear he70 a70
              refine lW (.bool false) he71 rfl (rn_pk0 rfl (he71.op rfl) (he71.op rfl) w35) ?_
              intro a72 he72
              clear he71 a71
              refine lW (.bool false) he72 rfl (rn_mv rfl (he72.op rfl) w35) ?_
              intro a73 he73
              clear he72 a72
              refine lV (.pointer (some ⟨p1, 0, none⟩)) he73 rfl rfl (he73.want rfl rfl rfl rfl rfl) (rn_faC0 rfl (he73.op rfl) rfl w35) ?_
              intro a74 he74
              clear he73 a73
              refine lV (.int .i32 c.r) he74 rfl rfl (he74.want rfl rfl rfl rfl rfl) (rn_ld1 rfl (he74.op rfl) Tryd.underlying21 (hH35.at (i := 0) rfl) rfl) ?_
              intro a75 he75
              clear he74 a74
              refine lV (.bool true) he75 rfl rfl (he75.want rfl rfl rfl rfl rfl) (rn_ne32 rfl (he75.op rfl) (he75.op rfl) (by simpa using her) w35) ?_
              intro a76 he76
              clear he75 a75
              refine lV (.bool true) he76 rfl rfl (he76.want rfl rfl rfl rfl rfl) (rn_mv rfl (he76.op rfl) w35) ?_
              intro a77 he77
              clear he76 a76
              refine lV (.pointer (some ⟨p1, 0, none⟩)) he77 rfl rfl (he77.want rfl rfl rfl rfl rfl) (rn_faC0 rfl (he77.op rfl) rfl w35) ?_
              intro a78 he78
              clear he77 a77
              refine lV (.int .i32 c.r) he78 rfl rfl (he78.want rfl rfl rfl rfl rfl) (rn_ld1 rfl (he78.op rfl) Tryd.underlying21 (hH35.at (i := 0) rfl) rfl) ?_
              intro a79 he79
              clear he78 a78
              refine lC he79 rfl rfl Tryd.func85 (by kernel_rfl) rfl rfl (he79.want rfl rfl rfl rfl rfl) rfl (ROf_k c.r q hq w35) ?_
              intro w80 a81 hn he81
              have hH80 := hH35.call hn
              clear he79 a79 hH35 hn
              refine lV (.bool eq) he81 rfl rfl (he81.want rfl rfl rfl rfl rfl) (rn_eqI rfl (he81.op rfl) (he81.op rfl) heq w80) ?_
              intro a82 he82
              clear he81 a81
              refine lV (.bool eq) he82 rfl rfl (he82.want rfl rfl rfl rfl rfl) (rn_pk rfl (he82.op rfl) (he82.op rfl) w80) ?_
              intro a83 he83
              clear he82 a82
              refine lW (.bool eq) he83 rfl (rn_pk0 rfl (he83.op rfl) (he83.op rfl) w80) ?_
              intro a84 he84
              clear he83 a83
              refine lW (.bool eq) he84 rfl (rn_asg rfl (he84.op rfl) w80) ?_
              intro a85 he85
              clear he84 a84
              refine wpList_nil (then_ok ?_)
              have hcb : cellB c = eq := by rw [cellB, hok, hpv, if_neg w0, if_pos w1, hq, ← heq]; simp [r0]; rfl
              refine wp_ret ?_
              try simp only [Exit.then, Exit.inBlock]
              exact ret_env rfl he85 rfl ⟨by rw [hcb], hH80.new⟩
            | true =>
              have r0 : c.r = 0 := by simpa using her
              cases en with
              | true =>
                refine wp_seq (wp_region_lit ?_)
                refine lW (.pointer (some ⟨p1, 0, none⟩)) he65 rfl (rn_faC0 rfl (he65.op rfl) rfl w35) ?_
                intro a86 he86
                clear he65 a65
                refine lW (.int .i32 c.r) he86 rfl (rn_ld1 rfl (he86.op rfl) Tryd.underlying21 (hH35.at (i := 0) rfl) rfl) ?_
                intro a87 he87
                clear he86 a86
                refine lW (.bool true) he87 rfl (rn_eq32 rfl (he87.op rfl) (he87.op rfl) her w35) ?_
                intro a88 he88
                clear he87 a87
                refine lW (.bool true) he88 rfl (rn_mv rfl (he88.op rfl) w35) ?_
                intro a89 he89
                clear he88 a88
                refine lV (.int .i64 (nM c : Nat)) he89 rfl rfl (he89.want rfl rfl rfl rfl rfl) (rn_mv rfl (he89.op rfl) w35) ?_
                intro a90 he90
                clear he89 a89
                refine lV (.bool true) he90 rfl rfl (he90.want rfl rfl rfl rfl rfl) (rn_eqI rfl (he90.op rfl) (he90.op rfl) hen w35) ?_
                intro a91 he91
                clear he90 a90
                refine lW (.bool true) he91 rfl (rn_pk rfl (he91.op rfl) (he91.op rfl) w35) ?_
                intro a92 he92
                clear he91 a91
                refine lW (.bool true) he92 rfl (rn_mv rfl (he92.op rfl) w35) ?_
                intro a93 he93
                clear he92 a92
                refine lSkip he93 rfl rfl (he93.wantNot rfl rfl rfl rfl rfl rfl) ?_
                intro a94 he94
                clear he93 a93
                refine lSkip he94 rfl rfl (he94.wantNot rfl rfl rfl rfl rfl rfl) ?_
                intro a95 he95
                clear he94 a94
                refine lSkip he95 rfl rfl (he95.wantNot rfl rfl rfl rfl rfl rfl) ?_
                intro a96 he96
                clear he95 a95
                refine lSkip he96 rfl rfl (he96.wantNot rfl rfl rfl rfl rfl rfl) ?_
                intro a97 he97
                clear he96 a96
                refine lSkip he97 rfl rfl (he97.wantU rfl rfl rfl rfl rfl) ?_
                intro a98 he98
                clear he97 a97
                refine lSkip he98 rfl rfl (he98.wantU rfl rfl rfl rfl rfl) ?_
                intro a99 he99
                clear he98 a98
                refine lSkip he99 rfl rfl (he99.wantU rfl rfl rfl rfl rfl) ?_
                intro a100 he100
                clear he99 a99
                refine lSkip he100 rfl rfl (he100.wantU rfl rfl rfl rfl rfl) ?_
                intro a101 he101
                clear he100 a100
                refine lSkip he101 rfl rfl (he101.wantNot rfl rfl rfl rfl rfl rfl) ?_
                intro a102 he102
                clear he101 a101
                refine lW (.bool true) he102 rfl (rn_pk rfl (he102.op rfl) (he102.op rfl) w35) ?_
                intro a103 he103
                clear he102 a102
                refine lW (.bool true) he103 rfl (rn_asg rfl (he103.op rfl) w35) ?_
                intro a104 he104
                clear he103 a103
                refine wpList_nil (then_ok ?_)
                have hcb : cellB c = true := by rw [cellB, hok, hpv, if_neg w0, if_pos w1, hen2, r0]; simp
                refine wp_ret ?_
                try simp only [Exit.then, Exit.inBlock]
                exact ret_env rfl he104 rfl ⟨by rw [hcb], hH35.new⟩
              | false =>
                refine wp_seq (wp_region_lit ?_)
                refine lW (.pointer (some ⟨p1, 0, none⟩)) he65 rfl (rn_faC0 rfl (he65.op rfl) rfl w35) ?_
                intro a105 he105
                clear he65 a65
                refine lW (.int .i32 c.r) he105 rfl (rn_ld1 rfl (he105.op rfl) Tryd.underlying21 (hH35.at (i := 0) rfl) rfl) ?_
                intro a106 he106
                clear he105 a105
                refine lW (.bool true) he106 rfl (rn_eq32 rfl (he106.op rfl) (he106.op rfl) her w35) ?_
                intro a107 he107
                clear he106 a106
                refine lW (.bool true) he107 rfl (rn_mv rfl (he107.op rfl) w35) ?_
                intro a108 he108
                clear he107 a107
                refine lV (.int .i64 (nM c : Nat)) he108 rfl rfl (he108.want rfl rfl rfl rfl rfl) (rn_mv rfl (he108.op rfl) w35) ?_
                intro a109 he109
                clear he108 a108
                refine lV (.bool false) he109 rfl rfl (he109.want rfl rfl rfl rfl rfl) (rn_eqI rfl (he109.op rfl) (he109.op rfl) hen w35) ?_
                intro a110 he110
                clear he109 a109
                refine lW (.bool false) he110 rfl (rn_pk rfl (he110.op rfl) (he110.op rfl) w35) ?_
                intro a111 he111
                clear he110 a110
                refine lW (.bool false) he111 rfl (rn_mv rfl (he111.op rfl) w35) ?_
                intro a112 he112
                clear he111 a111
                refine lV (.pointer (some ⟨p1, 0, none⟩)) he112 rfl rfl (he112.want rfl rfl rfl rfl rfl) (rn_faC0 rfl (he112.op rfl) rfl w35) ?_
                intro a113 he113
                clear he112 a112
                refine lV (.int .i32 c.r) he113 rfl rfl (he113.want rfl rfl rfl rfl rfl) (rn_ld1 rfl (he113.op rfl) Tryd.underlying21 (hH35.at (i := 0) rfl) rfl) ?_
                intro a114 he114
                clear he113 a113
                refine lV (.bool false) he114 rfl rfl (he114.want rfl rfl rfl rfl rfl) (rn_ne32 rfl (he114.op rfl) (he114.op rfl) (by simpa using her) w35) ?_
                intro a115 he115
                clear he114 a114
                refine lV (.bool false) he115 rfl rfl (he115.want rfl rfl rfl rfl rfl) (rn_mv rfl (he115.op rfl) w35) ?_
                intro a116 he116
                clear he115 a115
                refine lSkip he116 rfl rfl (he116.wantNot rfl rfl rfl rfl rfl rfl) ?_
                intro a117 he117
                clear he116 a116
                refine lSkip he117 rfl rfl (he117.wantNot rfl rfl rfl rfl rfl rfl) ?_
                intro a118 he118
                clear he117 a117
                refine lSkip he118 rfl rfl (he118.wantNot rfl rfl rfl rfl rfl rfl) ?_
                intro a119 he119
                clear he118 a118
                refine lSkip he119 rfl rfl (he119.wantNot rfl rfl rfl rfl rfl rfl) ?_
                intro a120 he120
                clear he119 a119
                refine lV (.bool false) he120 rfl rfl (he120.want rfl rfl rfl rfl rfl) (rn_pk0 rfl (he120.op rfl) (he120.op rfl) w35) ?_
                intro a121 he121
                clear he120 a120
                refine lW (.bool false) he121 rfl (rn_pk0 rfl (he121.op rfl) (he121.op rfl) w35) ?_
                intro a122 he122
                clear he121 a121
                refine lW (.bool false) he122 rfl (rn_asg rfl (he122.op rfl) w35) ?_
                intro a123 he123
                clear he122 a122
                refine wpList_nil (then_ok ?_)
                have hcb : cellB c = false := by rw [cellB, hok, hpv, if_neg w0, if_pos w1, hen2, r0]; simp
                refine wp_ret ?_
                try simp only [Exit.then, Exit.inBlock]
                exact ret_env rfl he123 rfl ⟨by rw [hcb], hH35.new⟩
          | false =>
            have w1 : c.wd ≠ 1 := by simpa using he1_
            refine wp_seq (wp_region_lit ?_)
            refine lW (.bool false) he63 rfl (rn_eqI rfl (he63.op rfl) (he63.op rfl) he1_ w35) ?_
            intro a124 he124
            clear he63 a63
            refine lW (.bool false) he124 rfl (rn_asg rfl (he124.op rfl) w35) ?_
            intro a125 he125
            clear he124 a124
            refine wpList_nil (then_ok ?_)
            refine wp_cond_false (he125.op rfl) ?_
            obtain ⟨e2, he2_⟩ : ∃ e2, (c.wd == 2) = e2 := ⟨_, rfl⟩
            cases e2 with
            | true =>
              have w2 : c.wd = 2 := by simpa using he2_
              refine wp_seq (wp_region_lit ?_)
              refine lW (.bool true) he125 rfl (rn_eqI rfl (he125.op rfl) (he125.op rfl) he2_ w35) ?_
              intro a126 he126
              clear he125 a125
              refine lW (.bool true) he126 rfl (rn_asg rfl (he126.op rfl) w35) ?_
              intro a127 he127
              clear he126 a126
              refine wpList_nil (then_ok ?_)
              refine wp_cond_true (he127.op rfl) ?_
              obtain ⟨q, hq⟩ : ∃ q, ofI c.r = q := ⟨_, rfl⟩
              obtain ⟨eq, heq⟩ : ∃ eq, (q == 2) = eq := ⟨_, rfl⟩
              refine wp_seq (wp_region_lit ?_)
              refine lW (.pointer (some ⟨p1, 0, none⟩)) he127 rfl (rn_faC0 rfl (he127.op rfl) rfl w35) ?_
              intro a128 he128
              clear he127 a127
              refine lW (.int .i32 c.r) he128 rfl (rn_ld1 rfl (he128.op rfl) Tryd.underlying21 (hH35.at (i := 0) rfl) rfl) ?_
              intro a129 he129
              clear he128 a128
              refine lC he129 rfl rfl Tryd.func85 (by kernel_rfl) rfl rfl (wanted_plain rfl _) rfl (ROf_k c.r q hq w35) ?_
              intro w130 a131 hn he131
              have hH130 := hH35.call hn
              clear he129 a129 hH35 hn
              refine lW (.bool eq) he131 rfl (rn_eqI rfl (he131.op rfl) (he131.op rfl) heq w130) ?_
              intro a132 he132
              clear he131 a131
              refine lW (.bool eq) he132 rfl (rn_asg rfl (he132.op rfl) w130) ?_
              intro a133 he133
              clear he132 a132
              refine wpList_nil (then_ok ?_)
              have hcb : cellB c = eq := by rw [cellB, hok, hpv, if_neg w0, if_neg w1, if_pos w2, hq, ← heq]; simp; rfl
              refine wp_ret ?_
              try simp only [Exit.then, Exit.inBlock]
              exact ret_env rfl he133 rfl ⟨by rw [hcb], hH130.new⟩
            | false =>
              have w2 : c.wd ≠ 2 := by simpa using he2_
              refine wp_seq (wp_region_lit ?_)
              refine lW (.bool false) he125 rfl (rn_eqI rfl (he125.op rfl) (he125.op rfl) he2_ w35) ?_
              intro a134 he134
              clear he125 a125
              refine lW (.bool false) he134 rfl (rn_asg rfl (he134.op rfl) w35) ?_
              intro a135 he135
              clear he134 a134
              refine wpList_nil (then_ok ?_)
              refine wp_cond_false (he135.op rfl) ?_
              refine wp_skip ?_
              refine block_ok ?_
              refine then_ok ?_
              refine wp_seq (wp_region_lit ?_)
              refine lW (.bool false) he135 rfl (rn_asg rfl (he135.op rfl) w35) ?_
              intro a136 he136
              clear he135 a135
              refine wpList_nil (then_ok ?_)
              have hcb : cellB c = false := by simp [cellB, w0, w1, w2]
              refine wp_ret ?_
              try simp only [Exit.then, Exit.inBlock]
              exact ret_env rfl he136 rfl ⟨by rw [hcb], hH35.new⟩

end Go.Proofs.YtlpjhaghphmbeaaDoor
