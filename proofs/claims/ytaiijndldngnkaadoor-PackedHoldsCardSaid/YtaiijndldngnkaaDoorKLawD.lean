/-
  PackedHolds.
-/
import Derived.Test.YtaiijndldngnkaaDoorKLawC
namespace Go.Proofs.YtaiijndldngnkaaDoor
open Go.RowKit

theorem packE_append {a b : List Ce} (ha : a.length ≤ 1000) (hb : b.length ≤ 1000) : (packE (a ++ b) == 0) = ((packE a == 0) && (packE b == 0)) := by
  have e : ∀ l : List Ce, l.length ≤ 5000 → (packE l == 0) = l.all cellB := fun l hl => by
    rw [packE, if_neg (by omega)]
    cases l.all cellB <;> rfl
  rw [e a (by omega), e b (by omega), e (a ++ b) (by rw [List.length_append]; omega), List.all_append]
theorem join_packs {a b : List Ce} (ha : packE a = 0) (hb : packE b = 0) (pa : ∀ c ∈ a, c.p.Ok) (pb : ∀ c ∈ b, c.p.Ok) (h : a.length + b.length ≤ 100000) : joinO (packL a) (packL b) = packL (a ++ b) ∧ joinE (packL a) (packL b) = 0 := by
  obtain ⟨-, ga, ca, -, -⟩ := pack_facts ha pa
  obtain ⟨-, gb, cb, -, -⟩ := pack_facts hb pb
  have e : joinE (packL a) (packL b) = 0 := by rw [joinE, if_neg (by rw [ga, gb]; simp), if_neg (by omega)]
  obtain ⟨hb1, hb2⟩ := packE_zero hb
  exact ⟨by rw [joinO, if_pos e, join_pack hb2 pb hb1], e⟩
theorem packO_len (l : List Ce) : (packO l).length ≤ l.length := by
  have h4 := pack_le l
  have h5 : (packO l).length ≤ (packL l).length := by unfold packO; split <;> simp
  omega
theorem words_same {c d : Ce} (hc : cellB c = true) (hd : cellB d = true) (pc : c.p.Ok) (pd : d.p.Ok) : decide (wordsO c = wordsO d) = decide (c = d) := by
  simp only [wordsO, hc, hd, if_true]
  by_cases h : c = d
  · rw [h]; simp
  · rw [decide_eq_false h, decide_eq_false (fun e => h (words_inj hc hd pc pd e))]

set_option linter.unusedSimpArgs false in
set_option maxRecDepth 100000 in
set_option maxHeartbeats 8000000 in
theorem packedHolds_walk (la lb : List Ce) (n m ba bb ca cb : Nat) (A B : Option Addr) (w : World) (ha : RdC w ba A n la) (hb : RdC w bb B m lb) (hoa : ∀ c ∈ la, c.Ok) (hob : ∀ c ∈ lb, c.Ok) (hT : Tab w) :
    Calls Tryd.prog 8 #[.slice A n ca, .slice B m cb] w fun e w' => e = .returned (.bool true) ∧ Below w.heap.size w w' := by
  have l1 := ha.1
  have l2 := hb.1
  have pa : ∀ c ∈ la, c.p.Ok := fun c hc => (hoa c hc).p
  have pb : ∀ c ∈ lb, c.p.Ok := fun c hc => (hob c hc).p
  refine calls_args (vl := [Value.slice A n ca, Value.slice B m cb]) 141 Tryd.func8 rfl Tryd.ntmps8 (by kernel_rfl) (fun a he => ?_)
  have he0 : Env 141 [(0, Value.slice A n ca), (1, Value.slice B m cb)] a := he
  clear he
  have hH := Hp.start w
  refine wp_seq ?_
  refine wp_region_lit ?_
  refine lV (Value.bool false) he0 rfl rfl (wanted_plain rfl _) (rn_asg rfl (he0.op rfl) w) ?_
  intro a1 he1
  clear he0 a
  refine wpList_nil ?_
  refine then_ok ?_
  by_cases h1 : 40 < n
  · skip
    refine wp_seq ?_
    refine wp_seq ?_
    refine wp_region_lit ?_
    refine lV (Value.slice A n ca) he1 rfl rfl (wanted_plain rfl _) (rn_mv rfl (he1.op rfl) w) ?_
    intro a2 he2
    clear he1 a1
    refine lV (Value.int .i64 (n : Nat)) he2 rfl rfl (wanted_plain rfl _) (rn_lenC rfl (he2.op rfl) w) ?_
    intro a3 he3
    clear he2 a2
    refine lV (Value.bool true) he3 rfl rfl (wanted_plain rfl _) (rn_gtr rfl (he3.op rfl) (he3.op rfl) (decide_eq_true (by omega)) w) ?_
    intro a4 he4
    clear he3 a3
    refine lV (Value.bool true) he4 rfl rfl (wanted_plain rfl _) (rn_mv rfl (he4.op rfl) w) ?_
    intro a5 he5
    clear he4 a4
    refine lSkip he5 rfl rfl (he5.wantNot rfl rfl rfl rfl rfl rfl) ?_
    intro a6 he6
    clear he5 a5
    refine lSkip he6 rfl rfl (he6.wantNot rfl rfl rfl rfl rfl rfl) ?_
    intro a7 he7
    clear he6 a6
    refine lSkip he7 rfl rfl (he7.wantNot rfl rfl rfl rfl rfl rfl) ?_
    intro a8 he8
    clear he7 a7
    refine lV (Value.bool true) he8 rfl rfl (wanted_plain rfl _) (rn_pk rfl (he8.op rfl) (he8.op rfl) w) ?_
    intro a9 he9
    clear he8 a8
    refine wpList_nil ?_
    refine then_ok ?_
    refine wp_cond_true (he9.op rfl) ?_
    refine wp_seq ?_
    refine wp_region_lit ?_
    refine lC he9 rfl rfl Tryd.func11 (by kernel_rfl) rfl rfl (wanted_plain rfl _) rfl (known_any w (hT.new hH.new)) ?_
    intro w10 a11 hn he11
    have hH10 := hH.call hn
    clear he9 a9 hH hn
    refine lV (Value.bool true) he11 rfl rfl (wanted_plain rfl _) (rn_asg rfl (he11.op rfl) w10) ?_
    intro a12 he12
    clear he11 a11
    refine wpList_nil ?_
    refine then_ok ?_
    refine wp_ret ?_
    try simp only [Exit.then, Exit.inBlock]
    exact ret_env rfl he12 rfl ⟨rfl, hH10.new.new_below⟩
  by_cases h2 : 40 < m
  · skip
    refine wp_seq ?_
    refine wp_seq ?_
    refine wp_region_lit ?_
    refine lV (Value.slice A n ca) he1 rfl rfl (wanted_plain rfl _) (rn_mv rfl (he1.op rfl) w) ?_
    intro a13 he13
    clear he1 a1
    refine lV (Value.int .i64 (n : Nat)) he13 rfl rfl (wanted_plain rfl _) (rn_lenC rfl (he13.op rfl) w) ?_
    intro a14 he14
    clear he13 a13
    refine lV (Value.bool false) he14 rfl rfl (wanted_plain rfl _) (rn_gtr rfl (he14.op rfl) (he14.op rfl) (decide_eq_false (by omega)) w) ?_
    intro a15 he15
    clear he14 a14
    refine lV (Value.bool false) he15 rfl rfl (wanted_plain rfl _) (rn_mv rfl (he15.op rfl) w) ?_
    intro a16 he16
    clear he15 a15
    refine lV (Value.slice B m cb) he16 rfl rfl (he16.want rfl rfl rfl rfl rfl) (rn_mv rfl (he16.op rfl) w) ?_
    intro a17 he17
    clear he16 a16
    refine lV (Value.int .i64 (m : Nat)) he17 rfl rfl (he17.want rfl rfl rfl rfl rfl) (rn_lenC rfl (he17.op rfl) w) ?_
    intro a18 he18
    clear he17 a17
    refine lV (Value.bool true) he18 rfl rfl (he18.want rfl rfl rfl rfl rfl) (rn_gtr rfl (he18.op rfl) (he18.op rfl) (decide_eq_true (by omega)) w) ?_
    intro a19 he19
    clear he18 a18
    refine lV (Value.bool true) he19 rfl rfl (wanted_plain rfl _) (rn_pk0 rfl (he19.op rfl) (he19.op rfl) w) ?_
    intro a20 he20
    clear he19 a19
    refine wpList_nil ?_
    refine then_ok ?_
    refine wp_cond_true (he20.op rfl) ?_
    refine wp_seq ?_
    refine wp_region_lit ?_
    refine lC he20 rfl rfl Tryd.func11 (by kernel_rfl) rfl rfl (wanted_plain rfl _) rfl (known_any w (hT.new hH.new)) ?_
    intro w21 a22 hn he22
    have hH21 := hH.call hn
    clear he20 a20 hH hn
    refine lV (Value.bool true) he22 rfl rfl (wanted_plain rfl _) (rn_asg rfl (he22.op rfl) w21) ?_
    intro a23 he23
    clear he22 a22
    refine wpList_nil ?_
    refine then_ok ?_
    refine wp_ret ?_
    try simp only [Exit.then, Exit.inBlock]
    exact ret_env rfl he23 rfl ⟨rfl, hH21.new.new_below⟩
  · skip
    refine wp_seq ?_
    refine wp_seq ?_
    refine wp_region_lit ?_
    refine lV (Value.slice A n ca) he1 rfl rfl (wanted_plain rfl _) (rn_mv rfl (he1.op rfl) w) ?_
    intro a24 he24
    clear he1 a1
    refine lV (Value.int .i64 (n : Nat)) he24 rfl rfl (wanted_plain rfl _) (rn_lenC rfl (he24.op rfl) w) ?_
    intro a25 he25
    clear he24 a24
    refine lV (Value.bool false) he25 rfl rfl (wanted_plain rfl _) (rn_gtr rfl (he25.op rfl) (he25.op rfl) (decide_eq_false (by omega)) w) ?_
    intro a26 he26
    clear he25 a25
    refine lV (Value.bool false) he26 rfl rfl (wanted_plain rfl _) (rn_mv rfl (he26.op rfl) w) ?_
    intro a27 he27
    clear he26 a26
    refine lV (Value.slice B m cb) he27 rfl rfl (he27.want rfl rfl rfl rfl rfl) (rn_mv rfl (he27.op rfl) w) ?_
    intro a28 he28
    clear he27 a27
    refine lV (Value.int .i64 (m : Nat)) he28 rfl rfl (he28.want rfl rfl rfl rfl rfl) (rn_lenC rfl (he28.op rfl) w) ?_
    intro a29 he29
    clear he28 a28
    refine lV (Value.bool false) he29 rfl rfl (he29.want rfl rfl rfl rfl rfl) (rn_gtr rfl (he29.op rfl) (he29.op rfl) (decide_eq_false (by omega)) w) ?_
    intro a30 he30
    clear he29 a29
    refine lV (Value.bool false) he30 rfl rfl (wanted_plain rfl _) (rn_pk0 rfl (he30.op rfl) (he30.op rfl) w) ?_
    intro a31 he31
    clear he30 a30
    refine wpList_nil ?_
    refine then_ok ?_
    refine wp_cond_false (he31.op rfl) ?_
    refine wp_skip ?_
    refine then_ok ?_
    have he32 : Env 141 [(0, Value.slice A n ca), (1, Value.slice B m cb)] a31 := he31.mem ⟨rfl, rfl, trivial⟩
    clear he31
    have k1 := packO_len la
    have k2 := packO_len lb
    have k3 := packO_len (la ++ lb)
    rw [List.length_append] at k3
    refine wp_seq ?_
    refine wp_region_lit ?_
    refine lV (Value.slice A n ca) he32 rfl rfl (wanted_plain rfl _) (rn_mv rfl (he32.op rfl) w) ?_
    intro a33 he33
    clear he32 a31
    refine lCx he33 rfl rfl Tryd.func25 (by kernel_rfl) rfl rfl (wanted_plain rfl _) rfl (Pack_any la n ba ca A w (ha.new hH.new) pa (by omega) (hT.new hH.new)) ?_
    rintro _ w34 ⟨⟨Ax, cx, bx, rfl, hx⟩, hn⟩
    refine ⟨_, rfl, ?_⟩
    intro a35 he35
    have hH34 := hH.call hn
    clear he33 a33 hH
    clear hn
    refine lV (Value.tuple #[Value.slice Ax (packO la).length cx, Value.int .i64 (packE la)]) he35 rfl rfl (wanted_plain rfl _) (rn_mv rfl (he35.op rfl) w34) ?_
    intro a36 he36
    clear he35 a35
    refine lV (Value.slice Ax (packO la).length cx) he36 rfl rfl (wanted_plain rfl _) (rn_ext rfl (he36.op rfl) rfl w34) ?_
    intro a37 he37
    clear he36 a36
    refine lV (Value.int .i64 (packE la)) he37 rfl rfl (wanted_plain rfl _) (rn_ext rfl (he37.op rfl) rfl w34) ?_
    intro a38 he38
    clear he37 a37
    refine lV (Value.slice Ax (packO la).length cx) he38 rfl rfl (wanted_plain rfl _) (rn_asg rfl (he38.op rfl) w34) ?_
    intro a39 he39
    clear he38 a38
    refine lV (Value.int .i64 (packE la)) he39 rfl rfl (wanted_plain rfl _) (rn_asg rfl (he39.op rfl) w34) ?_
    intro a40 he40
    clear he39 a39
    refine wpList_nil ?_
    refine then_ok ?_
    refine wp_seq ?_
    refine wp_region_lit ?_
    refine lV (Value.slice B m cb) he40 rfl rfl (wanted_plain rfl _) (rn_mv rfl (he40.op rfl) w34) ?_
    intro a41 he41
    clear he40 a40
    refine lCx he41 rfl rfl Tryd.func25 (by kernel_rfl) rfl rfl (wanted_plain rfl _) rfl (Pack_any lb m bb cb B w34 (hb.new hH34.new) pb (by omega) (hT.new hH34.new)) ?_
    rintro _ w42 ⟨⟨Ay, cy, by1, rfl, hy⟩, hn⟩
    refine ⟨_, rfl, ?_⟩
    intro a43 he43
    have hH42 := hH34.call hn
    replace hx := hx.new hn
    clear he41 a41 hH34
    clear hn
    refine lV (Value.tuple #[Value.slice Ay (packO lb).length cy, Value.int .i64 (packE lb)]) he43 rfl rfl (wanted_plain rfl _) (rn_mv rfl (he43.op rfl) w42) ?_
    intro a44 he44
    clear he43 a43
    refine lV (Value.slice Ay (packO lb).length cy) he44 rfl rfl (wanted_plain rfl _) (rn_ext rfl (he44.op rfl) rfl w42) ?_
    intro a45 he45
    clear he44 a44
    refine lV (Value.int .i64 (packE lb)) he45 rfl rfl (wanted_plain rfl _) (rn_ext rfl (he45.op rfl) rfl w42) ?_
    intro a46 he46
    clear he45 a45
    refine lV (Value.slice Ay (packO lb).length cy) he46 rfl rfl (wanted_plain rfl _) (rn_asg rfl (he46.op rfl) w42) ?_
    intro a47 he47
    clear he46 a46
    refine lV (Value.int .i64 (packE lb)) he47 rfl rfl (wanted_plain rfl _) (rn_asg rfl (he47.op rfl) w42) ?_
    intro a48 he48
    clear he47 a47
    refine wpList_nil ?_
    refine then_ok ?_
    have he49 : Env 141 [(8, Value.int .i64 (packE lb)), (7, Value.slice Ay (packO lb).length cy), (6, Value.int .i64 (packE la)), (5, Value.slice Ax (packO la).length cx), (0, Value.slice A n ca), (1, Value.slice B m cb)] a48 := he48.mem ⟨rfl, rfl, rfl, rfl, rfl, rfl, trivial⟩
    clear he48
    as_aux_lemma =>
      refine wp_seq ?_
      refine wp_region_lit ?_
      refine lV (Value.slice A n ca) he49 rfl rfl (wanted_plain rfl _) (rn_mv rfl (he49.op rfl) w42) ?_
      intro a50 he50
      clear he49 a48
      have hNwb := hH42.new
      have hx0 := hx
      have hy0 := hy
      refine lAppO (R := rC) (l := []) (World.ownsRow_nil w42 w42.heap.size 30 16) (ha.new hH42.new) he50 rfl rfl (wanted_plain rfl _) rfl rfl rfl (by omega) (Nat.le_refl _) ?_
      intro v1x w1x a51 ho1 hgr _ he51
      clear he50 a50
      have hNb1 : New w42 w1x := Fr.grown (Fr.refl _ _) hgr (fun k h => by cases h)
      have hH1x := hH42.call hNb1
      have hb1 : w42.heap.size ≤ w1x.heap.size := hNb1.size
      clear hgr hx hy hH42
      rw [Nat.zero_add, List.nil_append] at ho1
      refine lV (Value.slice B m cb) he51 rfl rfl (wanted_plain rfl _) (rn_mv rfl (he51.op rfl) w1x) ?_
      intro a52 he52
      clear he51 a51
      refine lAppO (R := rC) ho1 (hb.new hH1x.new) he52 rfl rfl (wanted_plain rfl _) rfl rfl rfl (by omega) hb1 ?_
      intro v2x w2x a53 ho2 hgr _ he53
      clear he52 a52
      have hf : Fr (fun k => w42.heap.size ≤ k) w1x w2x := Fr.grown (Fr.refl _ _) hgr (fun k h => .inl (own_blk ho1 k h))
      obtain ⟨b2, A2, c2x, rfl, -, hr2⟩ := own_rdg (R := rC) ho2
      replace hr2 := rdc_of hr2
      have hH2x : Hp w [] w2x := ⟨new_low hNwb hH1x.new hf, by simp, by simp⟩
      have hx := hx0.low hNb1 hf
      have hy := hy0.low hNb1 hf
      clear hf hgr ho1 ho2 hx0 hy0 hH1x
      have pab : ∀ c ∈ la ++ lb, c.p.Ok := fun c hc => (List.mem_append.1 hc).elim (pa c) (pb c)
      refine lCx he53 rfl rfl Tryd.func25 (by kernel_rfl) rfl rfl (wanted_plain rfl _) rfl (Pack_any (la ++ lb) _ _ _ _ w2x hr2 pab (by omega) (hT.new hH2x.new)) ?_
      rintro _ w54 ⟨⟨Az, cz, bz, rfl, hz⟩, hn⟩
      refine ⟨_, rfl, ?_⟩
      intro a55 he55
      have hH54 := hH2x.call hn
      replace hx := hx.new hn
      replace hy := hy.new hn
      clear he53 a53 hH2x
      clear hn hr2
      refine lV (Value.tuple #[Value.slice Az (packO (la ++ lb)).length cz, Value.int .i64 (packE (la ++ lb))]) he55 rfl rfl (wanted_plain rfl _) (rn_mv rfl (he55.op rfl) w54) ?_
      intro a56 he56
      clear he55 a55
      refine lV (Value.slice Az (packO (la ++ lb)).length cz) he56 rfl rfl (wanted_plain rfl _) (rn_ext rfl (he56.op rfl) rfl w54) ?_
      intro a57 he57
      clear he56 a56
      refine lV (Value.int .i64 (packE (la ++ lb))) he57 rfl rfl (wanted_plain rfl _) (rn_ext rfl (he57.op rfl) rfl w54) ?_
      intro a58 he58
      clear he57 a57
      refine lV (Value.slice Az (packO (la ++ lb)).length cz) he58 rfl rfl (wanted_plain rfl _) (rn_asg rfl (he58.op rfl) w54) ?_
      intro a59 he59
      clear he58 a58
      refine lV (Value.int .i64 (packE (la ++ lb))) he59 rfl rfl (wanted_plain rfl _) (rn_asg rfl (he59.op rfl) w54) ?_
      intro a60 he60
      clear he59 a59
      refine wpList_nil ?_
      refine then_ok ?_
      have he61 : Env 141 [(10, Value.int .i64 (packE (la ++ lb))), (9, Value.slice Az (packO (la ++ lb)).length cz), (8, Value.int .i64 (packE lb)), (7, Value.slice Ay (packO lb).length cy), (6, Value.int .i64 (packE la)), (5, Value.slice Ax (packO la).length cx), (0, Value.slice A n ca), (1, Value.slice B m cb)] a60 := he60.mem ⟨rfl, rfl, rfl, rfl, rfl, rfl, rfl, rfl, trivial⟩
      clear he60
      as_aux_lemma =>
        obtain ⟨ea, hea⟩ : ∃ ea, (packE la == 0) = ea := ⟨_, rfl⟩
        obtain ⟨eb, heb⟩ : ∃ eb, (packE lb == 0) = eb := ⟨_, rfl⟩
        have hez : (packE (la ++ lb) == 0) = (ea && eb) := by rw [packE_append (by omega) (by omega), hea, heb]
        refine wp_seq ?_
        refine reg_cut (fun a w' => Env 141 [(10, Value.int .i64 (packE (la ++ lb))), (9, Value.slice Az (packO (la ++ lb)).length cz), (8, Value.int .i64 (packE lb)), (7, Value.slice Ay (packO lb).length cy), (6, Value.int .i64 (packE la)), (5, Value.slice Ax (packO la).length cx), (0, Value.slice A n ca), (1, Value.slice B m cb)] a ∧ Hp w [] w' ∧ RdR w' bx Ax (packO la).length (packO la) ∧ RdR w' by1 Ay (packO lb).length (packO lb) ∧ RdR w' bz Az (packO (la ++ lb)).length (packO (la ++ lb))) ?_ ?_
        · skip
          cases ea <;> cases eb
          · skip
            refine wp_seq ?_
            refine wp_region_lit ?_
            refine lV (Value.int .i64 (packE la)) he61 rfl rfl (wanted_plain rfl _) (rn_mv rfl (he61.op rfl) w54) ?_
            intro a62 he62
            clear he61 a60
            refine lV (Value.bool false) he62 rfl rfl (wanted_plain rfl _) (rn_eqE rfl (he62.op rfl) (he62.op rfl) hea w54) ?_
            intro a63 he63
            clear he62 a62
            refine lV (Value.bool false) he63 rfl rfl (wanted_plain rfl _) (rn_mv rfl (he63.op rfl) w54) ?_
            intro a64 he64
            clear he63 a63
            refine lSkip he64 rfl rfl (he64.wantNot rfl rfl rfl rfl rfl rfl) ?_
            intro a65 he65
            clear he64 a64
            refine lSkip he65 rfl rfl (he65.wantNot rfl rfl rfl rfl rfl rfl) ?_
            intro a66 he66
            clear he65 a65
            refine lV (Value.bool false) he66 rfl rfl (wanted_plain rfl _) (rn_pk0 rfl (he66.op rfl) (he66.op rfl) w54) ?_
            intro a67 he67
            clear he66 a66
            refine lV (Value.int .i64 (packE (la ++ lb))) he67 rfl rfl (wanted_plain rfl _) (rn_mv rfl (he67.op rfl) w54) ?_
            intro a68 he68
            clear he67 a67
            refine lV (Value.bool false) he68 rfl rfl (wanted_plain rfl _) (rn_eqE rfl (he68.op rfl) (he68.op rfl) hez w54) ?_
            intro a69 he69
            clear he68 a68
            refine lV (Value.bool false) he69 rfl rfl (wanted_plain rfl _) (rn_neB rfl (he69.op rfl) (he69.op rfl) (by simp) w54) ?_
            intro a70 he70
            clear he69 a69
            refine wpList_nil ?_
            refine then_ok ?_
            refine wp_cond_false (he70.op rfl) ?_
            refine wp_skip ?_
            refine then_ok ?_
            exact ⟨he70.mem ⟨rfl, rfl, rfl, rfl, rfl, rfl, rfl, rfl, trivial⟩, hH54, hx, hy, hz⟩
          · skip
            refine wp_seq ?_
            refine wp_region_lit ?_
            refine lV (Value.int .i64 (packE la)) he61 rfl rfl (wanted_plain rfl _) (rn_mv rfl (he61.op rfl) w54) ?_
            intro a71 he71
            clear he61 a60
            refine lV (Value.bool false) he71 rfl rfl (wanted_plain rfl _) (rn_eqE rfl (he71.op rfl) (he71.op rfl) hea w54) ?_
            intro a72 he72
            clear he71 a71
            refine lV (Value.bool false) he72 rfl rfl (wanted_plain rfl _) (rn_mv rfl (he72.op rfl) w54) ?_
            intro a73 he73
            clear he72 a72
            refine lSkip he73 rfl rfl (he73.wantNot rfl rfl rfl rfl rfl rfl) ?_
            intro a74 he74
            clear he73 a73
            refine lSkip he74 rfl rfl (he74.wantNot rfl rfl rfl rfl rfl rfl) ?_
            intro a75 he75
            clear he74 a74
            refine lV (Value.bool false) he75 rfl rfl (wanted_plain rfl _) (rn_pk0 rfl (he75.op rfl) (he75.op rfl) w54) ?_
            intro a76 he76
            clear he75 a75
            refine lV (Value.int .i64 (packE (la ++ lb))) he76 rfl rfl (wanted_plain rfl _) (rn_mv rfl (he76.op rfl) w54) ?_
            intro a77 he77
            clear he76 a76
            refine lV (Value.bool false) he77 rfl rfl (wanted_plain rfl _) (rn_eqE rfl (he77.op rfl) (he77.op rfl) hez w54) ?_
            intro a78 he78
            clear he77 a77
            refine lV (Value.bool false) he78 rfl rfl (wanted_plain rfl _) (rn_neB rfl (he78.op rfl) (he78.op rfl) (by simp) w54) ?_
            intro a79 he79
            clear he78 a78
            refine wpList_nil ?_
            refine then_ok ?_
            refine wp_cond_false (he79.op rfl) ?_
            refine wp_skip ?_
            refine then_ok ?_
            exact ⟨he79.mem ⟨rfl, rfl, rfl, rfl, rfl, rfl, rfl, rfl, trivial⟩, hH54, hx, hy, hz⟩
          · skip
            refine wp_seq ?_
            refine wp_region_lit ?_
            refine lV (Value.int .i64 (packE la)) he61 rfl rfl (wanted_plain rfl _) (rn_mv rfl (he61.op rfl) w54) ?_
            intro a80 he80
            clear he61 a60
            refine lV (Value.bool true) he80 rfl rfl (wanted_plain rfl _) (rn_eqE rfl (he80.op rfl) (he80.op rfl) hea w54) ?_
            intro a81 he81
            clear he80 a80
            refine lV (Value.bool true) he81 rfl rfl (wanted_plain rfl _) (rn_mv rfl (he81.op rfl) w54) ?_
            intro a82 he82
            clear he81 a81
            refine lV (Value.int .i64 (packE lb)) he82 rfl rfl (he82.want rfl rfl rfl rfl rfl) (rn_mv rfl (he82.op rfl) w54) ?_
            intro a83 he83
            clear he82 a82
            refine lV (Value.bool false) he83 rfl rfl (he83.want rfl rfl rfl rfl rfl) (rn_eqE rfl (he83.op rfl) (he83.op rfl) heb w54) ?_
            intro a84 he84
            clear he83 a83
            refine lV (Value.bool false) he84 rfl rfl (wanted_plain rfl _) (rn_pk rfl (he84.op rfl) (he84.op rfl) w54) ?_
            intro a85 he85
            clear he84 a84
            refine lV (Value.int .i64 (packE (la ++ lb))) he85 rfl rfl (wanted_plain rfl _) (rn_mv rfl (he85.op rfl) w54) ?_
            intro a86 he86
            clear he85 a85
            refine lV (Value.bool false) he86 rfl rfl (wanted_plain rfl _) (rn_eqE rfl (he86.op rfl) (he86.op rfl) hez w54) ?_
            intro a87 he87
            clear he86 a86
            refine lV (Value.bool false) he87 rfl rfl (wanted_plain rfl _) (rn_neB rfl (he87.op rfl) (he87.op rfl) (by simp) w54) ?_
            intro a88 he88
            clear he87 a87
            refine wpList_nil ?_
            refine then_ok ?_
            refine wp_cond_false (he88.op rfl) ?_
            refine wp_skip ?_
            refine then_ok ?_
            exact ⟨he88.mem ⟨rfl, rfl, rfl, rfl, rfl, rfl, rfl, rfl, trivial⟩, hH54, hx, hy, hz⟩
          · skip
            refine wp_seq ?_
            refine wp_region_lit ?_
            refine lV (Value.int .i64 (packE la)) he61 rfl rfl (wanted_plain rfl _) (rn_mv rfl (he61.op rfl) w54) ?_
            intro a89 he89
            clear he61 a60
            refine lV (Value.bool true) he89 rfl rfl (wanted_plain rfl _) (rn_eqE rfl (he89.op rfl) (he89.op rfl) hea w54) ?_
            intro a90 he90
            clear he89 a89
            refine lV (Value.bool true) he90 rfl rfl (wanted_plain rfl _) (rn_mv rfl (he90.op rfl) w54) ?_
            intro a91 he91
            clear he90 a90
            refine lV (Value.int .i64 (packE lb)) he91 rfl rfl (he91.want rfl rfl rfl rfl rfl) (rn_mv rfl (he91.op rfl) w54) ?_
            intro a92 he92
            clear he91 a91
            refine lV (Value.bool true) he92 rfl rfl (he92.want rfl rfl rfl rfl rfl) (rn_eqE rfl (he92.op rfl) (he92.op rfl) heb w54) ?_
            intro a93 he93
            clear he92 a92
            refine lV (Value.bool true) he93 rfl rfl (wanted_plain rfl _) (rn_pk rfl (he93.op rfl) (he93.op rfl) w54) ?_
            intro a94 he94
            clear he93 a93
            refine lV (Value.int .i64 (packE (la ++ lb))) he94 rfl rfl (wanted_plain rfl _) (rn_mv rfl (he94.op rfl) w54) ?_
            intro a95 he95
            clear he94 a94
            refine lV (Value.bool true) he95 rfl rfl (wanted_plain rfl _) (rn_eqE rfl (he95.op rfl) (he95.op rfl) hez w54) ?_
            intro a96 he96
            clear he95 a95
            refine lV (Value.bool false) he96 rfl rfl (wanted_plain rfl _) (rn_neB rfl (he96.op rfl) (he96.op rfl) (by simp) w54) ?_
            intro a97 he97
            clear he96 a96
            refine wpList_nil ?_
            refine then_ok ?_
            refine wp_cond_false (he97.op rfl) ?_
            refine wp_skip ?_
            refine then_ok ?_
            exact ⟨he97.mem ⟨rfl, rfl, rfl, rfl, rfl, rfl, rfl, rfl, trivial⟩, hH54, hx, hy, hz⟩
        · skip
          clear hx hy hz
          rintro a98 w98 ⟨he98, hH98, hx, hy, hz⟩
          clear he61 hH54
          refine wp_seq ?_
          refine reg_cut (fun a w' => Env 141 [(0, Value.slice A n ca), (1, Value.slice B m cb)] a ∧ Hp w [] w' ∧ RdR w' bx Ax (packO la).length (packO la) ∧ RdR w' by1 Ay (packO lb).length (packO lb) ∧ RdR w' bz Az (packO (la ++ lb)).length (packO (la ++ lb))) ?_ ?_
          · skip
            cases ea <;> cases eb
            · skip
              refine wp_seq ?_
              refine wp_region_lit ?_
              refine lV (Value.int .i64 (packE la)) he98 rfl rfl (wanted_plain rfl _) (rn_mv rfl (he98.op rfl) w98) ?_
              intro a99 he99
              clear he98 a98
              refine lV (Value.bool false) he99 rfl rfl (wanted_plain rfl _) (rn_eqE rfl (he99.op rfl) (he99.op rfl) hea w98) ?_
              intro a100 he100
              clear he99 a99
              refine lV (Value.bool false) he100 rfl rfl (wanted_plain rfl _) (rn_mv rfl (he100.op rfl) w98) ?_
              intro a101 he101
              clear he100 a100
              refine lSkip he101 rfl rfl (he101.wantNot rfl rfl rfl rfl rfl rfl) ?_
              intro a102 he102
              clear he101 a101
              refine lSkip he102 rfl rfl (he102.wantNot rfl rfl rfl rfl rfl rfl) ?_
              intro a103 he103
              clear he102 a102
              refine lSkip he103 rfl rfl (he103.wantNot rfl rfl rfl rfl rfl rfl) ?_
              intro a104 he104
              clear he103 a103
              refine lSkip he104 rfl rfl (he104.wantNot rfl rfl rfl rfl rfl rfl) ?_
              intro a105 he105
              clear he104 a104
              refine lSkip he105 rfl rfl (he105.wantU rfl rfl rfl rfl rfl) ?_
              intro a106 he106
              clear he105 a105
              refine lSkip he106 rfl rfl (he106.wantU rfl rfl rfl rfl rfl) ?_
              intro a107 he107
              clear he106 a106
              refine lSkip he107 rfl rfl (he107.wantU rfl rfl rfl rfl rfl) ?_
              intro a108 he108
              clear he107 a107
              refine lSkip he108 rfl rfl (he108.wantU rfl rfl rfl rfl rfl) ?_
              intro a109 he109
              clear he108 a108
              refine lSkip he109 rfl rfl (he109.wantU rfl rfl rfl rfl rfl) ?_
              intro a110 he110
              clear he109 a109
              refine lSkip he110 rfl rfl (he110.wantNot rfl rfl rfl rfl rfl rfl) ?_
              intro a111 he111
              clear he110 a110
              refine lSkip he111 rfl rfl (he111.wantNot rfl rfl rfl rfl rfl rfl) ?_
              intro a112 he112
              clear he111 a111
              refine lSkip he112 rfl rfl (he112.wantU rfl rfl rfl rfl rfl) ?_
              intro a113 he113
              clear he112 a112
              refine lSkip he113 rfl rfl (he113.wantU rfl rfl rfl rfl rfl) ?_
              intro a114 he114
              clear he113 a113
              refine lSkip he114 rfl rfl (he114.wantU rfl rfl rfl rfl rfl) ?_
              intro a115 he115
              clear he114 a114
              refine lSkip he115 rfl rfl (he115.wantU rfl rfl rfl rfl rfl) ?_
              intro a116 he116
              clear he115 a115
              refine lSkip he116 rfl rfl (he116.wantU rfl rfl rfl rfl rfl) ?_
              intro a117 he117
              clear he116 a116
              refine lSkip he117 rfl rfl (he117.wantNot rfl rfl rfl rfl rfl rfl) ?_
              intro a118 he118
              clear he117 a117
              refine lSkip he118 rfl rfl (he118.wantNot rfl rfl rfl rfl rfl rfl) ?_
              intro a119 he119
              clear he118 a118
              refine lSkip he119 rfl rfl (he119.wantU rfl rfl rfl rfl rfl) ?_
              intro a120 he120
              clear he119 a119
              refine lSkip he120 rfl rfl (he120.wantU rfl rfl rfl rfl rfl) ?_
              intro a121 he121
              clear he120 a120
              refine lSkip he121 rfl rfl (he121.wantU rfl rfl rfl rfl rfl) ?_
              intro a122 he122
              clear he121 a121
              refine lSkip he122 rfl rfl (he122.wantU rfl rfl rfl rfl rfl) ?_
              intro a123 he123
              clear he122 a122
              refine lSkip he123 rfl rfl (he123.wantNot rfl rfl rfl rfl rfl rfl) ?_
              intro a124 he124
              clear he123 a123
              refine lV (Value.bool false) he124 rfl rfl (wanted_plain rfl _) (rn_pk0 rfl (he124.op rfl) (he124.op rfl) w98) ?_
              intro a125 he125
              clear he124 a124
              refine lV (Value.bool false) he125 rfl rfl (wanted_plain rfl _) (rn_mv rfl (he125.op rfl) w98) ?_
              intro a126 he126
              clear he125 a125
              refine lV (Value.int .i64 (packE (la ++ lb))) he126 rfl rfl (he126.want rfl rfl rfl rfl rfl) (rn_mv rfl (he126.op rfl) w98) ?_
              intro a127 he127
              clear he126 a126
              refine lV (Value.bool false) he127 rfl rfl (he127.want rfl rfl rfl rfl rfl) (rn_eqE rfl (he127.op rfl) (he127.op rfl) hez w98) ?_
              intro a128 he128
              clear he127 a127
              refine lV (Value.bool false) he128 rfl rfl (he128.want rfl rfl rfl rfl rfl) (rn_mv rfl (he128.op rfl) w98) ?_
              intro a129 he129
              clear he128 a128
              refine lSkip he129 rfl rfl (he129.wantNot rfl rfl rfl rfl rfl rfl) ?_
              intro a130 he130
              clear he129 a129
              refine lSkip he130 rfl rfl (he130.wantNot rfl rfl rfl rfl rfl rfl) ?_
              intro a131 he131
              clear he130 a130
              refine lSkip he131 rfl rfl (he131.wantNot rfl rfl rfl rfl rfl rfl) ?_
              intro a132 he132
              clear he131 a131
              refine lSkip he132 rfl rfl (he132.wantNot rfl rfl rfl rfl rfl rfl) ?_
              intro a133 he133
              clear he132 a132
              refine lSkip he133 rfl rfl (he133.wantNot rfl rfl rfl rfl rfl rfl) ?_
              intro a134 he134
              clear he133 a133
              refine lV (Value.bool false) he134 rfl rfl (he134.want rfl rfl rfl rfl rfl) (rn_pk0 rfl (he134.op rfl) (he134.op rfl) w98) ?_
              intro a135 he135
              clear he134 a134
              refine lV (Value.bool false) he135 rfl rfl (wanted_plain rfl _) (rn_pk0 rfl (he135.op rfl) (he135.op rfl) w98) ?_
              intro a136 he136
              clear he135 a135
              refine wpList_nil ?_
              refine then_ok ?_
              refine wp_cond_false (he136.op rfl) ?_
              refine wp_skip ?_
              refine then_ok ?_
              exact ⟨he136.mem ⟨rfl, rfl, trivial⟩, hH98, hx, hy, hz⟩
            · skip
              refine wp_seq ?_
              refine wp_region_lit ?_
              refine lV (Value.int .i64 (packE la)) he98 rfl rfl (wanted_plain rfl _) (rn_mv rfl (he98.op rfl) w98) ?_
              intro a137 he137
              clear he98 a98
              refine lV (Value.bool false) he137 rfl rfl (wanted_plain rfl _) (rn_eqE rfl (he137.op rfl) (he137.op rfl) hea w98) ?_
              intro a138 he138
              clear he137 a137
              refine lV (Value.bool false) he138 rfl rfl (wanted_plain rfl _) (rn_mv rfl (he138.op rfl) w98) ?_
              intro a139 he139
              clear he138 a138
              refine lSkip he139 rfl rfl (he139.wantNot rfl rfl rfl rfl rfl rfl) ?_
              intro a140 he140
              clear he139 a139
              refine lSkip he140 rfl rfl (he140.wantNot rfl rfl rfl rfl rfl rfl) ?_
              intro a141 he141
              clear he140 a140
              refine lSkip he141 rfl rfl (he141.wantNot rfl rfl rfl rfl rfl rfl) ?_
              intro a142 he142
              clear he141 a141
              refine lSkip he142 rfl rfl (he142.wantNot rfl rfl rfl rfl rfl rfl) ?_
              intro a143 he143
              clear he142 a142
              refine lSkip he143 rfl rfl (he143.wantU rfl rfl rfl rfl rfl) ?_
              intro a144 he144
              clear he143 a143
              refine lSkip he144 rfl rfl (he144.wantU rfl rfl rfl rfl rfl) ?_
              intro a145 he145
              clear he144 a144
              refine lSkip he145 rfl rfl (he145.wantU rfl rfl rfl rfl rfl) ?_
              intro a146 he146
              clear he145 a145
              refine lSkip he146 rfl rfl (he146.wantU rfl rfl rfl rfl rfl) ?_
              intro a147 he147
              clear he146 a146
              refine lSkip he147 rfl rfl (he147.wantU rfl rfl rfl rfl rfl) ?_
              intro a148 he148
              clear he147 a147
              refine lSkip he148 rfl rfl (he148.wantNot rfl rfl rfl rfl rfl rfl) ?_
              intro a149 he149
              clear he148 a148
              refine lSkip he149 rfl rfl (he149.wantNot rfl rfl rfl rfl rfl rfl) ?_
              intro a150 he150
              clear he149 a149
              refine lSkip he150 rfl rfl (he150.wantU rfl rfl rfl rfl rfl) ?_
              intro a151 he151
              clear he150 a150
              refine lSkip he151 rfl rfl (he151.wantU rfl rfl rfl rfl rfl) ?_
              intro a152 he152
              clear he151 a151
              refine lSkip he152 rfl rfl (he152.wantU rfl rfl rfl rfl rfl) ?_
              intro a153 he153
              clear he152 a152
              refine lSkip he153 rfl rfl (he153.wantU rfl rfl rfl rfl rfl) ?_
              intro a154 he154
              clear he153 a153
              refine lSkip he154 rfl rfl (he154.wantU rfl rfl rfl rfl rfl) ?_
              intro a155 he155
              clear he154 a154
              refine lSkip he155 rfl rfl (he155.wantNot rfl rfl rfl rfl rfl rfl) ?_
              intro a156 he156
              clear he155 a155
              refine lSkip he156 rfl rfl (he156.wantNot rfl rfl rfl rfl rfl rfl) ?_
              intro a157 he157
              clear he156 a156
              refine lSkip he157 rfl rfl (he157.wantU rfl rfl rfl rfl rfl) ?_
              intro a158 he158
              clear he157 a157
              refine lSkip he158 rfl rfl (he158.wantU rfl rfl rfl rfl rfl) ?_
              intro a159 he159
              clear he158 a158
              refine lSkip he159 rfl rfl (he159.wantU rfl rfl rfl rfl rfl) ?_
              intro a160 he160
              clear he159 a159
              refine lSkip he160 rfl rfl (he160.wantU rfl rfl rfl rfl rfl) ?_
              intro a161 he161
              clear he160 a160
              refine lSkip he161 rfl rfl (he161.wantNot rfl rfl rfl rfl rfl rfl) ?_
              intro a162 he162
              clear he161 a161
              refine lV (Value.bool false) he162 rfl rfl (wanted_plain rfl _) (rn_pk0 rfl (he162.op rfl) (he162.op rfl) w98) ?_
              intro a163 he163
              clear he162 a162
              refine lV (Value.bool false) he163 rfl rfl (wanted_plain rfl _) (rn_mv rfl (he163.op rfl) w98) ?_
              intro a164 he164
              clear he163 a163
              refine lV (Value.int .i64 (packE (la ++ lb))) he164 rfl rfl (he164.want rfl rfl rfl rfl rfl) (rn_mv rfl (he164.op rfl) w98) ?_
              intro a165 he165
              clear he164 a164
              refine lV (Value.bool false) he165 rfl rfl (he165.want rfl rfl rfl rfl rfl) (rn_eqE rfl (he165.op rfl) (he165.op rfl) hez w98) ?_
              intro a166 he166
              clear he165 a165
              refine lV (Value.bool false) he166 rfl rfl (he166.want rfl rfl rfl rfl rfl) (rn_mv rfl (he166.op rfl) w98) ?_
              intro a167 he167
              clear he166 a166
              refine lSkip he167 rfl rfl (he167.wantNot rfl rfl rfl rfl rfl rfl) ?_
              intro a168 he168
              clear he167 a167
              refine lSkip he168 rfl rfl (he168.wantNot rfl rfl rfl rfl rfl rfl) ?_
              intro a169 he169
              clear he168 a168
              refine lSkip he169 rfl rfl (he169.wantNot rfl rfl rfl rfl rfl rfl) ?_
              intro a170 he170
              clear he169 a169
              refine lSkip he170 rfl rfl (he170.wantNot rfl rfl rfl rfl rfl rfl) ?_
              intro a171 he171
              clear he170 a170
              refine lSkip he171 rfl rfl (he171.wantNot rfl rfl rfl rfl rfl rfl) ?_
              intro a172 he172
              clear he171 a171
              refine lV (Value.bool false) he172 rfl rfl (he172.want rfl rfl rfl rfl rfl) (rn_pk0 rfl (he172.op rfl) (he172.op rfl) w98) ?_
              intro a173 he173
              clear he172 a172
              refine lV (Value.bool false) he173 rfl rfl (wanted_plain rfl _) (rn_pk0 rfl (he173.op rfl) (he173.op rfl) w98) ?_
              intro a174 he174
              clear he173 a173
              refine wpList_nil ?_
              refine then_ok ?_
              refine wp_cond_false (he174.op rfl) ?_
              refine wp_skip ?_
              refine then_ok ?_
              exact ⟨he174.mem ⟨rfl, rfl, trivial⟩, hH98, hx, hy, hz⟩
            · skip
              have ea0 : packE la = 0 := by simpa using hea
              obtain ⟨f1, f2, f3, f4, f5⟩ := pack_facts ea0 pa
              have u1 : (decide (cellsO (packL la) = la) && (cellsE (packL la) == 0)) = true := by simp [cellsO, cellsE, f2, f4]
              rw [f1] at hx he98 k1
              refine wp_seq ?_
              refine wp_region_lit ?_
              refine lV (Value.int .i64 (packE la)) he98 rfl rfl (wanted_plain rfl _) (rn_mv rfl (he98.op rfl) w98) ?_
              intro a175 he175
              clear he98 a98
              refine lV (Value.bool true) he175 rfl rfl (wanted_plain rfl _) (rn_eqE rfl (he175.op rfl) (he175.op rfl) hea w98) ?_
              intro a176 he176
              clear he175 a175
              refine lV (Value.bool true) he176 rfl rfl (wanted_plain rfl _) (rn_mv rfl (he176.op rfl) w98) ?_
              intro a177 he177
              clear he176 a176
              refine lV (Value.slice Ax (packL la).length cx) he177 rfl rfl (he177.want rfl rfl rfl rfl rfl) (rn_mv rfl (he177.op rfl) w98) ?_
              intro a178 he178
              clear he177 a177
              refine lC he178 rfl rfl Tryd.func20 (by kernel_rfl) rfl rfl (he178.want rfl rfl rfl rfl rfl) rfl (f2 ▸ ValidR_any (packL la) _ bx cx Ax w98 hx (runs_ok f2) (by omega) (hT.new hH98.new)) ?_
              intro w179 a180 hn he180
              have hH179 := hH98.call hn
              replace hx := hx.new hn
              replace hy := hy.new hn
              replace hz := hz.new hn
              clear he178 a178 hH98 hn
              refine lV (Value.bool false) he180 rfl rfl (he180.want rfl rfl rfl rfl rfl) (rn_not (b := true) rfl (he180.op rfl) w179) ?_
              intro a181 he181
              clear he180 a180
              refine lV (Value.bool false) he181 rfl rfl (he181.want rfl rfl rfl rfl rfl) (rn_mv rfl (he181.op rfl) w179) ?_
              intro a182 he182
              clear he181 a181
              refine lV (Value.slice Ax (packL la).length cx) he182 rfl rfl (he182.want rfl rfl rfl rfl rfl) (rn_mv rfl (he182.op rfl) w179) ?_
              intro a183 he183
              clear he182 a182
              refine lC he183 rfl rfl Tryd.func21 (by kernel_rfl) rfl rfl (he183.want rfl rfl rfl rfl rfl) rfl ((by have h := CountR_any (packL la) _ bx cx Ax w179 hx (runs_ok f2) (by omega) (hT.new hH179.new); rw [f3, l1] at h; exact h)) ?_
              intro w184 a185 hn he185
              have hH184 := hH179.call hn
              replace hx := hx.new hn
              replace hy := hy.new hn
              replace hz := hz.new hn
              clear he183 a183 hH179 hn
              refine lV (Value.slice A n ca) he185 rfl rfl (he185.want rfl rfl rfl rfl rfl) (rn_mv rfl (he185.op rfl) w184) ?_
              intro a186 he186
              clear he185 a185
              refine lV (Value.int .i64 (n : Nat)) he186 rfl rfl (he186.want rfl rfl rfl rfl rfl) (rn_lenC rfl (he186.op rfl) w184) ?_
              intro a187 he187
              clear he186 a186
              refine lV (Value.bool false) he187 rfl rfl (he187.want rfl rfl rfl rfl rfl) (rn_neI rfl (he187.op rfl) (he187.op rfl) (by simp) w184) ?_
              intro a188 he188
              clear he187 a187
              refine lV (Value.bool false) he188 rfl rfl (he188.want rfl rfl rfl rfl rfl) (rn_pk0 rfl (he188.op rfl) (he188.op rfl) w184) ?_
              intro a189 he189
              clear he188 a188
              refine lV (Value.bool false) he189 rfl rfl (he189.want rfl rfl rfl rfl rfl) (rn_mv rfl (he189.op rfl) w184) ?_
              intro a190 he190
              clear he189 a189
              refine lV (Value.slice Ax (packL la).length cx) he190 rfl rfl (he190.want rfl rfl rfl rfl rfl) (rn_mv rfl (he190.op rfl) w184) ?_
              intro a191 he191
              clear he190 a190
              refine lV (Value.int .i64 ((packL la).length : Nat)) he191 rfl rfl (he191.want rfl rfl rfl rfl rfl) (rn_lenR rfl (he191.op rfl) w184) ?_
              intro a192 he192
              clear he191 a191
              refine lV (Value.slice A n ca) he192 rfl rfl (he192.want rfl rfl rfl rfl rfl) (rn_mv rfl (he192.op rfl) w184) ?_
              intro a193 he193
              clear he192 a192
              refine lV (Value.int .i64 (n : Nat)) he193 rfl rfl (he193.want rfl rfl rfl rfl rfl) (rn_lenC rfl (he193.op rfl) w184) ?_
              intro a194 he194
              clear he193 a193
              refine lV (Value.bool false) he194 rfl rfl (he194.want rfl rfl rfl rfl rfl) (rn_gtr rfl (he194.op rfl) (he194.op rfl) (decide_eq_false (by omega)) w184) ?_
              intro a195 he195
              clear he194 a194
              refine lV (Value.bool false) he195 rfl rfl (he195.want rfl rfl rfl rfl rfl) (rn_pk0 rfl (he195.op rfl) (he195.op rfl) w184) ?_
              intro a196 he196
              clear he195 a195
              refine lV (Value.bool false) he196 rfl rfl (he196.want rfl rfl rfl rfl rfl) (rn_mv rfl (he196.op rfl) w184) ?_
              intro a197 he197
              clear he196 a196
              refine lV (Value.slice Ax (packL la).length cx) he197 rfl rfl (he197.want rfl rfl rfl rfl rfl) (rn_mv rfl (he197.op rfl) w184) ?_
              intro a198 he198
              clear he197 a197
              refine lV (Value.slice A n ca) he198 rfl rfl (he198.want rfl rfl rfl rfl rfl) (rn_mv rfl (he198.op rfl) w184) ?_
              intro a199 he199
              clear he198 a198
              refine lC he199 rfl rfl Tryd.func22 (by kernel_rfl) rfl rfl (he199.want rfl rfl rfl rfl rfl) rfl (unpacks_b (packL la) _ bx cx Ax 0 la n ba ca A true u1 w184 hx (runs_ok f2) (by omega) (ha.new hH184.new) (by omega) (hT.new hH184.new)) ?_
              intro w200 a201 hn he201
              have hH200 := hH184.call hn
              replace hx := hx.new hn
              replace hy := hy.new hn
              replace hz := hz.new hn
              clear he199 a199 hH184 hn
              refine lV (Value.bool false) he201 rfl rfl (he201.want rfl rfl rfl rfl rfl) (rn_not (b := true) rfl (he201.op rfl) w200) ?_
              intro a202 he202
              clear he201 a201
              refine lV (Value.bool false) he202 rfl rfl (he202.want rfl rfl rfl rfl rfl) (rn_pk0 rfl (he202.op rfl) (he202.op rfl) w200) ?_
              intro a203 he203
              clear he202 a202
              refine lV (Value.bool false) he203 rfl rfl (wanted_plain rfl _) (rn_pk rfl (he203.op rfl) (he203.op rfl) w200) ?_
              intro a204 he204
              clear he203 a203
              refine lV (Value.bool false) he204 rfl rfl (wanted_plain rfl _) (rn_mv rfl (he204.op rfl) w200) ?_
              intro a205 he205
              clear he204 a204
              refine lV (Value.int .i64 (packE (la ++ lb))) he205 rfl rfl (he205.want rfl rfl rfl rfl rfl) (rn_mv rfl (he205.op rfl) w200) ?_
              intro a206 he206
              clear he205 a205
              refine lV (Value.bool false) he206 rfl rfl (he206.want rfl rfl rfl rfl rfl) (rn_eqE rfl (he206.op rfl) (he206.op rfl) hez w200) ?_
              intro a207 he207
              clear he206 a206
              refine lV (Value.bool false) he207 rfl rfl (he207.want rfl rfl rfl rfl rfl) (rn_mv rfl (he207.op rfl) w200) ?_
              intro a208 he208
              clear he207 a207
              refine lSkip he208 rfl rfl (he208.wantNot rfl rfl rfl rfl rfl rfl) ?_
              intro a209 he209
              clear he208 a208
              refine lSkip he209 rfl rfl (he209.wantNot rfl rfl rfl rfl rfl rfl) ?_
              intro a210 he210
              clear he209 a209
              refine lSkip he210 rfl rfl (he210.wantNot rfl rfl rfl rfl rfl rfl) ?_
              intro a211 he211
              clear he210 a210
              refine lSkip he211 rfl rfl (he211.wantNot rfl rfl rfl rfl rfl rfl) ?_
              intro a212 he212
              clear he211 a211
              refine lSkip he212 rfl rfl (he212.wantNot rfl rfl rfl rfl rfl rfl) ?_
              intro a213 he213
              clear he212 a212
              refine lV (Value.bool false) he213 rfl rfl (he213.want rfl rfl rfl rfl rfl) (rn_pk0 rfl (he213.op rfl) (he213.op rfl) w200) ?_
              intro a214 he214
              clear he213 a213
              refine lV (Value.bool false) he214 rfl rfl (wanted_plain rfl _) (rn_pk0 rfl (he214.op rfl) (he214.op rfl) w200) ?_
              intro a215 he215
              clear he214 a214
              refine wpList_nil ?_
              refine then_ok ?_
              refine wp_cond_false (he215.op rfl) ?_
              refine wp_skip ?_
              refine then_ok ?_
              exact ⟨he215.mem ⟨rfl, rfl, trivial⟩, hH200, (by rw [f1]; exact hx), hy, hz⟩
            · skip
              have ea0 : packE la = 0 := by simpa using hea
              obtain ⟨f1, f2, f3, f4, f5⟩ := pack_facts ea0 pa
              have u1 : (decide (cellsO (packL la) = la) && (cellsE (packL la) == 0)) = true := by simp [cellsO, cellsE, f2, f4]
              rw [f1] at hx he98 k1
              have eb0 : packE lb = 0 := by simpa using heb
              obtain ⟨q1, q2, q3, q4, q5⟩ := pack_facts eb0 pb
              have ez0 : packE (la ++ lb) = 0 := by simpa using hez
              have hjp := join_packs ea0 eb0 pa pb (by omega)
              have z1 := packO_eq ez0
              have v1 : (decide (joinO (packL la) (packL lb) = packO (la ++ lb)) && (joinE (packL la) (packL lb) == 0)) = true := by simp [hjp.1, hjp.2, z1]
              rw [q1] at hy he98 k2
              refine wp_seq ?_
              refine wp_region_lit ?_
              refine lV (Value.int .i64 (packE la)) he98 rfl rfl (wanted_plain rfl _) (rn_mv rfl (he98.op rfl) w98) ?_
              intro a216 he216
              clear he98 a98
              refine lV (Value.bool true) he216 rfl rfl (wanted_plain rfl _) (rn_eqE rfl (he216.op rfl) (he216.op rfl) hea w98) ?_
              intro a217 he217
              clear he216 a216
              refine lV (Value.bool true) he217 rfl rfl (wanted_plain rfl _) (rn_mv rfl (he217.op rfl) w98) ?_
              intro a218 he218
              clear he217 a217
              refine lV (Value.slice Ax (packL la).length cx) he218 rfl rfl (he218.want rfl rfl rfl rfl rfl) (rn_mv rfl (he218.op rfl) w98) ?_
              intro a219 he219
              clear he218 a218
              refine lC he219 rfl rfl Tryd.func20 (by kernel_rfl) rfl rfl (he219.want rfl rfl rfl rfl rfl) rfl (f2 ▸ ValidR_any (packL la) _ bx cx Ax w98 hx (runs_ok f2) (by omega) (hT.new hH98.new)) ?_
              intro w220 a221 hn he221
              have hH220 := hH98.call hn
              replace hx := hx.new hn
              replace hy := hy.new hn
              replace hz := hz.new hn
              clear he219 a219 hH98 hn
              refine lV (Value.bool false) he221 rfl rfl (he221.want rfl rfl rfl rfl rfl) (rn_not (b := true) rfl (he221.op rfl) w220) ?_
              intro a222 he222
              clear he221 a221
              refine lV (Value.bool false) he222 rfl rfl (he222.want rfl rfl rfl rfl rfl) (rn_mv rfl (he222.op rfl) w220) ?_
              intro a223 he223
              clear he222 a222
              refine lV (Value.slice Ax (packL la).length cx) he223 rfl rfl (he223.want rfl rfl rfl rfl rfl) (rn_mv rfl (he223.op rfl) w220) ?_
              intro a224 he224
              clear he223 a223
              refine lC he224 rfl rfl Tryd.func21 (by kernel_rfl) rfl rfl (he224.want rfl rfl rfl rfl rfl) rfl ((by have h := CountR_any (packL la) _ bx cx Ax w220 hx (runs_ok f2) (by omega) (hT.new hH220.new); rw [f3, l1] at h; exact h)) ?_
              intro w225 a226 hn he226
              have hH225 := hH220.call hn
              replace hx := hx.new hn
              replace hy := hy.new hn
              replace hz := hz.new hn
              clear he224 a224 hH220 hn
              refine lV (Value.slice A n ca) he226 rfl rfl (he226.want rfl rfl rfl rfl rfl) (rn_mv rfl (he226.op rfl) w225) ?_
              intro a227 he227
              clear he226 a226
              refine lV (Value.int .i64 (n : Nat)) he227 rfl rfl (he227.want rfl rfl rfl rfl rfl) (rn_lenC rfl (he227.op rfl) w225) ?_
              intro a228 he228
              clear he227 a227
              refine lV (Value.bool false) he228 rfl rfl (he228.want rfl rfl rfl rfl rfl) (rn_neI rfl (he228.op rfl) (he228.op rfl) (by simp) w225) ?_
              intro a229 he229
              clear he228 a228
              refine lV (Value.bool false) he229 rfl rfl (he229.want rfl rfl rfl rfl rfl) (rn_pk0 rfl (he229.op rfl) (he229.op rfl) w225) ?_
              intro a230 he230
              clear he229 a229
              refine lV (Value.bool false) he230 rfl rfl (he230.want rfl rfl rfl rfl rfl) (rn_mv rfl (he230.op rfl) w225) ?_
              intro a231 he231
              clear he230 a230
              refine lV (Value.slice Ax (packL la).length cx) he231 rfl rfl (he231.want rfl rfl rfl rfl rfl) (rn_mv rfl (he231.op rfl) w225) ?_
              intro a232 he232
              clear he231 a231
              refine lV (Value.int .i64 ((packL la).length : Nat)) he232 rfl rfl (he232.want rfl rfl rfl rfl rfl) (rn_lenR rfl (he232.op rfl) w225) ?_
              intro a233 he233
              clear he232 a232
              refine lV (Value.slice A n ca) he233 rfl rfl (he233.want rfl rfl rfl rfl rfl) (rn_mv rfl (he233.op rfl) w225) ?_
              intro a234 he234
              clear he233 a233
              refine lV (Value.int .i64 (n : Nat)) he234 rfl rfl (he234.want rfl rfl rfl rfl rfl) (rn_lenC rfl (he234.op rfl) w225) ?_
              intro a235 he235
              clear he234 a234
              refine lV (Value.bool false) he235 rfl rfl (he235.want rfl rfl rfl rfl rfl) (rn_gtr rfl (he235.op rfl) (he235.op rfl) (decide_eq_false (by omega)) w225) ?_
              intro a236 he236
              clear he235 a235
              refine lV (Value.bool false) he236 rfl rfl (he236.want rfl rfl rfl rfl rfl) (rn_pk0 rfl (he236.op rfl) (he236.op rfl) w225) ?_
              intro a237 he237
              clear he236 a236
              refine lV (Value.bool false) he237 rfl rfl (he237.want rfl rfl rfl rfl rfl) (rn_mv rfl (he237.op rfl) w225) ?_
              intro a238 he238
              clear he237 a237
              refine lV (Value.slice Ax (packL la).length cx) he238 rfl rfl (he238.want rfl rfl rfl rfl rfl) (rn_mv rfl (he238.op rfl) w225) ?_
              intro a239 he239
              clear he238 a238
              refine lV (Value.slice A n ca) he239 rfl rfl (he239.want rfl rfl rfl rfl rfl) (rn_mv rfl (he239.op rfl) w225) ?_
              intro a240 he240
              clear he239 a239
              refine lC he240 rfl rfl Tryd.func22 (by kernel_rfl) rfl rfl (he240.want rfl rfl rfl rfl rfl) rfl (unpacks_b (packL la) _ bx cx Ax 0 la n ba ca A true u1 w225 hx (runs_ok f2) (by omega) (ha.new hH225.new) (by omega) (hT.new hH225.new)) ?_
              intro w241 a242 hn he242
              have hH241 := hH225.call hn
              replace hx := hx.new hn
              replace hy := hy.new hn
              replace hz := hz.new hn
              clear he240 a240 hH225 hn
              refine lV (Value.bool false) he242 rfl rfl (he242.want rfl rfl rfl rfl rfl) (rn_not (b := true) rfl (he242.op rfl) w241) ?_
              intro a243 he243
              clear he242 a242
              refine lV (Value.bool false) he243 rfl rfl (he243.want rfl rfl rfl rfl rfl) (rn_pk0 rfl (he243.op rfl) (he243.op rfl) w241) ?_
              intro a244 he244
              clear he243 a243
              refine lV (Value.bool false) he244 rfl rfl (wanted_plain rfl _) (rn_pk rfl (he244.op rfl) (he244.op rfl) w241) ?_
              intro a245 he245
              clear he244 a244
              refine lV (Value.bool false) he245 rfl rfl (wanted_plain rfl _) (rn_mv rfl (he245.op rfl) w241) ?_
              intro a246 he246
              clear he245 a245
              refine lV (Value.int .i64 (packE (la ++ lb))) he246 rfl rfl (he246.want rfl rfl rfl rfl rfl) (rn_mv rfl (he246.op rfl) w241) ?_
              intro a247 he247
              clear he246 a246
              refine lV (Value.bool true) he247 rfl rfl (he247.want rfl rfl rfl rfl rfl) (rn_eqE rfl (he247.op rfl) (he247.op rfl) hez w241) ?_
              intro a248 he248
              clear he247 a247
              refine lV (Value.bool true) he248 rfl rfl (he248.want rfl rfl rfl rfl rfl) (rn_mv rfl (he248.op rfl) w241) ?_
              intro a249 he249
              clear he248 a248
              refine lV (Value.slice Ax (packL la).length cx) he249 rfl rfl (he249.want rfl rfl rfl rfl rfl) (rn_mv rfl (he249.op rfl) w241) ?_
              intro a250 he250
              clear he249 a249
              refine lV (Value.slice Ay (packL lb).length cy) he250 rfl rfl (he250.want rfl rfl rfl rfl rfl) (rn_mv rfl (he250.op rfl) w241) ?_
              intro a251 he251
              clear he250 a250
              refine lV (Value.slice Az (packO (la ++ lb)).length cz) he251 rfl rfl (he251.want rfl rfl rfl rfl rfl) (rn_mv rfl (he251.op rfl) w241) ?_
              intro a252 he252
              clear he251 a251
              refine lC he252 rfl rfl Tryd.func23 (by kernel_rfl) rfl rfl (he252.want rfl rfl rfl rfl rfl) rfl (joins_b (packL la) (packL lb) _ _ bx cx by1 cy Ax Ay 0 (packO (la ++ lb)) _ bz cz Az true v1 w241 hx hy (runs_ok f2) (runs_ok q2) (by omega) (by omega) hz (by omega) (hT.new hH241.new)) ?_
              intro w253 a254 hn he254
              have hH253 := hH241.call hn
              replace hx := hx.new hn
              replace hy := hy.new hn
              replace hz := hz.new hn
              clear he252 a252 hH241 hn
              refine lV (Value.bool false) he254 rfl rfl (he254.want rfl rfl rfl rfl rfl) (rn_not (b := true) rfl (he254.op rfl) w253) ?_
              intro a255 he255
              clear he254 a254
              refine lV (Value.bool false) he255 rfl rfl (he255.want rfl rfl rfl rfl rfl) (rn_pk rfl (he255.op rfl) (he255.op rfl) w253) ?_
              intro a256 he256
              clear he255 a255
              refine lV (Value.bool false) he256 rfl rfl (wanted_plain rfl _) (rn_pk0 rfl (he256.op rfl) (he256.op rfl) w253) ?_
              intro a257 he257
              clear he256 a256
              refine wpList_nil ?_
              refine then_ok ?_
              refine wp_cond_false (he257.op rfl) ?_
              refine wp_skip ?_
              refine then_ok ?_
              exact ⟨he257.mem ⟨rfl, rfl, trivial⟩, hH253, (by rw [f1]; exact hx), (by rw [q1]; exact hy), hz⟩
          · skip
            clear hx hy hz
            rintro a258 w258 ⟨he258, hH258, hx, hy, hz⟩
            clear he98 hH98
            clear hx hy hz k1 k2 k3 hez hea heb pab
            as_aux_lemma =>
              refine wp_seq ?_
              refine wp_seq ?_
              refine wp_region_lit ?_
              refine lV (Value.slice A n ca) he258 rfl rfl (wanted_plain rfl _) (rn_mv rfl (he258.op rfl) w258) ?_
              intro a259 he259
              clear he258 a258
              refine lV (Value.int .i64 (n : Nat)) he259 rfl rfl (wanted_plain rfl _) (rn_lenC rfl (he259.op rfl) w258) ?_
              intro a260 he260
              clear he259 a259
              refine lV (Value.int .i64 0) he260 rfl rfl (wanted_plain rfl _) (rn_mv rfl (he260.op rfl) w258) ?_
              intro a261 he261
              clear he260 a260
              refine wpList_nil ?_
              refine then_ok ?_
              refine wp_block ?_
              refine loop_nat (fun q a w' => ∃ (i : Nat), q = n - i ∧ i ≤ n ∧ Env 141 [(0, Value.slice A n ca), (1, Value.slice B m cb), (91, Value.slice A n ca), (92, Value.int .i64 (n : Nat)), (93, Value.int .i64 (i : Int))] a ∧ Hp w [] w') n ⟨0, by omega, by omega, he261.mem ⟨rfl, rfl, rfl, rfl, rfl, trivial⟩, hH258⟩ ?_
              clear he261 hH258
              rintro q a262 w262 ⟨i, rfl, hi, he262, hH262⟩
              as_aux_lemma =>
                by_cases hin : i < n
                · skip
                  refine wp_seq ?_
                  refine wp_region_lit ?_
                  refine lV (Value.bool true) he262 rfl rfl (wanted_plain rfl _) (rn_lss rfl (he262.op rfl) (he262.op rfl) (decide_eq_true (by omega)) w262) ?_
                  intro a263 he263
                  clear he262 a262
                  refine wpList_nil ?_
                  refine then_ok ?_
                  refine wp_seq ?_
                  refine wp_cond_true (he263.op rfl) ?_
                  refine wp_skip ?_
                  refine then_ok ?_
                  obtain ⟨oa, rfl⟩ := ha.base (by omega)
                  obtain ⟨c, hc⟩ : ∃ c, la[i]? = some c := ⟨_, List.getElem?_eq_getElem (by have := ha.1; omega)⟩
                  refine wp_seq ?_
                  refine wp_block ?_
                  refine wp_seq ?_
                  refine wp_region_lit ?_
                  refine lV (Value.int .i64 (i : Int)) he263 rfl rfl (wanted_plain rfl _) (rn_mv rfl (he263.op rfl) w262) ?_
                  intro a264 he264
                  clear he263 a263
                  refine lV (Value.int .i64 (i : Int)) he264 rfl rfl (wanted_plain rfl _) (rn_asg rfl (he264.op rfl) w262) ?_
                  intro a265 he265
                  clear he264 a264
                  refine wpList_nil ?_
                  refine then_ok ?_
                  refine wp_seq ?_
                  refine wp_region_lit ?_
                  refine lV (Value.slice B m cb) he265 rfl rfl (wanted_plain rfl _) (rn_mv rfl (he265.op rfl) w262) ?_
                  intro a266 he266
                  clear he265 a265
                  refine lV (Value.int .i64 (m : Nat)) he266 rfl rfl (wanted_plain rfl _) (rn_lenC rfl (he266.op rfl) w262) ?_
                  intro a267 he267
                  clear he266 a266
                  refine lV (Value.int .i64 0) he267 rfl rfl (wanted_plain rfl _) (rn_mv rfl (he267.op rfl) w262) ?_
                  intro a268 he268
                  clear he267 a267
                  refine wpList_nil ?_
                  refine then_ok ?_
                  refine wp_block ?_
                  refine loop_nat (fun q a w' => ∃ (k : Nat), q = m - k ∧ k ≤ m ∧ Env 141 [(0, Value.slice (some ⟨ba, oa, none⟩) n ca), (1, Value.slice B m cb), (11, Value.int .i64 (i : Int)), (91, Value.slice (some ⟨ba, oa, none⟩) n ca), (92, Value.int .i64 (n : Nat)), (93, Value.int .i64 (i : Int)), (96, Value.slice B m cb), (97, Value.int .i64 (m : Nat)), (98, Value.int .i64 (k : Int))] a ∧ Hp w [] w') m ⟨0, by omega, by omega, he268.mem ⟨rfl, rfl, rfl, rfl, rfl, rfl, rfl, rfl, rfl, trivial⟩, hH262⟩ ?_
                  clear he268 hH262
                  rintro q a269 w269 ⟨k, rfl, hk, he269, hH269⟩
                  as_aux_lemma =>
                    by_cases hkm : k < m
                    · skip
                      refine wp_seq ?_
                      refine wp_region_lit ?_
                      refine lV (Value.bool true) he269 rfl rfl (wanted_plain rfl _) (rn_lss rfl (he269.op rfl) (he269.op rfl) (decide_eq_true (by omega)) w269) ?_
                      intro a270 he270
                      clear he269 a269
                      refine wpList_nil ?_
                      refine then_ok ?_
                      refine wp_seq ?_
                      refine wp_cond_true (he270.op rfl) ?_
                      refine wp_skip ?_
                      refine then_ok ?_
                      obtain ⟨ob, rfl⟩ := hb.base (by omega)
                      obtain ⟨d, hd⟩ : ∃ c, lb[k]? = some c := ⟨_, List.getElem?_eq_getElem (by have := hb.1; omega)⟩
                      have pc := pa c (List.mem_of_getElem? hc)
                      have pd := pb d (List.mem_of_getElem? hd)
                      refine wp_seq ?_
                      refine wp_block ?_
                      refine wp_seq ?_
                      refine wp_region_lit ?_
                      refine lV (Value.int .i64 (k : Int)) he270 rfl rfl (wanted_plain rfl _) (rn_mv rfl (he270.op rfl) w269) ?_
                      intro a271 he271
                      clear he270 a270
                      refine lV (Value.int .i64 (k : Int)) he271 rfl rfl (wanted_plain rfl _) (rn_asg rfl (he271.op rfl) w269) ?_
                      intro a272 he272
                      clear he271 a271
                      refine wpList_nil ?_
                      refine then_ok ?_
                      refine wp_seq ?_
                      refine wp_region_lit ?_
                      refine lV (Value.slice (some ⟨ba, oa, none⟩) n ca) he272 rfl rfl (wanted_plain rfl _) (rn_mv rfl (he272.op rfl) w269) ?_
                      intro a273 he273
                      clear he272 a272
                      refine lV (Value.int .i64 (i : Int)) he273 rfl rfl (wanted_plain rfl _) (rn_mv rfl (he273.op rfl) w269) ?_
                      intro a274 he274
                      clear he273 a273
                      refine lV (Value.pointer (some ⟨ba, oa + i * 16, none⟩)) he274 rfl rfl (wanted_plain rfl _) (rn_idx (i := i) rfl (he274.op rfl) (he274.op rfl) hin (by rw [addr_add]) w269) ?_
                      intro a275 he275
                      clear he274 a274
                      refine lV (Ce.v c) he275 rfl rfl (wanted_plain rfl _) (rn_loadM (i := i) rfl (he275.op rfl) (ha.new hH269.new) hin rfl hc) ?_
                      intro a276 he276
                      clear he275 a275
                      refine lC he276 rfl rfl Tryd.func26 (by kernel_rfl) rfl rfl (wanted_plain rfl _) rfl (Words_all c pc w269 (hT.new hH269.new)) ?_
                      intro w277 a278 hn he278
                      have hH277 := hH269.call hn
                      clear he276 a276 hH269 hn
                      refine lV (Value.tuple #[Wd.v (wordsO c), Value.int .i64 (wordsE c)]) he278 rfl rfl (wanted_plain rfl _) (rn_mv rfl (he278.op rfl) w277) ?_
                      intro a279 he279
                      clear he278 a278
                      refine lV (Wd.v (wordsO c)) he279 rfl rfl (wanted_plain rfl _) (rn_ext rfl (he279.op rfl) rfl w277) ?_
                      intro a280 he280
                      clear he279 a279
                      refine lV (Value.int .i64 (wordsE c)) he280 rfl rfl (wanted_plain rfl _) (rn_ext rfl (he280.op rfl) rfl w277) ?_
                      intro a281 he281
                      clear he280 a280
                      refine lNew (fun p => .pointer (some ⟨p, 0, none⟩)) he281 hH277 rfl rfl (wanted_plain rfl _) (rn_allocW rfl w277) ?_
                      intro p282 w282 a283 hn hH282 he283
                      clear he281 a281 hH277 hn
                      refine lSetV 0 (Wd.cs (wordsO c)) (cs := (Wd.cs (wordsO c))) he283 hH282 rfl (wanted_plain rfl _) rfl rfl rfl rfl rfl (by kernel_rfl) (by kernel_rfl) (by kernel_rfl) rfl ?_
                      intro w284 a285 hH284 he285
                      replace hH284 : Hp w [⟨p282, 34, (Wd.cs (wordsO c))⟩] w284 := hH284
                      clear he283 a283 hH282
                      refine lV (Value.int .i64 (wordsE c)) he285 rfl rfl (wanted_plain rfl _) (rn_asg rfl (he285.op rfl) w284) ?_
                      intro a286 he286
                      clear he285 a285
                      refine wpList_nil ?_
                      refine then_ok ?_
                      refine wp_seq ?_
                      refine wp_region_lit ?_
                      refine lV (Value.slice (some ⟨bb, ob, none⟩) m cb) he286 rfl rfl (wanted_plain rfl _) (rn_mv rfl (he286.op rfl) w284) ?_
                      intro a287 he287
                      clear he286 a286
                      refine lV (Value.int .i64 (k : Int)) he287 rfl rfl (wanted_plain rfl _) (rn_mv rfl (he287.op rfl) w284) ?_
                      intro a288 he288
                      clear he287 a287
                      refine lV (Value.pointer (some ⟨bb, ob + k * 16, none⟩)) he288 rfl rfl (wanted_plain rfl _) (rn_idx (i := k) rfl (he288.op rfl) (he288.op rfl) hkm (by rw [addr_add]) w284) ?_
                      intro a289 he289
                      clear he288 a288
                      refine lV (Ce.v d) he289 rfl rfl (wanted_plain rfl _) (rn_loadM (i := k) rfl (he289.op rfl) (hb.new hH284.new) hkm rfl hd) ?_
                      intro a290 he290
                      clear he289 a289
                      refine lC he290 rfl rfl Tryd.func26 (by kernel_rfl) rfl rfl (wanted_plain rfl _) rfl (Words_all d pd w284 (hT.new hH284.new)) ?_
                      intro w291 a292 hn he292
                      have hH291 := hH284.call hn
                      clear he290 a290 hH284 hn
                      refine lV (Value.tuple #[Wd.v (wordsO d), Value.int .i64 (wordsE d)]) he292 rfl rfl (wanted_plain rfl _) (rn_mv rfl (he292.op rfl) w291) ?_
                      intro a293 he293
                      clear he292 a292
                      refine lV (Wd.v (wordsO d)) he293 rfl rfl (wanted_plain rfl _) (rn_ext rfl (he293.op rfl) rfl w291) ?_
                      intro a294 he294
                      clear he293 a293
                      refine lV (Value.int .i64 (wordsE d)) he294 rfl rfl (wanted_plain rfl _) (rn_ext rfl (he294.op rfl) rfl w291) ?_
                      intro a295 he295
                      clear he294 a294
                      refine lNew (fun p => .pointer (some ⟨p, 0, none⟩)) he295 hH291 rfl rfl (wanted_plain rfl _) (rn_allocW rfl w291) ?_
                      intro p296 w296 a297 hn hH296 he297
                      clear he295 a295 hH291 hn
                      refine lSetV 0 (Wd.cs (wordsO d)) (cs := (Wd.cs (wordsO d))) he297 hH296 rfl (wanted_plain rfl _) rfl rfl rfl rfl rfl (by kernel_rfl) (by kernel_rfl) (by kernel_rfl) rfl ?_
                      intro w298 a299 hH298 he299
                      replace hH298 : Hp w [⟨p296, 34, (Wd.cs (wordsO d))⟩, ⟨p282, 34, (Wd.cs (wordsO c))⟩] w298 := hH298
                      clear he297 a297 hH296
                      refine lV (Value.int .i64 (wordsE d)) he299 rfl rfl (wanted_plain rfl _) (rn_asg rfl (he299.op rfl) w298) ?_
                      intro a300 he300
                      clear he299 a299
                      refine wpList_nil ?_
                      refine then_ok ?_
                      have he301 : Env 141 [(16, Value.int .i64 (wordsE d)), (15, Value.pointer (some ⟨p296, 0, none⟩)), (14, Value.int .i64 (wordsE c)), (13, Value.pointer (some ⟨p282, 0, none⟩)), (12, Value.int .i64 (k : Int)), (0, Value.slice (some ⟨ba, oa, none⟩) n ca), (1, Value.slice (some ⟨bb, ob, none⟩) m cb), (11, Value.int .i64 (i : Int)), (91, Value.slice (some ⟨ba, oa, none⟩) n ca), (92, Value.int .i64 (n : Nat)), (93, Value.int .i64 (i : Int)), (96, Value.slice (some ⟨bb, ob, none⟩) m cb), (97, Value.int .i64 (m : Nat)), (98, Value.int .i64 (k : Int))] a300 := he300.mem ⟨rfl, rfl, rfl, rfl, rfl, rfl, rfl, rfl, rfl, rfl, rfl, rfl, rfl, rfl, trivial⟩
                      clear he300
                      as_aux_lemma =>
                        obtain ⟨vc, hvc⟩ : ∃ vc, cellB c = vc := ⟨_, rfl⟩
                        obtain ⟨vd, hvd⟩ : ∃ vd, cellB d = vd := ⟨_, rfl⟩
                        have wc : (wordsE c == 0) = vc := by rw [wordsE, hvc]; cases vc <;> rfl
                        have wd : (wordsE d == 0) = vd := by rw [wordsE, hvd]; cases vd <;> rfl
                        obtain ⟨q, hq⟩ : ∃ q, decide (c = d) = q := ⟨_, rfl⟩
                        cases vc <;> cases vd
                        · skip
                          refine wp_seq ?_
                          refine wp_region_held_drew (S := Hp w [⟨p296, 34, (Wd.cs (wordsO d))⟩, ⟨p282, 34, (Wd.cs (wordsO c))⟩]) (by kernel_rfl) (hH298.drew) (fun _ => ?_)
                          have hn : New w298 (World.drew w298) := (Fr.refl _ _).drew
                          clear hn
                          have hH302 := hH298.drew
                          clear hH298
                          generalize World.drew w298 = w302 at *
                          refine hV (fuel := 20) (i := 0) (Value.int .i64 (wordsE c)) he301 rfl rfl rfl (by kernel_rfl) (by kernel_rfl) (by kernel_rfl) (fun _ _ _ h => h) (wanted_plain rfl _) (fun w' _ => rn_mv rfl (he301.op rfl) w') hH302 ?_
                          intro a303 he303
                          clear he301 a300
                          refine hV (fuel := 19) (i := 1) (Value.bool false) he303 rfl rfl rfl (by kernel_rfl) (by kernel_rfl) (by kernel_rfl) (fun _ _ _ h => h) (wanted_plain rfl _) (fun w' _ => rn_eqE rfl (he303.op rfl) (he303.op rfl) wc w') hH302 ?_
                          intro a304 he304
                          clear he303 a303
                          refine hV (fuel := 18) (i := 2) (Value.bool false) he304 rfl rfl rfl (by kernel_rfl) (by kernel_rfl) (by kernel_rfl) (fun _ _ _ h => h) (wanted_plain rfl _) (fun w' _ => rn_mv rfl (he304.op rfl) w') hH302 ?_
                          intro a305 he305
                          clear he304 a304
                          refine hSkip (fuel := 17) (i := 3) he305 rfl rfl rfl (by kernel_rfl) (by kernel_rfl) (by kernel_rfl) (fun _ _ _ h => h) (he305.wantNot rfl rfl rfl rfl rfl rfl) hH302 ?_
                          intro a306 he306
                          clear he305 a305
                          refine hSkip (fuel := 16) (i := 4) he306 rfl rfl rfl (by kernel_rfl) (by kernel_rfl) (by kernel_rfl) (fun _ _ _ h => h) (he306.wantNot rfl rfl rfl rfl rfl rfl) hH302 ?_
                          intro a307 he307
                          clear he306 a306
                          refine hV (fuel := 15) (i := 5) (Value.bool false) he307 rfl rfl rfl (by kernel_rfl) (by kernel_rfl) (by kernel_rfl) (fun _ _ _ h => h) (wanted_plain rfl _) (fun w' _ => rn_pk0 rfl (he307.op rfl) (he307.op rfl) w') hH302 ?_
                          intro a308 he308
                          clear he307 a307
                          refine hV (fuel := 14) (i := 6) (Value.bool false) he308 rfl rfl rfl (by kernel_rfl) (by kernel_rfl) (by kernel_rfl) (fun _ _ _ h => h) (wanted_plain rfl _) (fun w' _ => rn_mv rfl (he308.op rfl) w') hH302 ?_
                          intro a309 he309
                          clear he308 a308
                          refine hSkip (fuel := 13) (i := 7) he309 rfl rfl rfl (by kernel_rfl) (by kernel_rfl) (by kernel_rfl) (fun _ _ _ h => h) (he309.wantNot rfl rfl rfl rfl rfl rfl) hH302 ?_
                          intro a310 he310
                          clear he309 a309
                          refine hSkip (fuel := 12) (i := 8) he310 rfl rfl rfl (by kernel_rfl) (by kernel_rfl) (by kernel_rfl) (fun _ _ _ h => h) (he310.wantNot rfl rfl rfl rfl rfl rfl) hH302 ?_
                          intro a311 he311
                          clear he310 a310
                          refine hSkip (fuel := 11) (i := 9) he311 rfl rfl rfl (by kernel_rfl) (by kernel_rfl) (by kernel_rfl) (fun _ _ _ h => h) (he311.wantNot rfl rfl rfl rfl rfl rfl) hH302 ?_
                          intro a312 he312
                          clear he311 a311
                          refine hSkip (fuel := 10) (i := 10) he312 rfl rfl rfl (by kernel_rfl) (by kernel_rfl) (by kernel_rfl) (fun _ _ _ h => h) (he312.wantNot rfl rfl rfl rfl rfl rfl) hH302 ?_
                          intro a313 he313
                          clear he312 a312
                          refine hSkip (fuel := 9) (i := 11) he313 rfl rfl rfl (by kernel_rfl) (by kernel_rfl) (by kernel_rfl) (fun _ _ _ h => h) (he313.wantNot rfl rfl rfl rfl rfl rfl) hH302 ?_
                          intro a314 he314
                          clear he313 a313
                          refine hSkip (fuel := 8) (i := 12) he314 rfl rfl rfl (by kernel_rfl) (by kernel_rfl) (by kernel_rfl) (fun _ _ _ h => h) (he314.wantNot rfl rfl rfl rfl rfl rfl) hH302 ?_
                          intro a315 he315
                          clear he314 a314
                          refine hSkip (fuel := 7) (i := 13) he315 rfl rfl rfl (by kernel_rfl) (by kernel_rfl) (by kernel_rfl) (fun _ _ _ h => h) (he315.wantNot rfl rfl rfl rfl rfl rfl) hH302 ?_
                          intro a316 he316
                          clear he315 a315
                          refine hSkip (fuel := 6) (i := 14) he316 rfl rfl rfl (by kernel_rfl) (by kernel_rfl) (by kernel_rfl) (fun _ _ _ h => h) (he316.wantNot rfl rfl rfl rfl rfl rfl) hH302 ?_
                          intro a317 he317
                          clear he316 a316
                          refine hSkip (fuel := 5) (i := 15) he317 rfl rfl rfl (by kernel_rfl) (by kernel_rfl) (by kernel_rfl) (fun _ _ _ h => h) (he317.wantNot rfl rfl rfl rfl rfl rfl) hH302 ?_
                          intro a318 he318
                          clear he317 a317
                          refine hSkip (fuel := 4) (i := 16) he318 rfl rfl rfl (by kernel_rfl) (by kernel_rfl) (by kernel_rfl) (fun _ _ _ h => h) (he318.wantNot rfl rfl rfl rfl rfl rfl) hH302 ?_
                          intro a319 he319
                          clear he318 a318
                          refine hSkip (fuel := 3) (i := 17) he319 rfl rfl rfl (by kernel_rfl) (by kernel_rfl) (by kernel_rfl) (fun _ _ _ h => h) (he319.wantNot rfl rfl rfl rfl rfl rfl) hH302 ?_
                          intro a320 he320
                          clear he319 a319
                          refine hSkip (fuel := 2) (i := 18) he320 rfl rfl rfl (by kernel_rfl) (by kernel_rfl) (by kernel_rfl) (fun _ _ _ h => h) (he320.wantNot rfl rfl rfl rfl rfl rfl) hH302 ?_
                          intro a321 he321
                          clear he320 a320
                          refine hSkip (fuel := 1) (i := 19) he321 rfl rfl rfl (by kernel_rfl) (by kernel_rfl) (by kernel_rfl) (fun _ _ _ h => h) (he321.wantNot rfl rfl rfl rfl rfl rfl) hH302 ?_
                          intro a322 he322
                          clear he321 a321
                          refine hV (fuel := 0) (i := 20) (Value.bool false) he322 rfl rfl rfl (by kernel_rfl) (by kernel_rfl) (by kernel_rfl) (fun _ _ _ h => h) (wanted_plain rfl _) (fun w' _ => rn_pk0 rfl (he322.op rfl) (he322.op rfl) w') hH302 ?_
                          intro a323 he323
                          clear he322 a322
                          refine wpAnyH_done (by kernel_rfl) ?_ _
                          refine then_ok ?_
                          refine wp_cond_false (he323.op rfl) ?_
                          refine wp_skip ?_
                          refine block_ok ?_
                          refine then_ok ?_
                          refine wp_region_lit ?_
                          refine lV (Value.int .i64 ((k + 1 : Nat) : Int)) he323 rfl rfl (wanted_plain rfl _) (rn_add1 rfl (he323.op rfl) (he323.op rfl) (by rw [IntWalk.i64_in _ ⟨by omega, by omega⟩]; rfl) w302) ?_
                          intro a324 he324
                          clear he323 a323
                          refine lV (Value.int .i64 ((k + 1 : Nat) : Int)) he324 rfl rfl (wanted_plain rfl _) (rn_mv rfl (he324.op rfl) w302) ?_
                          intro a325 he325
                          clear he324 a324
                          refine wpList_nil ?_
                          refine then_ok ?_
                          have hH326 := hH302.tail rfl
                          clear hH302
                          have hH327 := hH326.tail rfl
                          clear hH326
                          exact ⟨m - (k + 1), by omega, k + 1, rfl, by omega, he325.mem ⟨rfl, rfl, rfl, rfl, rfl, rfl, rfl, rfl, rfl, trivial⟩, hH327⟩
                        · skip
                          refine wp_seq ?_
                          refine wp_region_held_drew (S := Hp w [⟨p296, 34, (Wd.cs (wordsO d))⟩, ⟨p282, 34, (Wd.cs (wordsO c))⟩]) (by kernel_rfl) (hH298.drew) (fun _ => ?_)
                          have hn : New w298 (World.drew w298) := (Fr.refl _ _).drew
                          clear hn
                          have hH328 := hH298.drew
                          clear hH298
                          generalize World.drew w298 = w328 at *
                          refine hV (fuel := 20) (i := 0) (Value.int .i64 (wordsE c)) he301 rfl rfl rfl (by kernel_rfl) (by kernel_rfl) (by kernel_rfl) (fun _ _ _ h => h) (wanted_plain rfl _) (fun w' _ => rn_mv rfl (he301.op rfl) w') hH328 ?_
                          intro a329 he329
                          clear he301 a300
                          refine hV (fuel := 19) (i := 1) (Value.bool false) he329 rfl rfl rfl (by kernel_rfl) (by kernel_rfl) (by kernel_rfl) (fun _ _ _ h => h) (wanted_plain rfl _) (fun w' _ => rn_eqE rfl (he329.op rfl) (he329.op rfl) wc w') hH328 ?_
                          intro a330 he330
                          clear he329 a329
                          refine hV (fuel := 18) (i := 2) (Value.bool false) he330 rfl rfl rfl (by kernel_rfl) (by kernel_rfl) (by kernel_rfl) (fun _ _ _ h => h) (wanted_plain rfl _) (fun w' _ => rn_mv rfl (he330.op rfl) w') hH328 ?_
                          intro a331 he331
                          clear he330 a330
                          refine hSkip (fuel := 17) (i := 3) he331 rfl rfl rfl (by kernel_rfl) (by kernel_rfl) (by kernel_rfl) (fun _ _ _ h => h) (he331.wantNot rfl rfl rfl rfl rfl rfl) hH328 ?_
                          intro a332 he332
                          clear he331 a331
                          refine hSkip (fuel := 16) (i := 4) he332 rfl rfl rfl (by kernel_rfl) (by kernel_rfl) (by kernel_rfl) (fun _ _ _ h => h) (he332.wantNot rfl rfl rfl rfl rfl rfl) hH328 ?_
                          intro a333 he333
                          clear he332 a332
                          refine hV (fuel := 15) (i := 5) (Value.bool false) he333 rfl rfl rfl (by kernel_rfl) (by kernel_rfl) (by kernel_rfl) (fun _ _ _ h => h) (wanted_plain rfl _) (fun w' _ => rn_pk0 rfl (he333.op rfl) (he333.op rfl) w') hH328 ?_
                          intro a334 he334
                          clear he333 a333
                          refine hV (fuel := 14) (i := 6) (Value.bool false) he334 rfl rfl rfl (by kernel_rfl) (by kernel_rfl) (by kernel_rfl) (fun _ _ _ h => h) (wanted_plain rfl _) (fun w' _ => rn_mv rfl (he334.op rfl) w') hH328 ?_
                          intro a335 he335
                          clear he334 a334
                          refine hSkip (fuel := 13) (i := 7) he335 rfl rfl rfl (by kernel_rfl) (by kernel_rfl) (by kernel_rfl) (fun _ _ _ h => h) (he335.wantNot rfl rfl rfl rfl rfl rfl) hH328 ?_
                          intro a336 he336
                          clear he335 a335
                          refine hSkip (fuel := 12) (i := 8) he336 rfl rfl rfl (by kernel_rfl) (by kernel_rfl) (by kernel_rfl) (fun _ _ _ h => h) (he336.wantNot rfl rfl rfl rfl rfl rfl) hH328 ?_
                          intro a337 he337
                          clear he336 a336
                          refine hSkip (fuel := 11) (i := 9) he337 rfl rfl rfl (by kernel_rfl) (by kernel_rfl) (by kernel_rfl) (fun _ _ _ h => h) (he337.wantNot rfl rfl rfl rfl rfl rfl) hH328 ?_
                          intro a338 he338
                          clear he337 a337
                          refine hSkip (fuel := 10) (i := 10) he338 rfl rfl rfl (by kernel_rfl) (by kernel_rfl) (by kernel_rfl) (fun _ _ _ h => h) (he338.wantNot rfl rfl rfl rfl rfl rfl) hH328 ?_
                          intro a339 he339
                          clear he338 a338
                          refine hSkip (fuel := 9) (i := 11) he339 rfl rfl rfl (by kernel_rfl) (by kernel_rfl) (by kernel_rfl) (fun _ _ _ h => h) (he339.wantNot rfl rfl rfl rfl rfl rfl) hH328 ?_
                          intro a340 he340
                          clear he339 a339
                          refine hSkip (fuel := 8) (i := 12) he340 rfl rfl rfl (by kernel_rfl) (by kernel_rfl) (by kernel_rfl) (fun _ _ _ h => h) (he340.wantNot rfl rfl rfl rfl rfl rfl) hH328 ?_
                          intro a341 he341
                          clear he340 a340
                          refine hSkip (fuel := 7) (i := 13) he341 rfl rfl rfl (by kernel_rfl) (by kernel_rfl) (by kernel_rfl) (fun _ _ _ h => h) (he341.wantNot rfl rfl rfl rfl rfl rfl) hH328 ?_
                          intro a342 he342
                          clear he341 a341
                          refine hSkip (fuel := 6) (i := 14) he342 rfl rfl rfl (by kernel_rfl) (by kernel_rfl) (by kernel_rfl) (fun _ _ _ h => h) (he342.wantNot rfl rfl rfl rfl rfl rfl) hH328 ?_
                          intro a343 he343
                          clear he342 a342
                          refine hSkip (fuel := 5) (i := 15) he343 rfl rfl rfl (by kernel_rfl) (by kernel_rfl) (by kernel_rfl) (fun _ _ _ h => h) (he343.wantNot rfl rfl rfl rfl rfl rfl) hH328 ?_
                          intro a344 he344
                          clear he343 a343
                          refine hSkip (fuel := 4) (i := 16) he344 rfl rfl rfl (by kernel_rfl) (by kernel_rfl) (by kernel_rfl) (fun _ _ _ h => h) (he344.wantNot rfl rfl rfl rfl rfl rfl) hH328 ?_
                          intro a345 he345
                          clear he344 a344
                          refine hSkip (fuel := 3) (i := 17) he345 rfl rfl rfl (by kernel_rfl) (by kernel_rfl) (by kernel_rfl) (fun _ _ _ h => h) (he345.wantNot rfl rfl rfl rfl rfl rfl) hH328 ?_
                          intro a346 he346
                          clear he345 a345
                          refine hSkip (fuel := 2) (i := 18) he346 rfl rfl rfl (by kernel_rfl) (by kernel_rfl) (by kernel_rfl) (fun _ _ _ h => h) (he346.wantNot rfl rfl rfl rfl rfl rfl) hH328 ?_
                          intro a347 he347
                          clear he346 a346
                          refine hSkip (fuel := 1) (i := 19) he347 rfl rfl rfl (by kernel_rfl) (by kernel_rfl) (by kernel_rfl) (fun _ _ _ h => h) (he347.wantNot rfl rfl rfl rfl rfl rfl) hH328 ?_
                          intro a348 he348
                          clear he347 a347
                          refine hV (fuel := 0) (i := 20) (Value.bool false) he348 rfl rfl rfl (by kernel_rfl) (by kernel_rfl) (by kernel_rfl) (fun _ _ _ h => h) (wanted_plain rfl _) (fun w' _ => rn_pk0 rfl (he348.op rfl) (he348.op rfl) w') hH328 ?_
                          intro a349 he349
                          clear he348 a348
                          refine wpAnyH_done (by kernel_rfl) ?_ _
                          refine then_ok ?_
                          refine wp_cond_false (he349.op rfl) ?_
                          refine wp_skip ?_
                          refine block_ok ?_
                          refine then_ok ?_
                          refine wp_region_lit ?_
                          refine lV (Value.int .i64 ((k + 1 : Nat) : Int)) he349 rfl rfl (wanted_plain rfl _) (rn_add1 rfl (he349.op rfl) (he349.op rfl) (by rw [IntWalk.i64_in _ ⟨by omega, by omega⟩]; rfl) w328) ?_
                          intro a350 he350
                          clear he349 a349
                          refine lV (Value.int .i64 ((k + 1 : Nat) : Int)) he350 rfl rfl (wanted_plain rfl _) (rn_mv rfl (he350.op rfl) w328) ?_
                          intro a351 he351
                          clear he350 a350
                          refine wpList_nil ?_
                          refine then_ok ?_
                          have hH352 := hH328.tail rfl
                          clear hH328
                          have hH353 := hH352.tail rfl
                          clear hH352
                          exact ⟨m - (k + 1), by omega, k + 1, rfl, by omega, he351.mem ⟨rfl, rfl, rfl, rfl, rfl, rfl, rfl, rfl, rfl, trivial⟩, hH353⟩
                        · skip
                          refine wp_seq ?_
                          refine wp_region_held_drew (S := Hp w [⟨p296, 34, (Wd.cs (wordsO d))⟩, ⟨p282, 34, (Wd.cs (wordsO c))⟩]) (by kernel_rfl) (hH298.drew) (fun _ => ?_)
                          have hn : New w298 (World.drew w298) := (Fr.refl _ _).drew
                          clear hn
                          have hH354 := hH298.drew
                          clear hH298
                          generalize World.drew w298 = w354 at *
                          refine hV (fuel := 20) (i := 0) (Value.int .i64 (wordsE c)) he301 rfl rfl rfl (by kernel_rfl) (by kernel_rfl) (by kernel_rfl) (fun _ _ _ h => h) (wanted_plain rfl _) (fun w' _ => rn_mv rfl (he301.op rfl) w') hH354 ?_
                          intro a355 he355
                          clear he301 a300
                          refine hV (fuel := 19) (i := 1) (Value.bool true) he355 rfl rfl rfl (by kernel_rfl) (by kernel_rfl) (by kernel_rfl) (fun _ _ _ h => h) (wanted_plain rfl _) (fun w' _ => rn_eqE rfl (he355.op rfl) (he355.op rfl) wc w') hH354 ?_
                          intro a356 he356
                          clear he355 a355
                          refine hV (fuel := 18) (i := 2) (Value.bool true) he356 rfl rfl rfl (by kernel_rfl) (by kernel_rfl) (by kernel_rfl) (fun _ _ _ h => h) (wanted_plain rfl _) (fun w' _ => rn_mv rfl (he356.op rfl) w') hH354 ?_
                          intro a357 he357
                          clear he356 a356
                          refine hV (fuel := 17) (i := 3) (Value.int .i64 (wordsE d)) he357 rfl rfl rfl (by kernel_rfl) (by kernel_rfl) (by kernel_rfl) (fun _ _ _ h => h) (he357.want rfl rfl rfl rfl rfl) (fun w' _ => rn_mv rfl (he357.op rfl) w') hH354 ?_
                          intro a358 he358
                          clear he357 a357
                          refine hV (fuel := 16) (i := 4) (Value.bool false) he358 rfl rfl rfl (by kernel_rfl) (by kernel_rfl) (by kernel_rfl) (fun _ _ _ h => h) (he358.want rfl rfl rfl rfl rfl) (fun w' _ => rn_eqE rfl (he358.op rfl) (he358.op rfl) wd w') hH354 ?_
                          intro a359 he359
                          clear he358 a358
                          refine hV (fuel := 15) (i := 5) (Value.bool false) he359 rfl rfl rfl (by kernel_rfl) (by kernel_rfl) (by kernel_rfl) (fun _ _ _ h => h) (wanted_plain rfl _) (fun w' _ => rn_pk rfl (he359.op rfl) (he359.op rfl) w') hH354 ?_
                          intro a360 he360
                          clear he359 a359
                          refine hV (fuel := 14) (i := 6) (Value.bool false) he360 rfl rfl rfl (by kernel_rfl) (by kernel_rfl) (by kernel_rfl) (fun _ _ _ h => h) (wanted_plain rfl _) (fun w' _ => rn_mv rfl (he360.op rfl) w') hH354 ?_
                          intro a361 he361
                          clear he360 a360
                          refine hSkip (fuel := 13) (i := 7) he361 rfl rfl rfl (by kernel_rfl) (by kernel_rfl) (by kernel_rfl) (fun _ _ _ h => h) (he361.wantNot rfl rfl rfl rfl rfl rfl) hH354 ?_
                          intro a362 he362
                          clear he361 a361
                          refine hSkip (fuel := 12) (i := 8) he362 rfl rfl rfl (by kernel_rfl) (by kernel_rfl) (by kernel_rfl) (fun _ _ _ h => h) (he362.wantNot rfl rfl rfl rfl rfl rfl) hH354 ?_
                          intro a363 he363
                          clear he362 a362
                          refine hSkip (fuel := 11) (i := 9) he363 rfl rfl rfl (by kernel_rfl) (by kernel_rfl) (by kernel_rfl) (fun _ _ _ h => h) (he363.wantNot rfl rfl rfl rfl rfl rfl) hH354 ?_
                          intro a364 he364
                          clear he363 a363
                          refine hSkip (fuel := 10) (i := 10) he364 rfl rfl rfl (by kernel_rfl) (by kernel_rfl) (by kernel_rfl) (fun _ _ _ h => h) (he364.wantNot rfl rfl rfl rfl rfl rfl) hH354 ?_
                          intro a365 he365
                          clear he364 a364
                          refine hSkip (fuel := 9) (i := 11) he365 rfl rfl rfl (by kernel_rfl) (by kernel_rfl) (by kernel_rfl) (fun _ _ _ h => h) (he365.wantNot rfl rfl rfl rfl rfl rfl) hH354 ?_
                          intro a366 he366
                          clear he365 a365
                          refine hSkip (fuel := 8) (i := 12) he366 rfl rfl rfl (by kernel_rfl) (by kernel_rfl) (by kernel_rfl) (fun _ _ _ h => h) (he366.wantNot rfl rfl rfl rfl rfl rfl) hH354 ?_
                          intro a367 he367
                          clear he366 a366
                          refine hSkip (fuel := 7) (i := 13) he367 rfl rfl rfl (by kernel_rfl) (by kernel_rfl) (by kernel_rfl) (fun _ _ _ h => h) (he367.wantNot rfl rfl rfl rfl rfl rfl) hH354 ?_
                          intro a368 he368
                          clear he367 a367
                          refine hSkip (fuel := 6) (i := 14) he368 rfl rfl rfl (by kernel_rfl) (by kernel_rfl) (by kernel_rfl) (fun _ _ _ h => h) (he368.wantNot rfl rfl rfl rfl rfl rfl) hH354 ?_
                          intro a369 he369
                          clear he368 a368
                          refine hSkip (fuel := 5) (i := 15) he369 rfl rfl rfl (by kernel_rfl) (by kernel_rfl) (by kernel_rfl) (fun _ _ _ h => h) (he369.wantNot rfl rfl rfl rfl rfl rfl) hH354 ?_
                          intro a370 he370
                          clear he369 a369
                          refine hSkip (fuel := 4) (i := 16) he370 rfl rfl rfl (by kernel_rfl) (by kernel_rfl) (by kernel_rfl) (fun _ _ _ h => h) (he370.wantNot rfl rfl rfl rfl rfl rfl) hH354 ?_
                          intro a371 he371
                          clear he370 a370
                          refine hSkip (fuel := 3) (i := 17) he371 rfl rfl rfl (by kernel_rfl) (by kernel_rfl) (by kernel_rfl) (fun _ _ _ h => h) (he371.wantNot rfl rfl rfl rfl rfl rfl) hH354 ?_
                          intro a372 he372
                          clear he371 a371
                          refine hSkip (fuel := 2) (i := 18) he372 rfl rfl rfl (by kernel_rfl) (by kernel_rfl) (by kernel_rfl) (fun _ _ _ h => h) (he372.wantNot rfl rfl rfl rfl rfl rfl) hH354 ?_
                          intro a373 he373
                          clear he372 a372
                          refine hSkip (fuel := 1) (i := 19) he373 rfl rfl rfl (by kernel_rfl) (by kernel_rfl) (by kernel_rfl) (fun _ _ _ h => h) (he373.wantNot rfl rfl rfl rfl rfl rfl) hH354 ?_
                          intro a374 he374
                          clear he373 a373
                          refine hV (fuel := 0) (i := 20) (Value.bool false) he374 rfl rfl rfl (by kernel_rfl) (by kernel_rfl) (by kernel_rfl) (fun _ _ _ h => h) (wanted_plain rfl _) (fun w' _ => rn_pk0 rfl (he374.op rfl) (he374.op rfl) w') hH354 ?_
                          intro a375 he375
                          clear he374 a374
                          refine wpAnyH_done (by kernel_rfl) ?_ _
                          refine then_ok ?_
                          refine wp_cond_false (he375.op rfl) ?_
                          refine wp_skip ?_
                          refine block_ok ?_
                          refine then_ok ?_
                          refine wp_region_lit ?_
                          refine lV (Value.int .i64 ((k + 1 : Nat) : Int)) he375 rfl rfl (wanted_plain rfl _) (rn_add1 rfl (he375.op rfl) (he375.op rfl) (by rw [IntWalk.i64_in _ ⟨by omega, by omega⟩]; rfl) w354) ?_
                          intro a376 he376
                          clear he375 a375
                          refine lV (Value.int .i64 ((k + 1 : Nat) : Int)) he376 rfl rfl (wanted_plain rfl _) (rn_mv rfl (he376.op rfl) w354) ?_
                          intro a377 he377
                          clear he376 a376
                          refine wpList_nil ?_
                          refine then_ok ?_
                          have hH378 := hH354.tail rfl
                          clear hH354
                          have hH379 := hH378.tail rfl
                          clear hH378
                          exact ⟨m - (k + 1), by omega, k + 1, rfl, by omega, he377.mem ⟨rfl, rfl, rfl, rfl, rfl, rfl, rfl, rfl, rfl, trivial⟩, hH379⟩
                        · skip
                          have hq2 : decide (wordsO c = wordsO d) = q := by rw [words_same hvc hvd pc pd, hq]
                          refine wp_seq ?_
                          refine wp_region_held_drew (S := Hp w [⟨p296, 34, (Wd.cs (wordsO d))⟩, ⟨p282, 34, (Wd.cs (wordsO c))⟩]) (by kernel_rfl) (hH298.drew) (fun _ => ?_)
                          have hn : New w298 (World.drew w298) := (Fr.refl _ _).drew
                          clear hn
                          have hH380 := hH298.drew
                          clear hH298
                          generalize World.drew w298 = w380 at *
                          refine hV (fuel := 20) (i := 0) (Value.int .i64 (wordsE c)) he301 rfl rfl rfl (by kernel_rfl) (by kernel_rfl) (by kernel_rfl) (fun _ _ _ h => h) (wanted_plain rfl _) (fun w' _ => rn_mv rfl (he301.op rfl) w') hH380 ?_
                          intro a381 he381
                          clear he301 a300
                          refine hV (fuel := 19) (i := 1) (Value.bool true) he381 rfl rfl rfl (by kernel_rfl) (by kernel_rfl) (by kernel_rfl) (fun _ _ _ h => h) (wanted_plain rfl _) (fun w' _ => rn_eqE rfl (he381.op rfl) (he381.op rfl) wc w') hH380 ?_
                          intro a382 he382
                          clear he381 a381
                          refine hV (fuel := 18) (i := 2) (Value.bool true) he382 rfl rfl rfl (by kernel_rfl) (by kernel_rfl) (by kernel_rfl) (fun _ _ _ h => h) (wanted_plain rfl _) (fun w' _ => rn_mv rfl (he382.op rfl) w') hH380 ?_
                          intro a383 he383
                          clear he382 a382
                          refine hV (fuel := 17) (i := 3) (Value.int .i64 (wordsE d)) he383 rfl rfl rfl (by kernel_rfl) (by kernel_rfl) (by kernel_rfl) (fun _ _ _ h => h) (he383.want rfl rfl rfl rfl rfl) (fun w' _ => rn_mv rfl (he383.op rfl) w') hH380 ?_
                          intro a384 he384
                          clear he383 a383
                          refine hV (fuel := 16) (i := 4) (Value.bool true) he384 rfl rfl rfl (by kernel_rfl) (by kernel_rfl) (by kernel_rfl) (fun _ _ _ h => h) (he384.want rfl rfl rfl rfl rfl) (fun w' _ => rn_eqE rfl (he384.op rfl) (he384.op rfl) wd w') hH380 ?_
                          intro a385 he385
                          clear he384 a384
                          refine hV (fuel := 15) (i := 5) (Value.bool true) he385 rfl rfl rfl (by kernel_rfl) (by kernel_rfl) (by kernel_rfl) (fun _ _ _ h => h) (wanted_plain rfl _) (fun w' _ => rn_pk rfl (he385.op rfl) (he385.op rfl) w') hH380 ?_
                          intro a386 he386
                          clear he385 a385
                          refine hV (fuel := 14) (i := 6) (Value.bool true) he386 rfl rfl rfl (by kernel_rfl) (by kernel_rfl) (by kernel_rfl) (fun _ _ _ h => h) (wanted_plain rfl _) (fun w' _ => rn_mv rfl (he386.op rfl) w') hH380 ?_
                          intro a387 he387
                          clear he386 a386
                          refine hV (fuel := 13) (i := 7) (Wd.v (wordsO c)) he387 rfl rfl rfl (by kernel_rfl) (by kernel_rfl) (by kernel_rfl) (fun _ _ _ h => h) (he387.want rfl rfl rfl rfl rfl) (fun w' hw' => rn_loadW rfl (he387.op rfl) (hw'.at (i := 1) rfl)) hH380 ?_
                          intro a388 he388
                          clear he387 a387
                          refine hV (fuel := 12) (i := 8) (Wd.v (wordsO d)) he388 rfl rfl rfl (by kernel_rfl) (by kernel_rfl) (by kernel_rfl) (fun _ _ _ h => h) (he388.want rfl rfl rfl rfl rfl) (fun w' hw' => rn_loadW rfl (he388.op rfl) (hw'.at (i := 0) rfl)) hH380 ?_
                          intro a389 he389
                          clear he388 a388
                          refine hV (fuel := 11) (i := 9) (Value.bool q) he389 rfl rfl rfl (by kernel_rfl) (by kernel_rfl) (by kernel_rfl) (fun _ _ _ h => h) (he389.want rfl rfl rfl rfl rfl) (fun w' _ => rn_eqW rfl (he389.op rfl) (he389.op rfl) hq2 w') hH380 ?_
                          intro a390 he390
                          clear he389 a389
                          refine hV (fuel := 10) (i := 10) (Value.slice (some ⟨ba, oa, none⟩) n ca) he390 rfl rfl rfl (by kernel_rfl) (by kernel_rfl) (by kernel_rfl) (fun _ _ _ h => h) (he390.want rfl rfl rfl rfl rfl) (fun w' _ => rn_mv rfl (he390.op rfl) w') hH380 ?_
                          intro a391 he391
                          clear he390 a390
                          refine hV (fuel := 9) (i := 11) (Value.int .i64 (i : Int)) he391 rfl rfl rfl (by kernel_rfl) (by kernel_rfl) (by kernel_rfl) (fun _ _ _ h => h) (he391.want rfl rfl rfl rfl rfl) (fun w' _ => rn_mv rfl (he391.op rfl) w') hH380 ?_
                          intro a392 he392
                          clear he391 a391
                          refine hV (fuel := 8) (i := 12) (Value.pointer (some ⟨ba, oa + i * 16, none⟩)) he392 rfl rfl rfl (by kernel_rfl) (by kernel_rfl) (by kernel_rfl) (fun _ _ _ h => h) (he392.want rfl rfl rfl rfl rfl) (fun w' _ => rn_idx (i := i) rfl (he392.op rfl) (he392.op rfl) hin (by rw [addr_add]) w') hH380 ?_
                          intro a393 he393
                          clear he392 a392
                          refine hV (fuel := 7) (i := 13) (Ce.v c) he393 rfl rfl rfl (by kernel_rfl) (by kernel_rfl) (by kernel_rfl) (fun _ _ _ h => h) (he393.want rfl rfl rfl rfl rfl) (fun w' hw' => rn_loadM (i := i) rfl (he393.op rfl) (ha.new hw'.new) hin rfl hc) hH380 ?_
                          intro a394 he394
                          clear he393 a393
                          refine hV (fuel := 6) (i := 14) (Value.slice (some ⟨bb, ob, none⟩) m cb) he394 rfl rfl rfl (by kernel_rfl) (by kernel_rfl) (by kernel_rfl) (fun _ _ _ h => h) (he394.want rfl rfl rfl rfl rfl) (fun w' _ => rn_mv rfl (he394.op rfl) w') hH380 ?_
                          intro a395 he395
                          clear he394 a394
                          refine hV (fuel := 5) (i := 15) (Value.int .i64 (k : Int)) he395 rfl rfl rfl (by kernel_rfl) (by kernel_rfl) (by kernel_rfl) (fun _ _ _ h => h) (he395.want rfl rfl rfl rfl rfl) (fun w' _ => rn_mv rfl (he395.op rfl) w') hH380 ?_
                          intro a396 he396
                          clear he395 a395
                          refine hV (fuel := 4) (i := 16) (Value.pointer (some ⟨bb, ob + k * 16, none⟩)) he396 rfl rfl rfl (by kernel_rfl) (by kernel_rfl) (by kernel_rfl) (fun _ _ _ h => h) (he396.want rfl rfl rfl rfl rfl) (fun w' _ => rn_idx (i := k) rfl (he396.op rfl) (he396.op rfl) hkm (by rw [addr_add]) w') hH380 ?_
                          intro a397 he397
                          clear he396 a396
                          refine hV (fuel := 3) (i := 17) (Ce.v d) he397 rfl rfl rfl (by kernel_rfl) (by kernel_rfl) (by kernel_rfl) (fun _ _ _ h => h) (he397.want rfl rfl rfl rfl rfl) (fun w' hw' => rn_loadM (i := k) rfl (he397.op rfl) (hb.new hw'.new) hkm rfl hd) hH380 ?_
                          intro a398 he398
                          clear he397 a397
                          refine hV (fuel := 2) (i := 18) (Value.bool q) he398 rfl rfl rfl (by kernel_rfl) (by kernel_rfl) (by kernel_rfl) (fun _ _ _ h => h) (he398.want rfl rfl rfl rfl rfl) (fun w' _ => rn_eqC rfl (he398.op rfl) (he398.op rfl) hq w') hH380 ?_
                          intro a399 he399
                          clear he398 a398
                          refine hV (fuel := 1) (i := 19) (Value.bool false) he399 rfl rfl rfl (by kernel_rfl) (by kernel_rfl) (by kernel_rfl) (fun _ _ _ h => h) (he399.want rfl rfl rfl rfl rfl) (fun w' _ => rn_neB rfl (he399.op rfl) (he399.op rfl) (by simp) w') hH380 ?_
                          intro a400 he400
                          clear he399 a399
                          refine hV (fuel := 0) (i := 20) (Value.bool false) he400 rfl rfl rfl (by kernel_rfl) (by kernel_rfl) (by kernel_rfl) (fun _ _ _ h => h) (wanted_plain rfl _) (fun w' _ => rn_pk rfl (he400.op rfl) (he400.op rfl) w') hH380 ?_
                          intro a401 he401
                          clear he400 a400
                          refine wpAnyH_done (by kernel_rfl) ?_ _
                          refine then_ok ?_
                          refine wp_cond_false (he401.op rfl) ?_
                          refine wp_skip ?_
                          refine block_ok ?_
                          refine then_ok ?_
                          refine wp_region_lit ?_
                          refine lV (Value.int .i64 ((k + 1 : Nat) : Int)) he401 rfl rfl (wanted_plain rfl _) (rn_add1 rfl (he401.op rfl) (he401.op rfl) (by rw [IntWalk.i64_in _ ⟨by omega, by omega⟩]; rfl) w380) ?_
                          intro a402 he402
                          clear he401 a401
                          refine lV (Value.int .i64 ((k + 1 : Nat) : Int)) he402 rfl rfl (wanted_plain rfl _) (rn_mv rfl (he402.op rfl) w380) ?_
                          intro a403 he403
                          clear he402 a402
                          refine wpList_nil ?_
                          refine then_ok ?_
                          have hH404 := hH380.tail rfl
                          clear hH380
                          have hH405 := hH404.tail rfl
                          clear hH404
                          exact ⟨m - (k + 1), by omega, k + 1, rfl, by omega, he403.mem ⟨rfl, rfl, rfl, rfl, rfl, rfl, rfl, rfl, rfl, trivial⟩, hH405⟩
                    · skip
                      refine wp_seq ?_
                      refine wp_region_lit ?_
                      refine lV (Value.bool false) he269 rfl rfl (wanted_plain rfl _) (rn_lss rfl (he269.op rfl) (he269.op rfl) (decide_eq_false (by omega)) w269) ?_
                      intro a406 he406
                      clear he269 a269
                      refine wpList_nil ?_
                      refine then_ok ?_
                      refine wp_seq ?_
                      refine wp_cond_false (he406.op rfl) ?_
                      refine wp_exit ?_
                      simp only [Exit.then, Exit.inBlock, if_true]
                      refine wp_region_lit ?_
                      refine lV (Value.int .i64 ((i + 1 : Nat) : Int)) he406 rfl rfl (wanted_plain rfl _) (rn_add1 rfl (he406.op rfl) (he406.op rfl) (by rw [IntWalk.i64_in _ ⟨by omega, by omega⟩]; rfl) w269) ?_
                      intro a407 he407
                      clear he406 a406
                      refine lV (Value.int .i64 ((i + 1 : Nat) : Int)) he407 rfl rfl (wanted_plain rfl _) (rn_mv rfl (he407.op rfl) w269) ?_
                      intro a408 he408
                      clear he407 a407
                      refine wpList_nil ?_
                      refine then_ok ?_
                      exact ⟨n - (i + 1), by omega, i + 1, rfl, by omega, he408.mem ⟨rfl, rfl, rfl, rfl, rfl, trivial⟩, hH269⟩
                · skip
                  refine wp_seq ?_
                  refine wp_region_lit ?_
                  refine lV (Value.bool false) he262 rfl rfl (wanted_plain rfl _) (rn_lss rfl (he262.op rfl) (he262.op rfl) (decide_eq_false (by omega)) w262) ?_
                  intro a409 he409
                  clear he262 a262
                  refine wpList_nil ?_
                  refine then_ok ?_
                  refine wp_seq ?_
                  refine wp_cond_false (he409.op rfl) ?_
                  refine wp_exit ?_
                  simp only [Exit.then, Exit.inBlock, if_true]
                  refine wp_seq ?_
                  refine wp_region_lit ?_
                  refine lC he409 rfl rfl Tryd.func11 (by kernel_rfl) rfl rfl (wanted_plain rfl _) rfl (known_any w262 (hT.new hH262.new)) ?_
                  intro w410 a411 hn he411
                  have hH410 := hH262.call hn
                  clear he409 a409 hH262 hn
                  refine lV (Value.bool true) he411 rfl rfl (wanted_plain rfl _) (rn_asg rfl (he411.op rfl) w410) ?_
                  intro a412 he412
                  clear he411 a411
                  refine wpList_nil ?_
                  refine then_ok ?_
                  refine wp_ret ?_
                  try simp only [Exit.then, Exit.inBlock]
                  exact ret_env rfl he412 rfl ⟨rfl, hH410.new.new_below⟩

end Go.Proofs.YtaiijndldngnkaaDoor
