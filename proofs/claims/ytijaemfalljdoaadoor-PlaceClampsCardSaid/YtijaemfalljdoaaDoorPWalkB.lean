/-
  The statement of the stage: an order, steps, nearest places, texts.
-/
import Derived.Test.YtijaemfalljdoaaDoorPWalkA
namespace Go.Proofs.YtijaemfalljdoaaDoor
open Go.RowKit

theorem dist_sign {p q : Pl} {c : Int} (hc : colP c) (hp : inP p c) (hq : inP q c) : ((0 < (q.l * c + q.c) - (p.l * c + p.c)) ↔ (p.l < q.l ∨ p.l = q.l ∧ p.c < q.c)) ∧ (((q.l * c + q.c) - (p.l * c + p.c) = 0) ↔ (p.l = q.l ∧ p.c = q.c)) := by
  obtain ⟨⟨p0, p1, p2, p3⟩, p4⟩ := hp
  obtain ⟨⟨q0, q1, q2, q3⟩, q4⟩ := hq
  obtain ⟨c0, c1⟩ := hc
  rcases Int.lt_trichotomy p.l q.l with h | h | h
  · have := Int.mul_le_mul_of_nonneg_right (show p.l + 1 ≤ q.l by omega) (show 0 ≤ c by omega)
    rw [Int.add_mul, Int.one_mul] at this
    omega
  · rw [h]
    omega
  · have := Int.mul_le_mul_of_nonneg_right (show q.l + 1 ≤ p.l by omega) (show 0 ≤ c by omega)
    rw [Int.add_mul, Int.one_mul] at this
    omega
theorem stepP_ok {p : Pl} {n c : Int} (h : (stepP p n c).2 = 0) : colP c ∧ inP p c ∧ inP (stepP p n c).1 c ∧ idxP (stepP p n c).1 c = idxP p c + n := by
  unfold stepP at h ⊢
  split at h
  · cases h
  · rename_i h1
    split at h
    · rename_i h2
      have hin : colP c ∧ inP p c := by omega
      rw [if_neg h1, if_pos h2]
      have hc : 0 < c := by omega
      have e1 := Int.emod_nonneg (idxP p c + n) (show c ≠ 0 by omega)
      have e2 := Int.emod_lt_of_pos (idxP p c + n) hc
      have e3 := Int.ediv_mul_add_emod (idxP p c + n) c
      refine ⟨hin.1, hin.2, ⟨⟨Int.ediv_nonneg h2.1 (by omega), ?_, e1, by show (idxP p c + n) % c ≤ 1000; omega⟩, e2⟩, e3⟩
      show (idxP p c + n) / c ≤ 1099511627776
      refine Int.not_lt.1 fun h3 => ?_
      have := Int.mul_le_mul_of_nonneg_right (show (1099511627777 : Int) ≤ (idxP p c + n) / c by omega) (show 0 ≤ c by omega)
      omega
    · cases h
theorem step_add {p : Pl} {n m c : Int} (h : (stepP p n c).2 = 0) : stepP p (n + m) c = ((stepP (stepP p n c).1 m c).1, (stepP (stepP p n c).1 m c).2) := by
  obtain ⟨h1, h2, h3, h4⟩ := stepP_ok h
  show stepP p (n + m) c = stepP (stepP p n c).1 m c
  generalize (stepP p n c).1 = q at *
  have e1 : ¬ ¬ (colP c ∧ inP p c) := by omega
  have e2 : ¬ ¬ (colP c ∧ inP q c) := by omega
  unfold stepP
  rw [if_neg e1, if_neg e2, h4, ← Int.add_assoc (idxP p c) n m]
theorem clamp_cases (p : Pl) (f n c : Int) : ((f < 0 ∨ n ≤ f ∨ 1099511627777 < n ∨ c < 1 ∨ 1000 < c) ∧ (clampP p f n c).2 = 2) ∨ (0 ≤ f ∧ f < n ∧ n ≤ 1099511627777 ∧ 1 ≤ c ∧ c ≤ 1000 ∧ (clampP p f n c).2 = 0 ∧ ((p.l < f ∧ (clampP p f n c).1.l = f ∧ (clampP p f n c).1.c = 0) ∨ (n ≤ p.l ∧ (clampP p f n c).1.l = n - 1 ∧ (clampP p f n c).1.c = c - 1) ∨ (f ≤ p.l ∧ p.l < n ∧ (clampP p f n c).1.l = p.l ∧ ((p.c < 0 ∧ (clampP p f n c).1.c = 0) ∨ (c ≤ p.c ∧ (clampP p f n c).1.c = c - 1) ∨ (0 ≤ p.c ∧ p.c < c ∧ (clampP p f n c).1.c = p.c))))) := by
  unfold clampP
  split
  · rename_i h
    exact .inl ⟨by unfold argC at h; omega, rfl⟩
  · rename_i h
    refine .inr ?_
    unfold argC at h
    have hh : 0 ≤ f ∧ f < n ∧ n ≤ 1099511627777 ∧ 1 ≤ c ∧ c ≤ 1000 := by omega
    refine ⟨hh.1, hh.2.1, hh.2.2.1, hh.2.2.2.1, hh.2.2.2.2, ?_⟩
    split
    · rename_i h1
      exact ⟨rfl, .inl ⟨h1, rfl, rfl⟩⟩
    · rename_i h1
      split
      · rename_i h2
        exact ⟨rfl, .inr (.inl ⟨h2, rfl, rfl⟩)⟩
      · rename_i h2
        refine ⟨rfl, .inr (.inr ⟨by omega, by omega, rfl, ?_⟩)⟩
        show (p.c < 0 ∧ (if p.c < 0 then 0 else if c ≤ p.c then c - 1 else p.c) = 0) ∨ (c ≤ p.c ∧ (if p.c < 0 then 0 else if c ≤ p.c then c - 1 else p.c) = c - 1) ∨ (0 ≤ p.c ∧ p.c < c ∧ (if p.c < 0 then 0 else if c ≤ p.c then c - 1 else p.c) = p.c)
        split
        · omega
        · split <;> omega
theorem clamp_same (p q : Pl) (f n c : Int) : (clampP p f n c).2 = (clampP q f n c).2 := by
  have h1 := clamp_cases p f n c
  have h2 := clamp_cases q f n c
  generalize clampP p f n c = x at *
  generalize clampP q f n c = y at *
  rcases h1 with h1 | ⟨a1, a2, a3, a4, a5, a6, -⟩
  · rcases h2 with h2 | ⟨b1, b2, b3, b4, b5, b6, -⟩
    · rw [h1.2, h2.2]
    · omega
  · rcases h2 with h2 | ⟨b1, b2, b3, b4, b5, b6, -⟩
    · omega
    · rw [a6, b6]
theorem clamp_in {p : Pl} {f n c : Int} (h : (clampP p f n c).2 = 0) : f ≤ (clampP p f n c).1.l ∧ (clampP p f n c).1.l < n ∧ 0 ≤ (clampP p f n c).1.c ∧ (clampP p f n c).1.c < c := by
  have h1 := clamp_cases p f n c
  generalize clampP p f n c = x at *
  rcases h1 with h1 | ⟨a1, a2, a3, a4, a5, a6, h1⟩
  · omega
  · rcases h1 with h1 | h1 | ⟨b1, b2, b3, h1⟩
    · omega
    · omega
    · rcases h1 with h1 | h1 | h1 <;> omega
theorem clamp_mono {p q : Pl} {f n c : Int} (h : (clampP p f n c).2 = 0) (hc : cmpP p q ≤ 0) : cmpP (clampP p f n c).1 (clampP q f n c).1 ≤ 0 := by
  have h0 := cmp_cases p q
  have h1 := clamp_cases p f n c
  have h2 := clamp_cases q f n c
  have h3 := cmp_cases (clampP p f n c).1 (clampP q f n c).1
  generalize clampP p f n c = x at *
  generalize clampP q f n c = y at *
  generalize cmpP p q = u at *
  generalize cmpP x.1 y.1 = v at *
  refine Int.not_lt.1 fun hv => ?_
  have h4 : y.1.l < x.1.l ∨ y.1.l = x.1.l ∧ y.1.c < x.1.c := by omega
  have h5 : p.l < q.l ∨ p.l = q.l ∧ p.c ≤ q.c := by omega
  clear h3 h0
  rcases h1 with h1 | ⟨a1, a2, a3, a4, a5, a6, h1⟩
  · omega
  · rcases h2 with h2 | ⟨-, -, -, -, -, -, h2⟩
    · omega
    · rcases h1 with h1 | h1 | ⟨b1, b2, b3, h1⟩
      · rcases h2 with h2 | h2 | ⟨e1, e2, e3, h2⟩
        · omega
        · omega
        · rcases h2 with h2 | h2 | h2 <;> omega
      · rcases h2 with h2 | h2 | ⟨e1, e2, e3, h2⟩
        · omega
        · omega
        · rcases h2 with h2 | h2 | h2 <;> omega
      · rcases h2 with h2 | h2 | ⟨e1, e2, e3, h2⟩
        · omega
        · rcases h1 with h1 | h1 | h1 <;> omega
        · rcases h1 with h1 | h1 | h1 <;> rcases h2 with h2 | h2 | h2 <;> omega
set_option linter.unusedSimpArgs false in
set_option maxRecDepth 100000 in
set_option maxHeartbeats 1600000 in
theorem PlaceHolds_w (p q r : Pl) (n m ff nn cc : Int) (hn : I64 n) (hm : I64 m) (w : World) (hT : Tab w) : Calls Tryd.prog 7 #[.agg #[.int .i64 p.l, .int .i64 p.c], .agg #[.int .i64 q.l, .int .i64 q.c], .agg #[.int .i64 r.l, .int .i64 r.c], .int .i64 n, .int .i64 m, .int .i64 ff, .int .i64 nn, .int .i64 cc] w fun e w' => e = .returned (.bool true) ∧ New w w' := by
  refine calls_args (vl := [Value.agg #[Value.int .i64 p.l, Value.int .i64 p.c], Value.agg #[Value.int .i64 q.l, Value.int .i64 q.c], Value.agg #[Value.int .i64 r.l, Value.int .i64 r.c], Value.int .i64 n, Value.int .i64 m, Value.int .i64 ff, Value.int .i64 nn, Value.int .i64 cc]) 233 Tryd.func7 rfl Tryd.ntmps7 (by kernel_rfl) (fun a he => ?_)
  have he0 : Env 233 [(0, Value.agg #[Value.int .i64 p.l, Value.int .i64 p.c]), (1, Value.agg #[Value.int .i64 q.l, Value.int .i64 q.c]), (2, Value.agg #[Value.int .i64 r.l, Value.int .i64 r.c]), (3, Value.int .i64 n), (4, Value.int .i64 m), (5, Value.int .i64 ff), (6, Value.int .i64 nn), (7, Value.int .i64 cc)] a := he
  clear he
  have hH := Hp.start w
  refine wp_seq ?_
  refine wp_region_lit ?_
  refine lNewP (fun p => .pointer (some ⟨p, 0, none⟩)) he0 hH rfl rfl (wanted_plain rfl _) (rn_boxZ rfl (he0.op rfl) w) ?_
  intro p1 w1 a2 hp hn hH1 he2
  clear he0 a hH hn hp
  refine lNewP (fun p => .pointer (some ⟨p, 0, none⟩)) he2 hH1 rfl rfl (wanted_plain rfl _) (rn_boxZ rfl (he2.op rfl) w1) ?_
  intro p3 w3 a4 hp hn hH3 he4
  clear he2 a2 hH1 hn hp
  refine lNewP (fun p => .pointer (some ⟨p, 0, none⟩)) he4 hH3 rfl rfl (wanted_plain rfl _) (rn_boxZ rfl (he4.op rfl) w3) ?_
  intro p5 w5 a6 hp hn hH5 he6
  clear he4 a4 hH3 hn hp
  refine lV (Value.bool false) he6 rfl rfl (wanted_plain rfl _) (rn_asg rfl (he6.op rfl) w5) ?_
  intro a7 he7
  clear he6 a6
  refine wpList_nil ?_
  refine then_ok ?_
  refine wp_seq ?_
  refine wp_region_lit ?_
  refine lV (Value.agg #[Value.int .i64 p.l, Value.int .i64 p.c]) he7 rfl rfl (wanted_plain rfl _) (rn_ldp [Value.int .i64 p.l, Value.int .i64 p.c] rfl (he7.op rfl) undZ rfl infoZ2 (hH5.at (i := 2) rfl) rfl) ?_
  intro a8 he8
  clear he7 a7
  refine lV (Value.agg #[Value.int .i64 q.l, Value.int .i64 q.c]) he8 rfl rfl (wanted_plain rfl _) (rn_ldp [Value.int .i64 q.l, Value.int .i64 q.c] rfl (he8.op rfl) undZ rfl infoZ2 (hH5.at (i := 1) rfl) rfl) ?_
  intro a9 he9
  clear he8 a8
  refine lC he9 rfl rfl Tryd.func11 (by kernel_rfl) rfl rfl (wanted_plain rfl _) rfl (Compare_c p q w5) ?_
  intro w10 a11 hn he11
  have hH10 := hH5.call hn
  clear he9 a9 hH5 hn
  refine lV (Value.int .i64 (cmpP p q)) he11 rfl rfl (wanted_plain rfl _) (rn_asg rfl (he11.op rfl) w10) ?_
  intro a12 he12
  clear he11 a11
  refine wpList_nil ?_
  refine then_ok ?_
  refine wp_seq ?_
  refine reg_cut (fun a w' => Env 233 [(17, Value.int .i64 (cmpP p q)), (9, Value.pointer (some ⟨p3, 0, none⟩)), (8, Value.pointer (some ⟨p1, 0, none⟩)), (3, Value.int .i64 n), (4, Value.int .i64 m), (5, Value.int .i64 ff), (6, Value.int .i64 nn), (7, Value.int .i64 cc)] a ∧ Hp w [⟨p5, 23, #[Value.int .i64 r.l, Value.int .i64 r.c]⟩, ⟨p3, 23, #[Value.int .i64 q.l, Value.int .i64 q.c]⟩, ⟨p1, 23, #[Value.int .i64 p.l, Value.int .i64 p.c]⟩] w') ?_ ?_
  · skip
    refine wp_seq ?_
    have k0 := cmp_cases p q
    have k1 := cmp_cases q p
    have k2 := cmp_cases q r
    have k3 := cmp_cases p r
    refine wp_region_lit ?_
    refine lV (Value.int .i64 (cmpP p q)) he12 rfl rfl (wanted_plain rfl _) (rn_mv rfl (he12.op rfl) w10) ?_
    intro a13 he13
    clear he12 a12
    refine lV (Value.agg #[Value.int .i64 q.l, Value.int .i64 q.c]) he13 rfl rfl (wanted_plain rfl _) (rn_ldp [Value.int .i64 q.l, Value.int .i64 q.c] rfl (he13.op rfl) undZ rfl infoZ2 (hH10.at (i := 1) rfl) rfl) ?_
    intro a14 he14
    clear he13 a13
    refine lV (Value.agg #[Value.int .i64 p.l, Value.int .i64 p.c]) he14 rfl rfl (wanted_plain rfl _) (rn_ldp [Value.int .i64 p.l, Value.int .i64 p.c] rfl (he14.op rfl) undZ rfl infoZ2 (hH10.at (i := 2) rfl) rfl) ?_
    intro a15 he15
    clear he14 a14
    refine lC he15 rfl rfl Tryd.func11 (by kernel_rfl) rfl rfl (wanted_plain rfl _) rfl (Compare_c q p w10) ?_
    intro w16 a17 hn he17
    have hH16 := hH10.call hn
    clear he15 a15 hH10 hn
    refine lV (Value.int .i64 (-(cmpP q p))) he17 rfl rfl (wanted_plain rfl _) (rn_negI rfl (he17.op rfl) (i64w (by omega) (by omega)) w16) ?_
    intro a18 he18
    clear he17 a17
    by_cases hb1 : (cmpP p q) = (-(cmpP q p))
    · skip
      refine lV (Value.bool false) he18 rfl rfl (wanted_plain rfl _) (rn_neI rfl (he18.op rfl) (he18.op rfl) (bneT hb1) w16) ?_
      intro a19 he19
      clear he18 a18
      refine lV (Value.bool false) he19 rfl rfl (wanted_plain rfl _) (rn_mv rfl (he19.op rfl) w16) ?_
      intro a20 he20
      clear he19 a19
      refine lV (Value.int .i64 (cmpP p q)) he20 rfl rfl (he20.want rfl rfl rfl rfl rfl) (rn_mv rfl (he20.op rfl) w16) ?_
      intro a21 he21
      clear he20 a20
      by_cases hb2 : (cmpP p q) = 0
      · skip
        refine lV (Value.bool true) he21 rfl rfl (he21.want rfl rfl rfl rfl rfl) (rn_eqI rfl (he21.op rfl) (he21.op rfl) (beqT hb2) w16) ?_
        intro a22 he22
        clear he21 a21
        refine lV (Value.agg #[Value.int .i64 p.l, Value.int .i64 p.c]) he22 rfl rfl (he22.want rfl rfl rfl rfl rfl) (rn_ldp [Value.int .i64 p.l, Value.int .i64 p.c] rfl (he22.op rfl) undZ rfl infoZ2 (hH16.at (i := 2) rfl) rfl) ?_
        intro a23 he23
        clear he22 a22
        refine lV (Value.agg #[Value.int .i64 q.l, Value.int .i64 q.c]) he23 rfl rfl (he23.want rfl rfl rfl rfl rfl) (rn_ldp [Value.int .i64 q.l, Value.int .i64 q.c] rfl (he23.op rfl) undZ rfl infoZ2 (hH16.at (i := 1) rfl) rfl) ?_
        intro a24 he24
        clear he23 a23
        by_cases hb3 : p.l = q.l ∧ p.c = q.c
        · skip
          refine lV (Value.bool true) he24 rfl rfl (he24.want rfl rfl rfl rfl rfl) (rn_eqZ (p := p) (q := q) rfl (he24.op rfl) (he24.op rfl) (decide_eq_true (pl_eq.2 hb3)) w16) ?_
          intro a25 he25
          clear he24 a24
          refine lV (Value.bool false) he25 rfl rfl (he25.want rfl rfl rfl rfl rfl) (rn_neB (i := true) (j := true) rfl (he25.op rfl) (he25.op rfl) rfl w16) ?_
          intro a26 he26
          clear he25 a25
          refine lV (Value.bool false) he26 rfl rfl (wanted_plain rfl _) (rn_pk0 rfl (he26.op rfl) (he26.op rfl) w16) ?_
          intro a27 he27
          clear he26 a26
          refine lV (Value.bool false) he27 rfl rfl (wanted_plain rfl _) (rn_mv rfl (he27.op rfl) w16) ?_
          intro a28 he28
          clear he27 a27
          refine lV (Value.int .i64 (cmpP p q)) he28 rfl rfl (he28.want rfl rfl rfl rfl rfl) (rn_mv rfl (he28.op rfl) w16) ?_
          intro a29 he29
          clear he28 a28
          by_cases hb4 : (cmpP p q) ≤ 0
          · skip
            refine lV (Value.bool true) he29 rfl rfl (he29.want rfl rfl rfl rfl rfl) (rn_leI rfl (he29.op rfl) (he29.op rfl) (decide_eq_true hb4) w16) ?_
            intro a30 he30
            clear he29 a29
            refine lV (Value.bool true) he30 rfl rfl (he30.want rfl rfl rfl rfl rfl) (rn_mv rfl (he30.op rfl) w16) ?_
            intro a31 he31
            clear he30 a30
            refine lV (Value.agg #[Value.int .i64 q.l, Value.int .i64 q.c]) he31 rfl rfl (he31.want rfl rfl rfl rfl rfl) (rn_ldp [Value.int .i64 q.l, Value.int .i64 q.c] rfl (he31.op rfl) undZ rfl infoZ2 (hH16.at (i := 1) rfl) rfl) ?_
            intro a32 he32
            clear he31 a31
            refine lV (Value.agg #[Value.int .i64 r.l, Value.int .i64 r.c]) he32 rfl rfl (he32.want rfl rfl rfl rfl rfl) (rn_ldp [Value.int .i64 r.l, Value.int .i64 r.c] rfl (he32.op rfl) undZ rfl infoZ2 (hH16.at (i := 0) rfl) rfl) ?_
            intro a33 he33
            clear he32 a32
            refine lC he33 rfl rfl Tryd.func11 (by kernel_rfl) rfl rfl (he33.want rfl rfl rfl rfl rfl) rfl (Compare_c q r w16) ?_
            intro w34 a35 hn he35
            have hH34 := hH16.call hn
            clear he33 a33 hH16 hn
            by_cases hb5 : (cmpP q r) ≤ 0
            · skip
              refine lV (Value.bool true) he35 rfl rfl (he35.want rfl rfl rfl rfl rfl) (rn_leI rfl (he35.op rfl) (he35.op rfl) (decide_eq_true hb5) w34) ?_
              intro a36 he36
              clear he35 a35
              refine lV (Value.bool true) he36 rfl rfl (he36.want rfl rfl rfl rfl rfl) (rn_pk rfl (he36.op rfl) (he36.op rfl) w34) ?_
              intro a37 he37
              clear he36 a36
              refine lV (Value.bool true) he37 rfl rfl (he37.want rfl rfl rfl rfl rfl) (rn_mv rfl (he37.op rfl) w34) ?_
              intro a38 he38
              clear he37 a37
              refine lV (Value.agg #[Value.int .i64 p.l, Value.int .i64 p.c]) he38 rfl rfl (he38.want rfl rfl rfl rfl rfl) (rn_ldp [Value.int .i64 p.l, Value.int .i64 p.c] rfl (he38.op rfl) undZ rfl infoZ2 (hH34.at (i := 2) rfl) rfl) ?_
              intro a39 he39
              clear he38 a38
              refine lV (Value.agg #[Value.int .i64 r.l, Value.int .i64 r.c]) he39 rfl rfl (he39.want rfl rfl rfl rfl rfl) (rn_ldp [Value.int .i64 r.l, Value.int .i64 r.c] rfl (he39.op rfl) undZ rfl infoZ2 (hH34.at (i := 0) rfl) rfl) ?_
              intro a40 he40
              clear he39 a39
              refine lC he40 rfl rfl Tryd.func11 (by kernel_rfl) rfl rfl (he40.want rfl rfl rfl rfl rfl) rfl (Compare_c p r w34) ?_
              intro w41 a42 hn he42
              have hH41 := hH34.call hn
              clear he40 a40 hH34 hn
              by_cases hb6 : 0 < (cmpP p r)
              · skip
                refine lV (Value.bool true) he42 rfl rfl (he42.want rfl rfl rfl rfl rfl) (rn_gtI rfl (he42.op rfl) (he42.op rfl) (decide_eq_true hb6) w41) ?_
                intro a43 he43
                clear he42 a42
                refine lV (Value.bool true) he43 rfl rfl (he43.want rfl rfl rfl rfl rfl) (rn_pk rfl (he43.op rfl) (he43.op rfl) w41) ?_
                intro a44 he44
                clear he43 a43
                refine lV (Value.bool true) he44 rfl rfl (wanted_plain rfl _) (rn_pk0 rfl (he44.op rfl) (he44.op rfl) w41) ?_
                intro a45 he45
                clear he44 a44
                refine wpList_nil ?_
                refine then_ok ?_
                refine wp_cond_true (he45.op rfl) ?_
                refine wp_seq ?_
                refine wp_region_lit ?_
                refine lV (Value.bool false) he45 rfl rfl (wanted_plain rfl _) (rn_asg rfl (he45.op rfl) w41) ?_
                intro a46 he46
                clear he45 a45
                refine wpList_nil ?_
                refine then_ok ?_
                refine wp_ret ?_
                try simp only [Exit.then, Exit.inBlock, Exit.noGoto]
                omega
              · skip
                refine lV (Value.bool false) he42 rfl rfl (he42.want rfl rfl rfl rfl rfl) (rn_gtI rfl (he42.op rfl) (he42.op rfl) (decide_eq_false hb6) w41) ?_
                intro a43 he43
                clear he42 a42
                refine lV (Value.bool false) he43 rfl rfl (he43.want rfl rfl rfl rfl rfl) (rn_pk rfl (he43.op rfl) (he43.op rfl) w41) ?_
                intro a44 he44
                clear he43 a43
                refine lV (Value.bool false) he44 rfl rfl (wanted_plain rfl _) (rn_pk0 rfl (he44.op rfl) (he44.op rfl) w41) ?_
                intro a45 he45
                clear he44 a44
                refine wpList_nil ?_
                refine then_ok ?_
                refine wp_cond_false (he45.op rfl) ?_
                refine wp_skip ?_
                refine then_ok ?_
                exact ⟨he45.mem ⟨rfl, rfl, rfl, rfl, rfl, rfl, rfl, rfl, trivial⟩, hH41⟩
            · skip
              refine lV (Value.bool false) he35 rfl rfl (he35.want rfl rfl rfl rfl rfl) (rn_leI rfl (he35.op rfl) (he35.op rfl) (decide_eq_false hb5) w34) ?_
              intro a36 he36
              clear he35 a35
              refine lV (Value.bool false) he36 rfl rfl (he36.want rfl rfl rfl rfl rfl) (rn_pk rfl (he36.op rfl) (he36.op rfl) w34) ?_
              intro a37 he37
              clear he36 a36
              refine lV (Value.bool false) he37 rfl rfl (he37.want rfl rfl rfl rfl rfl) (rn_mv rfl (he37.op rfl) w34) ?_
              intro a38 he38
              clear he37 a37
              refine lSkip he38 rfl rfl (he38.wantNot rfl rfl rfl rfl rfl rfl) ?_
              intro a39 he39
              clear he38 a38
              refine lSkip he39 rfl rfl (he39.wantNot rfl rfl rfl rfl rfl rfl) ?_
              intro a40 he40
              clear he39 a39
              refine lSkip he40 rfl rfl (he40.wantNot rfl rfl rfl rfl rfl rfl) ?_
              intro a41 he41
              clear he40 a40
              refine lSkip he41 rfl rfl (he41.wantNot rfl rfl rfl rfl rfl rfl) ?_
              intro a42 he42
              clear he41 a41
              refine lV (Value.bool false) he42 rfl rfl (he42.want rfl rfl rfl rfl rfl) (rn_pk0 rfl (he42.op rfl) (he42.op rfl) w34) ?_
              intro a43 he43
              clear he42 a42
              refine lV (Value.bool false) he43 rfl rfl (wanted_plain rfl _) (rn_pk0 rfl (he43.op rfl) (he43.op rfl) w34) ?_
              intro a44 he44
              clear he43 a43
              refine wpList_nil ?_
              refine then_ok ?_
              refine wp_cond_false (he44.op rfl) ?_
              refine wp_skip ?_
              refine then_ok ?_
              exact ⟨he44.mem ⟨rfl, rfl, rfl, rfl, rfl, rfl, rfl, rfl, trivial⟩, hH34⟩
          · skip
            refine lV (Value.bool false) he29 rfl rfl (he29.want rfl rfl rfl rfl rfl) (rn_leI rfl (he29.op rfl) (he29.op rfl) (decide_eq_false hb4) w16) ?_
            intro a30 he30
            clear he29 a29
            refine lV (Value.bool false) he30 rfl rfl (he30.want rfl rfl rfl rfl rfl) (rn_mv rfl (he30.op rfl) w16) ?_
            intro a31 he31
            clear he30 a30
            refine lSkip he31 rfl rfl (he31.wantNot rfl rfl rfl rfl rfl rfl) ?_
            intro a32 he32
            clear he31 a31
            refine lSkip he32 rfl rfl (he32.wantNot rfl rfl rfl rfl rfl rfl) ?_
            intro a33 he33
            clear he32 a32
            refine lSkip he33 rfl rfl (he33.wantNot rfl rfl rfl rfl rfl rfl) ?_
            intro a34 he34
            clear he33 a33
            refine lSkip he34 rfl rfl (he34.wantNot rfl rfl rfl rfl rfl rfl) ?_
            intro a35 he35
            clear he34 a34
            refine lV (Value.bool false) he35 rfl rfl (he35.want rfl rfl rfl rfl rfl) (rn_pk0 rfl (he35.op rfl) (he35.op rfl) w16) ?_
            intro a36 he36
            clear he35 a35
            refine lV (Value.bool false) he36 rfl rfl (he36.want rfl rfl rfl rfl rfl) (rn_mv rfl (he36.op rfl) w16) ?_
            intro a37 he37
            clear he36 a36
            refine lSkip he37 rfl rfl (he37.wantNot rfl rfl rfl rfl rfl rfl) ?_
            intro a38 he38
            clear he37 a37
            refine lSkip he38 rfl rfl (he38.wantNot rfl rfl rfl rfl rfl rfl) ?_
            intro a39 he39
            clear he38 a38
            refine lSkip he39 rfl rfl (he39.wantNot rfl rfl rfl rfl rfl rfl) ?_
            intro a40 he40
            clear he39 a39
            refine lSkip he40 rfl rfl (he40.wantNot rfl rfl rfl rfl rfl rfl) ?_
            intro a41 he41
            clear he40 a40
            refine lV (Value.bool false) he41 rfl rfl (he41.want rfl rfl rfl rfl rfl) (rn_pk0 rfl (he41.op rfl) (he41.op rfl) w16) ?_
            intro a42 he42
            clear he41 a41
            refine lV (Value.bool false) he42 rfl rfl (wanted_plain rfl _) (rn_pk0 rfl (he42.op rfl) (he42.op rfl) w16) ?_
            intro a43 he43
            clear he42 a42
            refine wpList_nil ?_
            refine then_ok ?_
            refine wp_cond_false (he43.op rfl) ?_
            refine wp_skip ?_
            refine then_ok ?_
            exact ⟨he43.mem ⟨rfl, rfl, rfl, rfl, rfl, rfl, rfl, rfl, trivial⟩, hH16⟩
        · skip
          refine lV (Value.bool false) he24 rfl rfl (he24.want rfl rfl rfl rfl rfl) (rn_eqZ (p := p) (q := q) rfl (he24.op rfl) (he24.op rfl) (decide_eq_false (fun h_ => hb3 (pl_eq.1 h_))) w16) ?_
          intro a25 he25
          clear he24 a24
          refine lV (Value.bool true) he25 rfl rfl (he25.want rfl rfl rfl rfl rfl) (rn_neB (i := true) (j := false) rfl (he25.op rfl) (he25.op rfl) rfl w16) ?_
          intro a26 he26
          clear he25 a25
          refine lV (Value.bool true) he26 rfl rfl (wanted_plain rfl _) (rn_pk0 rfl (he26.op rfl) (he26.op rfl) w16) ?_
          intro a27 he27
          clear he26 a26
          refine lV (Value.bool true) he27 rfl rfl (wanted_plain rfl _) (rn_mv rfl (he27.op rfl) w16) ?_
          intro a28 he28
          clear he27 a27
          refine lSkip he28 rfl rfl (he28.wantNot rfl rfl rfl rfl rfl rfl) ?_
          intro a29 he29
          clear he28 a28
          refine lSkip he29 rfl rfl (he29.wantNot rfl rfl rfl rfl rfl rfl) ?_
          intro a30 he30
          clear he29 a29
          refine lSkip he30 rfl rfl (he30.wantNot rfl rfl rfl rfl rfl rfl) ?_
          intro a31 he31
          clear he30 a30
          refine lSkip he31 rfl rfl (he31.wantU rfl rfl rfl rfl rfl) ?_
          intro a32 he32
          clear he31 a31
          refine lSkip he32 rfl rfl (he32.wantU rfl rfl rfl rfl rfl) ?_
          intro a33 he33
          clear he32 a32
          refine lSkip he33 rfl rfl (he33.wantU rfl rfl rfl rfl rfl) ?_
          intro a34 he34
          clear he33 a33
          refine lSkip he34 rfl rfl (he34.wantU rfl rfl rfl rfl rfl) ?_
          intro a35 he35
          clear he34 a34
          refine lSkip he35 rfl rfl (he35.wantNot rfl rfl rfl rfl rfl rfl) ?_
          intro a36 he36
          clear he35 a35
          refine lSkip he36 rfl rfl (he36.wantNot rfl rfl rfl rfl rfl rfl) ?_
          intro a37 he37
          clear he36 a36
          refine lSkip he37 rfl rfl (he37.wantU rfl rfl rfl rfl rfl) ?_
          intro a38 he38
          clear he37 a37
          refine lSkip he38 rfl rfl (he38.wantU rfl rfl rfl rfl rfl) ?_
          intro a39 he39
          clear he38 a38
          refine lSkip he39 rfl rfl (he39.wantU rfl rfl rfl rfl rfl) ?_
          intro a40 he40
          clear he39 a39
          refine lSkip he40 rfl rfl (he40.wantU rfl rfl rfl rfl rfl) ?_
          intro a41 he41
          clear he40 a40
          refine lSkip he41 rfl rfl (he41.wantNot rfl rfl rfl rfl rfl rfl) ?_
          intro a42 he42
          clear he41 a41
          refine lV (Value.bool true) he42 rfl rfl (wanted_plain rfl _) (rn_pk rfl (he42.op rfl) (he42.op rfl) w16) ?_
          intro a43 he43
          clear he42 a42
          refine wpList_nil ?_
          refine then_ok ?_
          refine wp_cond_true (he43.op rfl) ?_
          refine wp_seq ?_
          refine wp_region_lit ?_
          refine lV (Value.bool false) he43 rfl rfl (wanted_plain rfl _) (rn_asg rfl (he43.op rfl) w16) ?_
          intro a44 he44
          clear he43 a43
          refine wpList_nil ?_
          refine then_ok ?_
          refine wp_ret ?_
          try simp only [Exit.then, Exit.inBlock, Exit.noGoto]
          omega
      · skip
        refine lV (Value.bool false) he21 rfl rfl (he21.want rfl rfl rfl rfl rfl) (rn_eqI rfl (he21.op rfl) (he21.op rfl) (beqF hb2) w16) ?_
        intro a22 he22
        clear he21 a21
        refine lV (Value.agg #[Value.int .i64 p.l, Value.int .i64 p.c]) he22 rfl rfl (he22.want rfl rfl rfl rfl rfl) (rn_ldp [Value.int .i64 p.l, Value.int .i64 p.c] rfl (he22.op rfl) undZ rfl infoZ2 (hH16.at (i := 2) rfl) rfl) ?_
        intro a23 he23
        clear he22 a22
        refine lV (Value.agg #[Value.int .i64 q.l, Value.int .i64 q.c]) he23 rfl rfl (he23.want rfl rfl rfl rfl rfl) (rn_ldp [Value.int .i64 q.l, Value.int .i64 q.c] rfl (he23.op rfl) undZ rfl infoZ2 (hH16.at (i := 1) rfl) rfl) ?_
        intro a24 he24
        clear he23 a23
        by_cases hb3 : p.l = q.l ∧ p.c = q.c
        · skip
          refine lV (Value.bool true) he24 rfl rfl (he24.want rfl rfl rfl rfl rfl) (rn_eqZ (p := p) (q := q) rfl (he24.op rfl) (he24.op rfl) (decide_eq_true (pl_eq.2 hb3)) w16) ?_
          intro a25 he25
          clear he24 a24
          refine lV (Value.bool true) he25 rfl rfl (he25.want rfl rfl rfl rfl rfl) (rn_neB (i := false) (j := true) rfl (he25.op rfl) (he25.op rfl) rfl w16) ?_
          intro a26 he26
          clear he25 a25
          refine lV (Value.bool true) he26 rfl rfl (wanted_plain rfl _) (rn_pk0 rfl (he26.op rfl) (he26.op rfl) w16) ?_
          intro a27 he27
          clear he26 a26
          refine lV (Value.bool true) he27 rfl rfl (wanted_plain rfl _) (rn_mv rfl (he27.op rfl) w16) ?_
          intro a28 he28
          clear he27 a27
          refine lSkip he28 rfl rfl (he28.wantNot rfl rfl rfl rfl rfl rfl) ?_
          intro a29 he29
          clear he28 a28
          refine lSkip he29 rfl rfl (he29.wantNot rfl rfl rfl rfl rfl rfl) ?_
          intro a30 he30
          clear he29 a29
          refine lSkip he30 rfl rfl (he30.wantNot rfl rfl rfl rfl rfl rfl) ?_
          intro a31 he31
          clear he30 a30
          refine lSkip he31 rfl rfl (he31.wantU rfl rfl rfl rfl rfl) ?_
          intro a32 he32
          clear he31 a31
          refine lSkip he32 rfl rfl (he32.wantU rfl rfl rfl rfl rfl) ?_
          intro a33 he33
          clear he32 a32
          refine lSkip he33 rfl rfl (he33.wantU rfl rfl rfl rfl rfl) ?_
          intro a34 he34
          clear he33 a33
          refine lSkip he34 rfl rfl (he34.wantU rfl rfl rfl rfl rfl) ?_
          intro a35 he35
          clear he34 a34
          refine lSkip he35 rfl rfl (he35.wantNot rfl rfl rfl rfl rfl rfl) ?_
          intro a36 he36
          clear he35 a35
          refine lSkip he36 rfl rfl (he36.wantNot rfl rfl rfl rfl rfl rfl) ?_
          intro a37 he37
          clear he36 a36
          refine lSkip he37 rfl rfl (he37.wantU rfl rfl rfl rfl rfl) ?_
          intro a38 he38
          clear he37 a37
          refine lSkip he38 rfl rfl (he38.wantU rfl rfl rfl rfl rfl) ?_
          intro a39 he39
          clear he38 a38
          refine lSkip he39 rfl rfl (he39.wantU rfl rfl rfl rfl rfl) ?_
          intro a40 he40
          clear he39 a39
          refine lSkip he40 rfl rfl (he40.wantU rfl rfl rfl rfl rfl) ?_
          intro a41 he41
          clear he40 a40
          refine lSkip he41 rfl rfl (he41.wantNot rfl rfl rfl rfl rfl rfl) ?_
          intro a42 he42
          clear he41 a41
          refine lV (Value.bool true) he42 rfl rfl (wanted_plain rfl _) (rn_pk rfl (he42.op rfl) (he42.op rfl) w16) ?_
          intro a43 he43
          clear he42 a42
          refine wpList_nil ?_
          refine then_ok ?_
          refine wp_cond_true (he43.op rfl) ?_
          refine wp_seq ?_
          refine wp_region_lit ?_
          refine lV (Value.bool false) he43 rfl rfl (wanted_plain rfl _) (rn_asg rfl (he43.op rfl) w16) ?_
          intro a44 he44
          clear he43 a43
          refine wpList_nil ?_
          refine then_ok ?_
          refine wp_ret ?_
          try simp only [Exit.then, Exit.inBlock, Exit.noGoto]
          omega
        · skip
          refine lV (Value.bool false) he24 rfl rfl (he24.want rfl rfl rfl rfl rfl) (rn_eqZ (p := p) (q := q) rfl (he24.op rfl) (he24.op rfl) (decide_eq_false (fun h_ => hb3 (pl_eq.1 h_))) w16) ?_
          intro a25 he25
          clear he24 a24
          refine lV (Value.bool false) he25 rfl rfl (he25.want rfl rfl rfl rfl rfl) (rn_neB (i := false) (j := false) rfl (he25.op rfl) (he25.op rfl) rfl w16) ?_
          intro a26 he26
          clear he25 a25
          refine lV (Value.bool false) he26 rfl rfl (wanted_plain rfl _) (rn_pk0 rfl (he26.op rfl) (he26.op rfl) w16) ?_
          intro a27 he27
          clear he26 a26
          refine lV (Value.bool false) he27 rfl rfl (wanted_plain rfl _) (rn_mv rfl (he27.op rfl) w16) ?_
          intro a28 he28
          clear he27 a27
          refine lV (Value.int .i64 (cmpP p q)) he28 rfl rfl (he28.want rfl rfl rfl rfl rfl) (rn_mv rfl (he28.op rfl) w16) ?_
          intro a29 he29
          clear he28 a28
          by_cases hb4 : (cmpP p q) ≤ 0
          · skip
            refine lV (Value.bool true) he29 rfl rfl (he29.want rfl rfl rfl rfl rfl) (rn_leI rfl (he29.op rfl) (he29.op rfl) (decide_eq_true hb4) w16) ?_
            intro a30 he30
            clear he29 a29
            refine lV (Value.bool true) he30 rfl rfl (he30.want rfl rfl rfl rfl rfl) (rn_mv rfl (he30.op rfl) w16) ?_
            intro a31 he31
            clear he30 a30
            refine lV (Value.agg #[Value.int .i64 q.l, Value.int .i64 q.c]) he31 rfl rfl (he31.want rfl rfl rfl rfl rfl) (rn_ldp [Value.int .i64 q.l, Value.int .i64 q.c] rfl (he31.op rfl) undZ rfl infoZ2 (hH16.at (i := 1) rfl) rfl) ?_
            intro a32 he32
            clear he31 a31
            refine lV (Value.agg #[Value.int .i64 r.l, Value.int .i64 r.c]) he32 rfl rfl (he32.want rfl rfl rfl rfl rfl) (rn_ldp [Value.int .i64 r.l, Value.int .i64 r.c] rfl (he32.op rfl) undZ rfl infoZ2 (hH16.at (i := 0) rfl) rfl) ?_
            intro a33 he33
            clear he32 a32
            refine lC he33 rfl rfl Tryd.func11 (by kernel_rfl) rfl rfl (he33.want rfl rfl rfl rfl rfl) rfl (Compare_c q r w16) ?_
            intro w34 a35 hn he35
            have hH34 := hH16.call hn
            clear he33 a33 hH16 hn
            by_cases hb5 : (cmpP q r) ≤ 0
            · skip
              refine lV (Value.bool true) he35 rfl rfl (he35.want rfl rfl rfl rfl rfl) (rn_leI rfl (he35.op rfl) (he35.op rfl) (decide_eq_true hb5) w34) ?_
              intro a36 he36
              clear he35 a35
              refine lV (Value.bool true) he36 rfl rfl (he36.want rfl rfl rfl rfl rfl) (rn_pk rfl (he36.op rfl) (he36.op rfl) w34) ?_
              intro a37 he37
              clear he36 a36
              refine lV (Value.bool true) he37 rfl rfl (he37.want rfl rfl rfl rfl rfl) (rn_mv rfl (he37.op rfl) w34) ?_
              intro a38 he38
              clear he37 a37
              refine lV (Value.agg #[Value.int .i64 p.l, Value.int .i64 p.c]) he38 rfl rfl (he38.want rfl rfl rfl rfl rfl) (rn_ldp [Value.int .i64 p.l, Value.int .i64 p.c] rfl (he38.op rfl) undZ rfl infoZ2 (hH34.at (i := 2) rfl) rfl) ?_
              intro a39 he39
              clear he38 a38
              refine lV (Value.agg #[Value.int .i64 r.l, Value.int .i64 r.c]) he39 rfl rfl (he39.want rfl rfl rfl rfl rfl) (rn_ldp [Value.int .i64 r.l, Value.int .i64 r.c] rfl (he39.op rfl) undZ rfl infoZ2 (hH34.at (i := 0) rfl) rfl) ?_
              intro a40 he40
              clear he39 a39
              refine lC he40 rfl rfl Tryd.func11 (by kernel_rfl) rfl rfl (he40.want rfl rfl rfl rfl rfl) rfl (Compare_c p r w34) ?_
              intro w41 a42 hn he42
              have hH41 := hH34.call hn
              clear he40 a40 hH34 hn
              by_cases hb6 : 0 < (cmpP p r)
              · skip
                refine lV (Value.bool true) he42 rfl rfl (he42.want rfl rfl rfl rfl rfl) (rn_gtI rfl (he42.op rfl) (he42.op rfl) (decide_eq_true hb6) w41) ?_
                intro a43 he43
                clear he42 a42
                refine lV (Value.bool true) he43 rfl rfl (he43.want rfl rfl rfl rfl rfl) (rn_pk rfl (he43.op rfl) (he43.op rfl) w41) ?_
                intro a44 he44
                clear he43 a43
                refine lV (Value.bool true) he44 rfl rfl (wanted_plain rfl _) (rn_pk0 rfl (he44.op rfl) (he44.op rfl) w41) ?_
                intro a45 he45
                clear he44 a44
                refine wpList_nil ?_
                refine then_ok ?_
                refine wp_cond_true (he45.op rfl) ?_
                refine wp_seq ?_
                refine wp_region_lit ?_
                refine lV (Value.bool false) he45 rfl rfl (wanted_plain rfl _) (rn_asg rfl (he45.op rfl) w41) ?_
                intro a46 he46
                clear he45 a45
                refine wpList_nil ?_
                refine then_ok ?_
                refine wp_ret ?_
                try simp only [Exit.then, Exit.inBlock, Exit.noGoto]
                omega
              · skip
                refine lV (Value.bool false) he42 rfl rfl (he42.want rfl rfl rfl rfl rfl) (rn_gtI rfl (he42.op rfl) (he42.op rfl) (decide_eq_false hb6) w41) ?_
                intro a43 he43
                clear he42 a42
                refine lV (Value.bool false) he43 rfl rfl (he43.want rfl rfl rfl rfl rfl) (rn_pk rfl (he43.op rfl) (he43.op rfl) w41) ?_
                intro a44 he44
                clear he43 a43
                refine lV (Value.bool false) he44 rfl rfl (wanted_plain rfl _) (rn_pk0 rfl (he44.op rfl) (he44.op rfl) w41) ?_
                intro a45 he45
                clear he44 a44
                refine wpList_nil ?_
                refine then_ok ?_
                refine wp_cond_false (he45.op rfl) ?_
                refine wp_skip ?_
                refine then_ok ?_
                exact ⟨he45.mem ⟨rfl, rfl, rfl, rfl, rfl, rfl, rfl, rfl, trivial⟩, hH41⟩
            · skip
              refine lV (Value.bool false) he35 rfl rfl (he35.want rfl rfl rfl rfl rfl) (rn_leI rfl (he35.op rfl) (he35.op rfl) (decide_eq_false hb5) w34) ?_
              intro a36 he36
              clear he35 a35
              refine lV (Value.bool false) he36 rfl rfl (he36.want rfl rfl rfl rfl rfl) (rn_pk rfl (he36.op rfl) (he36.op rfl) w34) ?_
              intro a37 he37
              clear he36 a36
              refine lV (Value.bool false) he37 rfl rfl (he37.want rfl rfl rfl rfl rfl) (rn_mv rfl (he37.op rfl) w34) ?_
              intro a38 he38
              clear he37 a37
              refine lSkip he38 rfl rfl (he38.wantNot rfl rfl rfl rfl rfl rfl) ?_
              intro a39 he39
              clear he38 a38
              refine lSkip he39 rfl rfl (he39.wantNot rfl rfl rfl rfl rfl rfl) ?_
              intro a40 he40
              clear he39 a39
              refine lSkip he40 rfl rfl (he40.wantNot rfl rfl rfl rfl rfl rfl) ?_
              intro a41 he41
              clear he40 a40
              refine lSkip he41 rfl rfl (he41.wantNot rfl rfl rfl rfl rfl rfl) ?_
              intro a42 he42
              clear he41 a41
              refine lV (Value.bool false) he42 rfl rfl (he42.want rfl rfl rfl rfl rfl) (rn_pk0 rfl (he42.op rfl) (he42.op rfl) w34) ?_
              intro a43 he43
              clear he42 a42
              refine lV (Value.bool false) he43 rfl rfl (wanted_plain rfl _) (rn_pk0 rfl (he43.op rfl) (he43.op rfl) w34) ?_
              intro a44 he44
              clear he43 a43
              refine wpList_nil ?_
              refine then_ok ?_
              refine wp_cond_false (he44.op rfl) ?_
              refine wp_skip ?_
              refine then_ok ?_
              exact ⟨he44.mem ⟨rfl, rfl, rfl, rfl, rfl, rfl, rfl, rfl, trivial⟩, hH34⟩
          · skip
            refine lV (Value.bool false) he29 rfl rfl (he29.want rfl rfl rfl rfl rfl) (rn_leI rfl (he29.op rfl) (he29.op rfl) (decide_eq_false hb4) w16) ?_
            intro a30 he30
            clear he29 a29
            refine lV (Value.bool false) he30 rfl rfl (he30.want rfl rfl rfl rfl rfl) (rn_mv rfl (he30.op rfl) w16) ?_
            intro a31 he31
            clear he30 a30
            refine lSkip he31 rfl rfl (he31.wantNot rfl rfl rfl rfl rfl rfl) ?_
            intro a32 he32
            clear he31 a31
            refine lSkip he32 rfl rfl (he32.wantNot rfl rfl rfl rfl rfl rfl) ?_
            intro a33 he33
            clear he32 a32
            refine lSkip he33 rfl rfl (he33.wantNot rfl rfl rfl rfl rfl rfl) ?_
            intro a34 he34
            clear he33 a33
            refine lSkip he34 rfl rfl (he34.wantNot rfl rfl rfl rfl rfl rfl) ?_
            intro a35 he35
            clear he34 a34
            refine lV (Value.bool false) he35 rfl rfl (he35.want rfl rfl rfl rfl rfl) (rn_pk0 rfl (he35.op rfl) (he35.op rfl) w16) ?_
            intro a36 he36
            clear he35 a35
            refine lV (Value.bool false) he36 rfl rfl (he36.want rfl rfl rfl rfl rfl) (rn_mv rfl (he36.op rfl) w16) ?_
            intro a37 he37
            clear he36 a36
            refine lSkip he37 rfl rfl (he37.wantNot rfl rfl rfl rfl rfl rfl) ?_
            intro a38 he38
            clear he37 a37
            refine lSkip he38 rfl rfl (he38.wantNot rfl rfl rfl rfl rfl rfl) ?_
            intro a39 he39
            clear he38 a38
            refine lSkip he39 rfl rfl (he39.wantNot rfl rfl rfl rfl rfl rfl) ?_
            intro a40 he40
            clear he39 a39
            refine lSkip he40 rfl rfl (he40.wantNot rfl rfl rfl rfl rfl rfl) ?_
            intro a41 he41
            clear he40 a40
            refine lV (Value.bool false) he41 rfl rfl (he41.want rfl rfl rfl rfl rfl) (rn_pk0 rfl (he41.op rfl) (he41.op rfl) w16) ?_
            intro a42 he42
            clear he41 a41
            refine lV (Value.bool false) he42 rfl rfl (wanted_plain rfl _) (rn_pk0 rfl (he42.op rfl) (he42.op rfl) w16) ?_
            intro a43 he43
            clear he42 a42
            refine wpList_nil ?_
            refine then_ok ?_
            refine wp_cond_false (he43.op rfl) ?_
            refine wp_skip ?_
            refine then_ok ?_
            exact ⟨he43.mem ⟨rfl, rfl, rfl, rfl, rfl, rfl, rfl, rfl, trivial⟩, hH16⟩
    · skip
      refine lV (Value.bool true) he18 rfl rfl (wanted_plain rfl _) (rn_neI rfl (he18.op rfl) (he18.op rfl) (bneF hb1) w16) ?_
      intro a19 he19
      clear he18 a18
      refine lV (Value.bool true) he19 rfl rfl (wanted_plain rfl _) (rn_mv rfl (he19.op rfl) w16) ?_
      intro a20 he20
      clear he19 a19
      refine lSkip he20 rfl rfl (he20.wantNot rfl rfl rfl rfl rfl rfl) ?_
      intro a21 he21
      clear he20 a20
      refine lSkip he21 rfl rfl (he21.wantNot rfl rfl rfl rfl rfl rfl) ?_
      intro a22 he22
      clear he21 a21
      refine lSkip he22 rfl rfl (he22.wantNot rfl rfl rfl rfl rfl rfl) ?_
      intro a23 he23
      clear he22 a22
      refine lSkip he23 rfl rfl (he23.wantNot rfl rfl rfl rfl rfl rfl) ?_
      intro a24 he24
      clear he23 a23
      refine lSkip he24 rfl rfl (he24.wantNot rfl rfl rfl rfl rfl rfl) ?_
      intro a25 he25
      clear he24 a24
      refine lSkip he25 rfl rfl (he25.wantNot rfl rfl rfl rfl rfl rfl) ?_
      intro a26 he26
      clear he25 a25
      refine lV (Value.bool true) he26 rfl rfl (wanted_plain rfl _) (rn_pk rfl (he26.op rfl) (he26.op rfl) w16) ?_
      intro a27 he27
      clear he26 a26
      refine lV (Value.bool true) he27 rfl rfl (wanted_plain rfl _) (rn_mv rfl (he27.op rfl) w16) ?_
      intro a28 he28
      clear he27 a27
      refine lSkip he28 rfl rfl (he28.wantNot rfl rfl rfl rfl rfl rfl) ?_
      intro a29 he29
      clear he28 a28
      refine lSkip he29 rfl rfl (he29.wantNot rfl rfl rfl rfl rfl rfl) ?_
      intro a30 he30
      clear he29 a29
      refine lSkip he30 rfl rfl (he30.wantNot rfl rfl rfl rfl rfl rfl) ?_
      intro a31 he31
      clear he30 a30
      refine lSkip he31 rfl rfl (he31.wantU rfl rfl rfl rfl rfl) ?_
      intro a32 he32
      clear he31 a31
      refine lSkip he32 rfl rfl (he32.wantU rfl rfl rfl rfl rfl) ?_
      intro a33 he33
      clear he32 a32
      refine lSkip he33 rfl rfl (he33.wantU rfl rfl rfl rfl rfl) ?_
      intro a34 he34
      clear he33 a33
      refine lSkip he34 rfl rfl (he34.wantU rfl rfl rfl rfl rfl) ?_
      intro a35 he35
      clear he34 a34
      refine lSkip he35 rfl rfl (he35.wantNot rfl rfl rfl rfl rfl rfl) ?_
      intro a36 he36
      clear he35 a35
      refine lSkip he36 rfl rfl (he36.wantNot rfl rfl rfl rfl rfl rfl) ?_
      intro a37 he37
      clear he36 a36
      refine lSkip he37 rfl rfl (he37.wantU rfl rfl rfl rfl rfl) ?_
      intro a38 he38
      clear he37 a37
      refine lSkip he38 rfl rfl (he38.wantU rfl rfl rfl rfl rfl) ?_
      intro a39 he39
      clear he38 a38
      refine lSkip he39 rfl rfl (he39.wantU rfl rfl rfl rfl rfl) ?_
      intro a40 he40
      clear he39 a39
      refine lSkip he40 rfl rfl (he40.wantU rfl rfl rfl rfl rfl) ?_
      intro a41 he41
      clear he40 a40
      refine lSkip he41 rfl rfl (he41.wantNot rfl rfl rfl rfl rfl rfl) ?_
      intro a42 he42
      clear he41 a41
      refine lV (Value.bool true) he42 rfl rfl (wanted_plain rfl _) (rn_pk rfl (he42.op rfl) (he42.op rfl) w16) ?_
      intro a43 he43
      clear he42 a42
      refine wpList_nil ?_
      refine then_ok ?_
      refine wp_cond_true (he43.op rfl) ?_
      refine wp_seq ?_
      refine wp_region_lit ?_
      refine lV (Value.bool false) he43 rfl rfl (wanted_plain rfl _) (rn_asg rfl (he43.op rfl) w16) ?_
      intro a44 he44
      clear he43 a43
      refine wpList_nil ?_
      refine then_ok ?_
      refine wp_ret ?_
      try simp only [Exit.then, Exit.inBlock, Exit.noGoto]
      omega
  · skip
    clear hH10 he12
    rintro a13 w13 ⟨he13, hH13⟩
    refine wp_seq ?_
    refine reg_cut (fun a w' => Env 233 [(17, Value.int .i64 (cmpP p q)), (9, Value.pointer (some ⟨p3, 0, none⟩)), (8, Value.pointer (some ⟨p1, 0, none⟩)), (3, Value.int .i64 n), (4, Value.int .i64 m), (5, Value.int .i64 ff), (6, Value.int .i64 nn), (7, Value.int .i64 cc)] a ∧ Hp w [⟨p5, 23, #[Value.int .i64 r.l, Value.int .i64 r.c]⟩, ⟨p3, 23, #[Value.int .i64 q.l, Value.int .i64 q.c]⟩, ⟨p1, 23, #[Value.int .i64 p.l, Value.int .i64 p.c]⟩] w') ?_ ?_
    · skip
      refine wp_seq ?_
      refine wp_region_lit ?_
      refine lV (Value.agg #[Value.int .i64 p.l, Value.int .i64 p.c]) he13 rfl rfl (wanted_plain rfl _) (rn_ldp [Value.int .i64 p.l, Value.int .i64 p.c] rfl (he13.op rfl) undZ rfl infoZ2 (hH13.at (i := 2) rfl) rfl) ?_
      intro a14 he14
      clear he13 a13
      refine lV (Value.agg #[Value.int .i64 q.l, Value.int .i64 q.c]) he14 rfl rfl (wanted_plain rfl _) (rn_ldp [Value.int .i64 q.l, Value.int .i64 q.c] rfl (he14.op rfl) undZ rfl infoZ2 (hH13.at (i := 1) rfl) rfl) ?_
      intro a15 he15
      clear he14 a14
      refine lV (Value.int .i64 cc) he15 rfl rfl (wanted_plain rfl _) (rn_mv rfl (he15.op rfl) w13) ?_
      intro a16 he16
      clear he15 a15
      by_cases hb2 : colP cc ∧ inP p cc ∧ inP q cc
      · skip
        refine lC he16 rfl rfl Tryd.func21 (by kernel_rfl) rfl rfl (wanted_plain rfl _) rfl (Distance_c p q cc ((q.l * cc + q.c) - (p.l * cc + p.c)) 0 (if_pos hb2) w13) ?_
        intro w17 a18 hn he18
        have hH17 := hH13.call hn
        clear he16 a16 hH13 hn
        refine lV (Value.tuple #[Value.int .i64 ((q.l * cc + q.c) - (p.l * cc + p.c)), Value.int .i64 0]) he18 rfl rfl (wanted_plain rfl _) (rn_mv rfl (he18.op rfl) w17) ?_
        intro a19 he19
        clear he18 a18
        refine lV (Value.int .i64 ((q.l * cc + q.c) - (p.l * cc + p.c))) he19 rfl rfl (wanted_plain rfl _) (rn_ext rfl (he19.op rfl) rfl w17) ?_
        intro a20 he20
        clear he19 a19
        refine lV (Value.int .i64 0) he20 rfl rfl (wanted_plain rfl _) (rn_ext rfl (he20.op rfl) rfl w17) ?_
        intro a21 he21
        clear he20 a20
        refine lV (Value.int .i64 ((q.l * cc + q.c) - (p.l * cc + p.c))) he21 rfl rfl (wanted_plain rfl _) (rn_asg rfl (he21.op rfl) w17) ?_
        intro a22 he22
        clear he21 a21
        refine lV (Value.int .i64 0) he22 rfl rfl (wanted_plain rfl _) (rn_asg rfl (he22.op rfl) w17) ?_
        intro a23 he23
        clear he22 a22
        refine wpList_nil ?_
        refine then_ok ?_
        refine wp_seq ?_
        have k0 := cmp_cases p q
        have k5 := dist_sign hb2.1 hb2.2.1 hb2.2.2
        refine wp_region_lit ?_
        refine lV (Value.int .i64 0) he23 rfl rfl (wanted_plain rfl _) (rn_mv rfl (he23.op rfl) w17) ?_
        intro a24 he24
        clear he23 a23
        refine lV (Value.bool true) he24 rfl rfl (wanted_plain rfl _) (rn_eqE rfl (he24.op rfl) (he24.op rfl) (by decide) w17) ?_
        intro a25 he25
        clear he24 a24
        refine lV (Value.bool true) he25 rfl rfl (wanted_plain rfl _) (rn_mv rfl (he25.op rfl) w17) ?_
        intro a26 he26
        clear he25 a25
        refine lV (Value.agg #[Value.int .i64 p.l, Value.int .i64 p.c]) he26 rfl rfl (he26.want rfl rfl rfl rfl rfl) (rn_ldp [Value.int .i64 p.l, Value.int .i64 p.c] rfl (he26.op rfl) undZ rfl infoZ2 (hH17.at (i := 2) rfl) rfl) ?_
        intro a27 he27
        clear he26 a26
        refine lV (Value.int .i64 ((q.l * cc + q.c) - (p.l * cc + p.c))) he27 rfl rfl (he27.want rfl rfl rfl rfl rfl) (rn_mv rfl (he27.op rfl) w17) ?_
        intro a28 he28
        clear he27 a27
        refine lV (Value.int .i64 cc) he28 rfl rfl (he28.want rfl rfl rfl rfl rfl) (rn_mv rfl (he28.op rfl) w17) ?_
        intro a29 he29
        clear he28 a28
        refine lV (Value.agg #[Value.int .i64 q.l, Value.int .i64 q.c]) he29 rfl rfl (he29.want rfl rfl rfl rfl rfl) (rn_ldp [Value.int .i64 q.l, Value.int .i64 q.c] rfl (he29.op rfl) undZ rfl infoZ2 (hH17.at (i := 1) rfl) rfl) ?_
        intro a30 he30
        clear he29 a29
        refine lC he30 rfl rfl Tryd.func18 (by kernel_rfl) rfl rfl (he30.want rfl rfl rfl rfl rfl) rfl (steps_c p ((q.l * cc + q.c) - (p.l * cc + p.c)) cc (dist_I64 hb2.1 hb2.2.1 hb2.2.2) q 0 true (decide_eq_true (step_dist hb2.1 hb2.2.1 hb2.2.2)) w17) ?_
        intro w31 a32 hn he32
        have hH31 := hH17.call hn
        clear he30 a30 hH17 hn
        refine lV (Value.bool false) he32 rfl rfl (he32.want rfl rfl rfl rfl rfl) (rn_not (b := true) rfl (he32.op rfl) w31) ?_
        intro a33 he33
        clear he32 a32
        refine lV (Value.bool false) he33 rfl rfl (he33.want rfl rfl rfl rfl rfl) (rn_mv rfl (he33.op rfl) w31) ?_
        intro a34 he34
        clear he33 a33
        refine lV (Value.int .i64 ((q.l * cc + q.c) - (p.l * cc + p.c))) he34 rfl rfl (he34.want rfl rfl rfl rfl rfl) (rn_mv rfl (he34.op rfl) w31) ?_
        intro a35 he35
        clear he34 a34
        by_cases hb3 : 0 < ((q.l * cc + q.c) - (p.l * cc + p.c))
        · skip
          refine lV (Value.bool true) he35 rfl rfl (he35.want rfl rfl rfl rfl rfl) (rn_gtI rfl (he35.op rfl) (he35.op rfl) (decide_eq_true hb3) w31) ?_
          intro a36 he36
          clear he35 a35
          refine lV (Value.int .i64 (cmpP p q)) he36 rfl rfl (he36.want rfl rfl rfl rfl rfl) (rn_mv rfl (he36.op rfl) w31) ?_
          intro a37 he37
          clear he36 a36
          by_cases hb4 : (cmpP p q) < 0
          · skip
            refine lV (Value.bool true) he37 rfl rfl (he37.want rfl rfl rfl rfl rfl) (rn_lsI rfl (he37.op rfl) (he37.op rfl) (decide_eq_true hb4) w31) ?_
            intro a38 he38
            clear he37 a37
            refine lV (Value.bool false) he38 rfl rfl (he38.want rfl rfl rfl rfl rfl) (rn_neB (i := true) (j := true) rfl (he38.op rfl) (he38.op rfl) rfl w31) ?_
            intro a39 he39
            clear he38 a38
            refine lV (Value.bool false) he39 rfl rfl (he39.want rfl rfl rfl rfl rfl) (rn_pk0 rfl (he39.op rfl) (he39.op rfl) w31) ?_
            intro a40 he40
            clear he39 a39
            refine lV (Value.bool false) he40 rfl rfl (he40.want rfl rfl rfl rfl rfl) (rn_mv rfl (he40.op rfl) w31) ?_
            intro a41 he41
            clear he40 a40
            refine lV (Value.int .i64 ((q.l * cc + q.c) - (p.l * cc + p.c))) he41 rfl rfl (he41.want rfl rfl rfl rfl rfl) (rn_mv rfl (he41.op rfl) w31) ?_
            intro a42 he42
            clear he41 a41
            by_cases hb5 : ((q.l * cc + q.c) - (p.l * cc + p.c)) = 0
            · skip
              refine lV (Value.bool true) he42 rfl rfl (he42.want rfl rfl rfl rfl rfl) (rn_eqI rfl (he42.op rfl) (he42.op rfl) (beqT hb5) w31) ?_
              intro a43 he43
              clear he42 a42
              refine lV (Value.int .i64 (cmpP p q)) he43 rfl rfl (he43.want rfl rfl rfl rfl rfl) (rn_mv rfl (he43.op rfl) w31) ?_
              intro a44 he44
              clear he43 a43
              by_cases hb6 : (cmpP p q) = 0
              · skip
                refine lV (Value.bool true) he44 rfl rfl (he44.want rfl rfl rfl rfl rfl) (rn_eqI rfl (he44.op rfl) (he44.op rfl) (beqT hb6) w31) ?_
                intro a45 he45
                clear he44 a44
                refine lV (Value.bool false) he45 rfl rfl (he45.want rfl rfl rfl rfl rfl) (rn_neB (i := true) (j := true) rfl (he45.op rfl) (he45.op rfl) rfl w31) ?_
                intro a46 he46
                clear he45 a45
                refine lV (Value.bool false) he46 rfl rfl (he46.want rfl rfl rfl rfl rfl) (rn_pk0 rfl (he46.op rfl) (he46.op rfl) w31) ?_
                intro a47 he47
                clear he46 a46
                refine lV (Value.bool false) he47 rfl rfl (wanted_plain rfl _) (rn_pk rfl (he47.op rfl) (he47.op rfl) w31) ?_
                intro a48 he48
                clear he47 a47
                refine wpList_nil ?_
                refine then_ok ?_
                refine wp_cond_false (he48.op rfl) ?_
                refine wp_skip ?_
                refine then_ok ?_
                exact ⟨he48.mem ⟨rfl, rfl, rfl, rfl, rfl, rfl, rfl, rfl, trivial⟩, hH31⟩
              · skip
                refine lV (Value.bool false) he44 rfl rfl (he44.want rfl rfl rfl rfl rfl) (rn_eqI rfl (he44.op rfl) (he44.op rfl) (beqF hb6) w31) ?_
                intro a45 he45
                clear he44 a44
                refine lV (Value.bool true) he45 rfl rfl (he45.want rfl rfl rfl rfl rfl) (rn_neB (i := true) (j := false) rfl (he45.op rfl) (he45.op rfl) rfl w31) ?_
                intro a46 he46
                clear he45 a45
                refine lV (Value.bool true) he46 rfl rfl (he46.want rfl rfl rfl rfl rfl) (rn_pk0 rfl (he46.op rfl) (he46.op rfl) w31) ?_
                intro a47 he47
                clear he46 a46
                refine lV (Value.bool true) he47 rfl rfl (wanted_plain rfl _) (rn_pk rfl (he47.op rfl) (he47.op rfl) w31) ?_
                intro a48 he48
                clear he47 a47
                refine wpList_nil ?_
                refine then_ok ?_
                refine wp_cond_true (he48.op rfl) ?_
                refine wp_seq ?_
                refine wp_region_lit ?_
                refine lV (Value.bool false) he48 rfl rfl (wanted_plain rfl _) (rn_asg rfl (he48.op rfl) w31) ?_
                intro a49 he49
                clear he48 a48
                refine wpList_nil ?_
                refine then_ok ?_
                refine wp_ret ?_
                try simp only [Exit.then, Exit.inBlock, Exit.noGoto]
                omega
            · skip
              refine lV (Value.bool false) he42 rfl rfl (he42.want rfl rfl rfl rfl rfl) (rn_eqI rfl (he42.op rfl) (he42.op rfl) (beqF hb5) w31) ?_
              intro a43 he43
              clear he42 a42
              refine lV (Value.int .i64 (cmpP p q)) he43 rfl rfl (he43.want rfl rfl rfl rfl rfl) (rn_mv rfl (he43.op rfl) w31) ?_
              intro a44 he44
              clear he43 a43
              by_cases hb6 : (cmpP p q) = 0
              · skip
                refine lV (Value.bool true) he44 rfl rfl (he44.want rfl rfl rfl rfl rfl) (rn_eqI rfl (he44.op rfl) (he44.op rfl) (beqT hb6) w31) ?_
                intro a45 he45
                clear he44 a44
                refine lV (Value.bool true) he45 rfl rfl (he45.want rfl rfl rfl rfl rfl) (rn_neB (i := false) (j := true) rfl (he45.op rfl) (he45.op rfl) rfl w31) ?_
                intro a46 he46
                clear he45 a45
                refine lV (Value.bool true) he46 rfl rfl (he46.want rfl rfl rfl rfl rfl) (rn_pk0 rfl (he46.op rfl) (he46.op rfl) w31) ?_
                intro a47 he47
                clear he46 a46
                refine lV (Value.bool true) he47 rfl rfl (wanted_plain rfl _) (rn_pk rfl (he47.op rfl) (he47.op rfl) w31) ?_
                intro a48 he48
                clear he47 a47
                refine wpList_nil ?_
                refine then_ok ?_
                refine wp_cond_true (he48.op rfl) ?_
                refine wp_seq ?_
                refine wp_region_lit ?_
                refine lV (Value.bool false) he48 rfl rfl (wanted_plain rfl _) (rn_asg rfl (he48.op rfl) w31) ?_
                intro a49 he49
                clear he48 a48
                refine wpList_nil ?_
                refine then_ok ?_
                refine wp_ret ?_
                try simp only [Exit.then, Exit.inBlock, Exit.noGoto]
                omega
              · skip
                refine lV (Value.bool false) he44 rfl rfl (he44.want rfl rfl rfl rfl rfl) (rn_eqI rfl (he44.op rfl) (he44.op rfl) (beqF hb6) w31) ?_
                intro a45 he45
                clear he44 a44
                refine lV (Value.bool false) he45 rfl rfl (he45.want rfl rfl rfl rfl rfl) (rn_neB (i := false) (j := false) rfl (he45.op rfl) (he45.op rfl) rfl w31) ?_
                intro a46 he46
                clear he45 a45
                refine lV (Value.bool false) he46 rfl rfl (he46.want rfl rfl rfl rfl rfl) (rn_pk0 rfl (he46.op rfl) (he46.op rfl) w31) ?_
                intro a47 he47
                clear he46 a46
                refine lV (Value.bool false) he47 rfl rfl (wanted_plain rfl _) (rn_pk rfl (he47.op rfl) (he47.op rfl) w31) ?_
                intro a48 he48
                clear he47 a47
                refine wpList_nil ?_
                refine then_ok ?_
                refine wp_cond_false (he48.op rfl) ?_
                refine wp_skip ?_
                refine then_ok ?_
                exact ⟨he48.mem ⟨rfl, rfl, rfl, rfl, rfl, rfl, rfl, rfl, trivial⟩, hH31⟩
          · skip
            refine lV (Value.bool false) he37 rfl rfl (he37.want rfl rfl rfl rfl rfl) (rn_lsI rfl (he37.op rfl) (he37.op rfl) (decide_eq_false hb4) w31) ?_
            intro a38 he38
            clear he37 a37
            refine lV (Value.bool true) he38 rfl rfl (he38.want rfl rfl rfl rfl rfl) (rn_neB (i := true) (j := false) rfl (he38.op rfl) (he38.op rfl) rfl w31) ?_
            intro a39 he39
            clear he38 a38
            refine lV (Value.bool true) he39 rfl rfl (he39.want rfl rfl rfl rfl rfl) (rn_pk0 rfl (he39.op rfl) (he39.op rfl) w31) ?_
            intro a40 he40
            clear he39 a39
            refine lV (Value.bool true) he40 rfl rfl (he40.want rfl rfl rfl rfl rfl) (rn_mv rfl (he40.op rfl) w31) ?_
            intro a41 he41
            clear he40 a40
            refine lSkip he41 rfl rfl (he41.wantNot rfl rfl rfl rfl rfl rfl) ?_
            intro a42 he42
            clear he41 a41
            refine lSkip he42 rfl rfl (he42.wantNot rfl rfl rfl rfl rfl rfl) ?_
            intro a43 he43
            clear he42 a42
            refine lSkip he43 rfl rfl (he43.wantNot rfl rfl rfl rfl rfl rfl) ?_
            intro a44 he44
            clear he43 a43
            refine lSkip he44 rfl rfl (he44.wantNot rfl rfl rfl rfl rfl rfl) ?_
            intro a45 he45
            clear he44 a44
            refine lSkip he45 rfl rfl (he45.wantNot rfl rfl rfl rfl rfl rfl) ?_
            intro a46 he46
            clear he45 a45
            refine lV (Value.bool true) he46 rfl rfl (he46.want rfl rfl rfl rfl rfl) (rn_pk rfl (he46.op rfl) (he46.op rfl) w31) ?_
            intro a47 he47
            clear he46 a46
            refine lV (Value.bool true) he47 rfl rfl (wanted_plain rfl _) (rn_pk rfl (he47.op rfl) (he47.op rfl) w31) ?_
            intro a48 he48
            clear he47 a47
            refine wpList_nil ?_
            refine then_ok ?_
            refine wp_cond_true (he48.op rfl) ?_
            refine wp_seq ?_
            refine wp_region_lit ?_
            refine lV (Value.bool false) he48 rfl rfl (wanted_plain rfl _) (rn_asg rfl (he48.op rfl) w31) ?_
            intro a49 he49
            clear he48 a48
            refine wpList_nil ?_
            refine then_ok ?_
            refine wp_ret ?_
            try simp only [Exit.then, Exit.inBlock, Exit.noGoto]
            omega
        · skip
          refine lV (Value.bool false) he35 rfl rfl (he35.want rfl rfl rfl rfl rfl) (rn_gtI rfl (he35.op rfl) (he35.op rfl) (decide_eq_false hb3) w31) ?_
          intro a36 he36
          clear he35 a35
          refine lV (Value.int .i64 (cmpP p q)) he36 rfl rfl (he36.want rfl rfl rfl rfl rfl) (rn_mv rfl (he36.op rfl) w31) ?_
          intro a37 he37
          clear he36 a36
          by_cases hb4 : (cmpP p q) < 0
          · skip
            refine lV (Value.bool true) he37 rfl rfl (he37.want rfl rfl rfl rfl rfl) (rn_lsI rfl (he37.op rfl) (he37.op rfl) (decide_eq_true hb4) w31) ?_
            intro a38 he38
            clear he37 a37
            refine lV (Value.bool true) he38 rfl rfl (he38.want rfl rfl rfl rfl rfl) (rn_neB (i := false) (j := true) rfl (he38.op rfl) (he38.op rfl) rfl w31) ?_
            intro a39 he39
            clear he38 a38
            refine lV (Value.bool true) he39 rfl rfl (he39.want rfl rfl rfl rfl rfl) (rn_pk0 rfl (he39.op rfl) (he39.op rfl) w31) ?_
            intro a40 he40
            clear he39 a39
            refine lV (Value.bool true) he40 rfl rfl (he40.want rfl rfl rfl rfl rfl) (rn_mv rfl (he40.op rfl) w31) ?_
            intro a41 he41
            clear he40 a40
            refine lSkip he41 rfl rfl (he41.wantNot rfl rfl rfl rfl rfl rfl) ?_
            intro a42 he42
            clear he41 a41
            refine lSkip he42 rfl rfl (he42.wantNot rfl rfl rfl rfl rfl rfl) ?_
            intro a43 he43
            clear he42 a42
            refine lSkip he43 rfl rfl (he43.wantNot rfl rfl rfl rfl rfl rfl) ?_
            intro a44 he44
            clear he43 a43
            refine lSkip he44 rfl rfl (he44.wantNot rfl rfl rfl rfl rfl rfl) ?_
            intro a45 he45
            clear he44 a44
            refine lSkip he45 rfl rfl (he45.wantNot rfl rfl rfl rfl rfl rfl) ?_
            intro a46 he46
            clear he45 a45
            refine lV (Value.bool true) he46 rfl rfl (he46.want rfl rfl rfl rfl rfl) (rn_pk rfl (he46.op rfl) (he46.op rfl) w31) ?_
            intro a47 he47
            clear he46 a46
            refine lV (Value.bool true) he47 rfl rfl (wanted_plain rfl _) (rn_pk rfl (he47.op rfl) (he47.op rfl) w31) ?_
            intro a48 he48
            clear he47 a47
            refine wpList_nil ?_
            refine then_ok ?_
            refine wp_cond_true (he48.op rfl) ?_
            refine wp_seq ?_
            refine wp_region_lit ?_
            refine lV (Value.bool false) he48 rfl rfl (wanted_plain rfl _) (rn_asg rfl (he48.op rfl) w31) ?_
            intro a49 he49
            clear he48 a48
            refine wpList_nil ?_
            refine then_ok ?_
            refine wp_ret ?_
            try simp only [Exit.then, Exit.inBlock, Exit.noGoto]
            omega
          · skip
            refine lV (Value.bool false) he37 rfl rfl (he37.want rfl rfl rfl rfl rfl) (rn_lsI rfl (he37.op rfl) (he37.op rfl) (decide_eq_false hb4) w31) ?_
            intro a38 he38
            clear he37 a37
            refine lV (Value.bool false) he38 rfl rfl (he38.want rfl rfl rfl rfl rfl) (rn_neB (i := false) (j := false) rfl (he38.op rfl) (he38.op rfl) rfl w31) ?_
            intro a39 he39
            clear he38 a38
            refine lV (Value.bool false) he39 rfl rfl (he39.want rfl rfl rfl rfl rfl) (rn_pk0 rfl (he39.op rfl) (he39.op rfl) w31) ?_
            intro a40 he40
            clear he39 a39
            refine lV (Value.bool false) he40 rfl rfl (he40.want rfl rfl rfl rfl rfl) (rn_mv rfl (he40.op rfl) w31) ?_
            intro a41 he41
            clear he40 a40
            refine lV (Value.int .i64 ((q.l * cc + q.c) - (p.l * cc + p.c))) he41 rfl rfl (he41.want rfl rfl rfl rfl rfl) (rn_mv rfl (he41.op rfl) w31) ?_
            intro a42 he42
            clear he41 a41
            by_cases hb5 : ((q.l * cc + q.c) - (p.l * cc + p.c)) = 0
            · skip
              refine lV (Value.bool true) he42 rfl rfl (he42.want rfl rfl rfl rfl rfl) (rn_eqI rfl (he42.op rfl) (he42.op rfl) (beqT hb5) w31) ?_
              intro a43 he43
              clear he42 a42
              refine lV (Value.int .i64 (cmpP p q)) he43 rfl rfl (he43.want rfl rfl rfl rfl rfl) (rn_mv rfl (he43.op rfl) w31) ?_
              intro a44 he44
              clear he43 a43
              by_cases hb6 : (cmpP p q) = 0
              · skip
                refine lV (Value.bool true) he44 rfl rfl (he44.want rfl rfl rfl rfl rfl) (rn_eqI rfl (he44.op rfl) (he44.op rfl) (beqT hb6) w31) ?_
                intro a45 he45
                clear he44 a44
                refine lV (Value.bool false) he45 rfl rfl (he45.want rfl rfl rfl rfl rfl) (rn_neB (i := true) (j := true) rfl (he45.op rfl) (he45.op rfl) rfl w31) ?_
                intro a46 he46
                clear he45 a45
                refine lV (Value.bool false) he46 rfl rfl (he46.want rfl rfl rfl rfl rfl) (rn_pk0 rfl (he46.op rfl) (he46.op rfl) w31) ?_
                intro a47 he47
                clear he46 a46
                refine lV (Value.bool false) he47 rfl rfl (wanted_plain rfl _) (rn_pk rfl (he47.op rfl) (he47.op rfl) w31) ?_
                intro a48 he48
                clear he47 a47
                refine wpList_nil ?_
                refine then_ok ?_
                refine wp_cond_false (he48.op rfl) ?_
                refine wp_skip ?_
                refine then_ok ?_
                exact ⟨he48.mem ⟨rfl, rfl, rfl, rfl, rfl, rfl, rfl, rfl, trivial⟩, hH31⟩
              · skip
                refine lV (Value.bool false) he44 rfl rfl (he44.want rfl rfl rfl rfl rfl) (rn_eqI rfl (he44.op rfl) (he44.op rfl) (beqF hb6) w31) ?_
                intro a45 he45
                clear he44 a44
                refine lV (Value.bool true) he45 rfl rfl (he45.want rfl rfl rfl rfl rfl) (rn_neB (i := true) (j := false) rfl (he45.op rfl) (he45.op rfl) rfl w31) ?_
                intro a46 he46
                clear he45 a45
                refine lV (Value.bool true) he46 rfl rfl (he46.want rfl rfl rfl rfl rfl) (rn_pk0 rfl (he46.op rfl) (he46.op rfl) w31) ?_
                intro a47 he47
                clear he46 a46
                refine lV (Value.bool true) he47 rfl rfl (wanted_plain rfl _) (rn_pk rfl (he47.op rfl) (he47.op rfl) w31) ?_
                intro a48 he48
                clear he47 a47
                refine wpList_nil ?_
                refine then_ok ?_
                refine wp_cond_true (he48.op rfl) ?_
                refine wp_seq ?_
                refine wp_region_lit ?_
                refine lV (Value.bool false) he48 rfl rfl (wanted_plain rfl _) (rn_asg rfl (he48.op rfl) w31) ?_
                intro a49 he49
                clear he48 a48
                refine wpList_nil ?_
                refine then_ok ?_
                refine wp_ret ?_
                try simp only [Exit.then, Exit.inBlock, Exit.noGoto]
                omega
            · skip
              refine lV (Value.bool false) he42 rfl rfl (he42.want rfl rfl rfl rfl rfl) (rn_eqI rfl (he42.op rfl) (he42.op rfl) (beqF hb5) w31) ?_
              intro a43 he43
              clear he42 a42
              refine lV (Value.int .i64 (cmpP p q)) he43 rfl rfl (he43.want rfl rfl rfl rfl rfl) (rn_mv rfl (he43.op rfl) w31) ?_
              intro a44 he44
              clear he43 a43
              by_cases hb6 : (cmpP p q) = 0
              · skip
                refine lV (Value.bool true) he44 rfl rfl (he44.want rfl rfl rfl rfl rfl) (rn_eqI rfl (he44.op rfl) (he44.op rfl) (beqT hb6) w31) ?_
                intro a45 he45
                clear he44 a44
                refine lV (Value.bool true) he45 rfl rfl (he45.want rfl rfl rfl rfl rfl) (rn_neB (i := false) (j := true) rfl (he45.op rfl) (he45.op rfl) rfl w31) ?_
                intro a46 he46
                clear he45 a45
                refine lV (Value.bool true) he46 rfl rfl (he46.want rfl rfl rfl rfl rfl) (rn_pk0 rfl (he46.op rfl) (he46.op rfl) w31) ?_
                intro a47 he47
                clear he46 a46
                refine lV (Value.bool true) he47 rfl rfl (wanted_plain rfl _) (rn_pk rfl (he47.op rfl) (he47.op rfl) w31) ?_
                intro a48 he48
                clear he47 a47
                refine wpList_nil ?_
                refine then_ok ?_
                refine wp_cond_true (he48.op rfl) ?_
                refine wp_seq ?_
                refine wp_region_lit ?_
                refine lV (Value.bool false) he48 rfl rfl (wanted_plain rfl _) (rn_asg rfl (he48.op rfl) w31) ?_
                intro a49 he49
                clear he48 a48
                refine wpList_nil ?_
                refine then_ok ?_
                refine wp_ret ?_
                try simp only [Exit.then, Exit.inBlock, Exit.noGoto]
                omega
              · skip
                refine lV (Value.bool false) he44 rfl rfl (he44.want rfl rfl rfl rfl rfl) (rn_eqI rfl (he44.op rfl) (he44.op rfl) (beqF hb6) w31) ?_
                intro a45 he45
                clear he44 a44
                refine lV (Value.bool false) he45 rfl rfl (he45.want rfl rfl rfl rfl rfl) (rn_neB (i := false) (j := false) rfl (he45.op rfl) (he45.op rfl) rfl w31) ?_
                intro a46 he46
                clear he45 a45
                refine lV (Value.bool false) he46 rfl rfl (he46.want rfl rfl rfl rfl rfl) (rn_pk0 rfl (he46.op rfl) (he46.op rfl) w31) ?_
                intro a47 he47
                clear he46 a46
                refine lV (Value.bool false) he47 rfl rfl (wanted_plain rfl _) (rn_pk rfl (he47.op rfl) (he47.op rfl) w31) ?_
                intro a48 he48
                clear he47 a47
                refine wpList_nil ?_
                refine then_ok ?_
                refine wp_cond_false (he48.op rfl) ?_
                refine wp_skip ?_
                refine then_ok ?_
                exact ⟨he48.mem ⟨rfl, rfl, rfl, rfl, rfl, rfl, rfl, rfl, trivial⟩, hH31⟩
      · skip
        refine lC he16 rfl rfl Tryd.func21 (by kernel_rfl) rfl rfl (wanted_plain rfl _) rfl (Distance_c p q cc 0 2 (if_neg hb2) w13) ?_
        intro w17 a18 hn he18
        have hH17 := hH13.call hn
        clear he16 a16 hH13 hn
        refine lV (Value.tuple #[Value.int .i64 0, Value.int .i64 2]) he18 rfl rfl (wanted_plain rfl _) (rn_mv rfl (he18.op rfl) w17) ?_
        intro a19 he19
        clear he18 a18
        refine lV (Value.int .i64 0) he19 rfl rfl (wanted_plain rfl _) (rn_ext rfl (he19.op rfl) rfl w17) ?_
        intro a20 he20
        clear he19 a19
        refine lV (Value.int .i64 2) he20 rfl rfl (wanted_plain rfl _) (rn_ext rfl (he20.op rfl) rfl w17) ?_
        intro a21 he21
        clear he20 a20
        refine lV (Value.int .i64 0) he21 rfl rfl (wanted_plain rfl _) (rn_asg rfl (he21.op rfl) w17) ?_
        intro a22 he22
        clear he21 a21
        refine lV (Value.int .i64 2) he22 rfl rfl (wanted_plain rfl _) (rn_asg rfl (he22.op rfl) w17) ?_
        intro a23 he23
        clear he22 a22
        refine wpList_nil ?_
        refine then_ok ?_
        refine wp_seq ?_
        have k0 := cmp_cases p q
        refine wp_region_lit ?_
        refine lV (Value.int .i64 2) he23 rfl rfl (wanted_plain rfl _) (rn_mv rfl (he23.op rfl) w17) ?_
        intro a24 he24
        clear he23 a23
        refine lV (Value.bool false) he24 rfl rfl (wanted_plain rfl _) (rn_eqE rfl (he24.op rfl) (he24.op rfl) (by decide) w17) ?_
        intro a25 he25
        clear he24 a24
        refine lV (Value.bool false) he25 rfl rfl (wanted_plain rfl _) (rn_mv rfl (he25.op rfl) w17) ?_
        intro a26 he26
        clear he25 a25
        refine lSkip he26 rfl rfl (he26.wantNot rfl rfl rfl rfl rfl rfl) ?_
        intro a27 he27
        clear he26 a26
        refine lSkip he27 rfl rfl (he27.wantNot rfl rfl rfl rfl rfl rfl) ?_
        intro a28 he28
        clear he27 a27
        refine lSkip he28 rfl rfl (he28.wantNot rfl rfl rfl rfl rfl rfl) ?_
        intro a29 he29
        clear he28 a28
        refine lSkip he29 rfl rfl (he29.wantNot rfl rfl rfl rfl rfl rfl) ?_
        intro a30 he30
        clear he29 a29
        refine lSkip he30 rfl rfl (he30.wantNot rfl rfl rfl rfl rfl rfl) ?_
        intro a31 he31
        clear he30 a30
        refine lSkip he31 rfl rfl (he31.wantNot rfl rfl rfl rfl rfl rfl) ?_
        intro a32 he32
        clear he31 a31
        refine lSkip he32 rfl rfl (he32.wantNot rfl rfl rfl rfl rfl rfl) ?_
        intro a33 he33
        clear he32 a32
        refine lSkip he33 rfl rfl (he33.wantU rfl rfl rfl rfl rfl) ?_
        intro a34 he34
        clear he33 a33
        refine lSkip he34 rfl rfl (he34.wantU rfl rfl rfl rfl rfl) ?_
        intro a35 he35
        clear he34 a34
        refine lSkip he35 rfl rfl (he35.wantU rfl rfl rfl rfl rfl) ?_
        intro a36 he36
        clear he35 a35
        refine lSkip he36 rfl rfl (he36.wantU rfl rfl rfl rfl rfl) ?_
        intro a37 he37
        clear he36 a36
        refine lSkip he37 rfl rfl (he37.wantU rfl rfl rfl rfl rfl) ?_
        intro a38 he38
        clear he37 a37
        refine lSkip he38 rfl rfl (he38.wantNot rfl rfl rfl rfl rfl rfl) ?_
        intro a39 he39
        clear he38 a38
        refine lSkip he39 rfl rfl (he39.wantNot rfl rfl rfl rfl rfl rfl) ?_
        intro a40 he40
        clear he39 a39
        refine lSkip he40 rfl rfl (he40.wantU rfl rfl rfl rfl rfl) ?_
        intro a41 he41
        clear he40 a40
        refine lSkip he41 rfl rfl (he41.wantU rfl rfl rfl rfl rfl) ?_
        intro a42 he42
        clear he41 a41
        refine lSkip he42 rfl rfl (he42.wantU rfl rfl rfl rfl rfl) ?_
        intro a43 he43
        clear he42 a42
        refine lSkip he43 rfl rfl (he43.wantU rfl rfl rfl rfl rfl) ?_
        intro a44 he44
        clear he43 a43
        refine lSkip he44 rfl rfl (he44.wantU rfl rfl rfl rfl rfl) ?_
        intro a45 he45
        clear he44 a44
        refine lSkip he45 rfl rfl (he45.wantNot rfl rfl rfl rfl rfl rfl) ?_
        intro a46 he46
        clear he45 a45
        refine lV (Value.bool false) he46 rfl rfl (wanted_plain rfl _) (rn_pk0 rfl (he46.op rfl) (he46.op rfl) w17) ?_
        intro a47 he47
        clear he46 a46
        refine wpList_nil ?_
        refine then_ok ?_
        refine wp_cond_false (he47.op rfl) ?_
        refine wp_skip ?_
        refine then_ok ?_
        exact ⟨he47.mem ⟨rfl, rfl, rfl, rfl, rfl, rfl, rfl, rfl, trivial⟩, hH17⟩
    · skip
      clear hH13 he13
      rintro a14 w14 ⟨he14, hH14⟩
      refine wp_seq ?_
      refine reg_cut (fun a w' => Env 233 [(17, Value.int .i64 (cmpP p q)), (9, Value.pointer (some ⟨p3, 0, none⟩)), (8, Value.pointer (some ⟨p1, 0, none⟩)), (5, Value.int .i64 ff), (6, Value.int .i64 nn), (7, Value.int .i64 cc)] a ∧ Hp w [⟨p5, 23, #[Value.int .i64 r.l, Value.int .i64 r.c]⟩, ⟨p3, 23, #[Value.int .i64 q.l, Value.int .i64 q.c]⟩, ⟨p1, 23, #[Value.int .i64 p.l, Value.int .i64 p.c]⟩] w') ?_ ?_
      · skip
        refine wp_seq ?_
        refine wp_region_lit ?_
        refine lV (Value.int .i64 n) he14 rfl rfl (wanted_plain rfl _) (rn_mv rfl (he14.op rfl) w14) ?_
        intro a15 he15
        clear he14 a14
        by_cases hb3 : (-1073741824) ≤ n
        · skip
          refine lV (Value.bool true) he15 rfl rfl (wanted_plain rfl _) (rn_geI rfl (he15.op rfl) (he15.op rfl) (decide_eq_true hb3) w14) ?_
          intro a16 he16
          clear he15 a15
          refine lV (Value.bool true) he16 rfl rfl (wanted_plain rfl _) (rn_mv rfl (he16.op rfl) w14) ?_
          intro a17 he17
          clear he16 a16
          refine lV (Value.int .i64 n) he17 rfl rfl (he17.want rfl rfl rfl rfl rfl) (rn_mv rfl (he17.op rfl) w14) ?_
          intro a18 he18
          clear he17 a17
          by_cases hb4 : n ≤ 1073741824
          · skip
            refine lV (Value.bool true) he18 rfl rfl (he18.want rfl rfl rfl rfl rfl) (rn_leI rfl (he18.op rfl) (he18.op rfl) (decide_eq_true hb4) w14) ?_
            intro a19 he19
            clear he18 a18
            refine lV (Value.bool true) he19 rfl rfl (wanted_plain rfl _) (rn_pk rfl (he19.op rfl) (he19.op rfl) w14) ?_
            intro a20 he20
            clear he19 a19
            refine lV (Value.bool true) he20 rfl rfl (wanted_plain rfl _) (rn_mv rfl (he20.op rfl) w14) ?_
            intro a21 he21
            clear he20 a20
            refine lV (Value.int .i64 m) he21 rfl rfl (he21.want rfl rfl rfl rfl rfl) (rn_mv rfl (he21.op rfl) w14) ?_
            intro a22 he22
            clear he21 a21
            by_cases hb5 : (-1073741824) ≤ m
            · skip
              refine lV (Value.bool true) he22 rfl rfl (he22.want rfl rfl rfl rfl rfl) (rn_geI rfl (he22.op rfl) (he22.op rfl) (decide_eq_true hb5) w14) ?_
              intro a23 he23
              clear he22 a22
              refine lV (Value.bool true) he23 rfl rfl (wanted_plain rfl _) (rn_pk rfl (he23.op rfl) (he23.op rfl) w14) ?_
              intro a24 he24
              clear he23 a23
              refine lV (Value.bool true) he24 rfl rfl (wanted_plain rfl _) (rn_mv rfl (he24.op rfl) w14) ?_
              intro a25 he25
              clear he24 a24
              refine lV (Value.int .i64 m) he25 rfl rfl (he25.want rfl rfl rfl rfl rfl) (rn_mv rfl (he25.op rfl) w14) ?_
              intro a26 he26
              clear he25 a25
              by_cases hb6 : m ≤ 1073741824
              · skip
                refine lV (Value.bool true) he26 rfl rfl (he26.want rfl rfl rfl rfl rfl) (rn_leI rfl (he26.op rfl) (he26.op rfl) (decide_eq_true hb6) w14) ?_
                intro a27 he27
                clear he26 a26
                refine lV (Value.bool true) he27 rfl rfl (wanted_plain rfl _) (rn_pk rfl (he27.op rfl) (he27.op rfl) w14) ?_
                intro a28 he28
                clear he27 a27
                refine wpList_nil ?_
                refine then_ok ?_
                refine wp_cond_true (he28.op rfl) ?_
                refine wp_seq ?_
                refine wp_region_lit ?_
                refine lV (Value.agg #[Value.int .i64 p.l, Value.int .i64 p.c]) he28 rfl rfl (wanted_plain rfl _) (rn_ldp [Value.int .i64 p.l, Value.int .i64 p.c] rfl (he28.op rfl) undZ rfl infoZ2 (hH14.at (i := 2) rfl) rfl) ?_
                intro a29 he29
                clear he28 a28
                refine lV (Value.int .i64 n) he29 rfl rfl (wanted_plain rfl _) (rn_mv rfl (he29.op rfl) w14) ?_
                intro a30 he30
                clear he29 a29
                refine lV (Value.int .i64 cc) he30 rfl rfl (wanted_plain rfl _) (rn_mv rfl (he30.op rfl) w14) ?_
                intro a31 he31
                clear he30 a30
                refine lC he31 rfl rfl Tryd.func26 (by kernel_rfl) rfl rfl (wanted_plain rfl _) rfl (Step_c p n cc hn (stepP p n cc).1 (stepP p n cc).2 rfl w14) ?_
                intro w32 a33 hn he33
                have hH32 := hH14.call hn
                clear he31 a31 hH14 hn
                refine lV (Value.tuple #[Value.agg #[Value.int .i64 (stepP p n cc).1.l, Value.int .i64 (stepP p n cc).1.c], Value.int .i64 (stepP p n cc).2]) he33 rfl rfl (wanted_plain rfl _) (rn_mv rfl (he33.op rfl) w32) ?_
                intro a34 he34
                clear he33 a33
                refine lV (Value.agg #[Value.int .i64 (stepP p n cc).1.l, Value.int .i64 (stepP p n cc).1.c]) he34 rfl rfl (wanted_plain rfl _) (rn_ext rfl (he34.op rfl) rfl w32) ?_
                intro a35 he35
                clear he34 a34
                refine lV (Value.int .i64 (stepP p n cc).2) he35 rfl rfl (wanted_plain rfl _) (rn_ext rfl (he35.op rfl) rfl w32) ?_
                intro a36 he36
                clear he35 a35
                refine lNewP (fun p => .pointer (some ⟨p, 0, none⟩)) he36 hH32 rfl rfl (wanted_plain rfl _) (rn_allocZ rfl w32) ?_
                intro p37 w37 a38 hp hn hH37 he38
                clear he36 a36 hH32 hn hp
                refine lSetF 0 #[Value.int .i64 (stepP p n cc).1.l, Value.int .i64 (stepP p n cc).1.c] (cs := #[Value.int .i64 (stepP p n cc).1.l, Value.int .i64 (stepP p n cc).1.c]) he38 hH37 rfl (wanted_plain rfl _) rfl rfl rfl rfl rfl (by kernel_rfl) (by kernel_rfl) (by kernel_rfl) rfl ?_
                intro w39 a40 hH39 hf he40
                replace hH39 : Hp w [⟨p37, 23, #[Value.int .i64 (stepP p n cc).1.l, Value.int .i64 (stepP p n cc).1.c]⟩, ⟨p5, 23, #[Value.int .i64 r.l, Value.int .i64 r.c]⟩, ⟨p3, 23, #[Value.int .i64 q.l, Value.int .i64 q.c]⟩, ⟨p1, 23, #[Value.int .i64 p.l, Value.int .i64 p.c]⟩] w39 := hH39
                clear hf
                clear he38 a38 hH37
                refine lV (Value.int .i64 (stepP p n cc).2) he40 rfl rfl (wanted_plain rfl _) (rn_asg rfl (he40.op rfl) w39) ?_
                intro a41 he41
                clear he40 a40
                refine wpList_nil ?_
                refine then_ok ?_
                refine wp_seq ?_
                refine wp_region_lit ?_
                refine lV (Value.int .i64 (stepP p n cc).2) he41 rfl rfl (wanted_plain rfl _) (rn_mv rfl (he41.op rfl) w39) ?_
                intro a42 he42
                clear he41 a41
                by_cases hb7 : (stepP p n cc).2 = 0
                · skip
                  refine lV (Value.bool true) he42 rfl rfl (wanted_plain rfl _) (rn_eqE rfl (he42.op rfl) (he42.op rfl) (beqT hb7) w39) ?_
                  intro a43 he43
                  clear he42 a42
                  refine wpList_nil ?_
                  refine then_ok ?_
                  refine wp_cond_true (he43.op rfl) ?_
                  refine wp_seq ?_
                  refine wp_region_lit ?_
                  refine lV (Value.agg #[Value.int .i64 (stepP p n cc).1.l, Value.int .i64 (stepP p n cc).1.c]) he43 rfl rfl (wanted_plain rfl _) (rn_ldp [Value.int .i64 (stepP p n cc).1.l, Value.int .i64 (stepP p n cc).1.c] rfl (he43.op rfl) undZ rfl infoZ2 (hH39.at (i := 0) rfl) rfl) ?_
                  intro a44 he44
                  clear he43 a43
                  refine lV (Value.int .i64 m) he44 rfl rfl (wanted_plain rfl _) (rn_mv rfl (he44.op rfl) w39) ?_
                  intro a45 he45
                  clear he44 a44
                  refine lV (Value.int .i64 cc) he45 rfl rfl (wanted_plain rfl _) (rn_mv rfl (he45.op rfl) w39) ?_
                  intro a46 he46
                  clear he45 a45
                  refine lC he46 rfl rfl Tryd.func26 (by kernel_rfl) rfl rfl (wanted_plain rfl _) rfl (Step_c (stepP p n cc).1 m cc hm (stepP (stepP p n cc).1 m cc).1 (stepP (stepP p n cc).1 m cc).2 rfl w39) ?_
                  intro w47 a48 hn he48
                  have hH47 := hH39.call hn
                  clear he46 a46 hH39 hn
                  refine lV (Value.tuple #[Value.agg #[Value.int .i64 (stepP (stepP p n cc).1 m cc).1.l, Value.int .i64 (stepP (stepP p n cc).1 m cc).1.c], Value.int .i64 (stepP (stepP p n cc).1 m cc).2]) he48 rfl rfl (wanted_plain rfl _) (rn_mv rfl (he48.op rfl) w47) ?_
                  intro a49 he49
                  clear he48 a48
                  refine lV (Value.agg #[Value.int .i64 (stepP (stepP p n cc).1 m cc).1.l, Value.int .i64 (stepP (stepP p n cc).1 m cc).1.c]) he49 rfl rfl (wanted_plain rfl _) (rn_ext rfl (he49.op rfl) rfl w47) ?_
                  intro a50 he50
                  clear he49 a49
                  refine lV (Value.int .i64 (stepP (stepP p n cc).1 m cc).2) he50 rfl rfl (wanted_plain rfl _) (rn_ext rfl (he50.op rfl) rfl w47) ?_
                  intro a51 he51
                  clear he50 a50
                  refine lNewP (fun p => .pointer (some ⟨p, 0, none⟩)) he51 hH47 rfl rfl (wanted_plain rfl _) (rn_allocZ rfl w47) ?_
                  intro p52 w52 a53 hp hn hH52 he53
                  clear he51 a51 hH47 hn hp
                  refine lSetF 0 #[Value.int .i64 (stepP (stepP p n cc).1 m cc).1.l, Value.int .i64 (stepP (stepP p n cc).1 m cc).1.c] (cs := #[Value.int .i64 (stepP (stepP p n cc).1 m cc).1.l, Value.int .i64 (stepP (stepP p n cc).1 m cc).1.c]) he53 hH52 rfl (wanted_plain rfl _) rfl rfl rfl rfl rfl (by kernel_rfl) (by kernel_rfl) (by kernel_rfl) rfl ?_
                  intro w54 a55 hH54 hf he55
                  replace hH54 : Hp w [⟨p52, 23, #[Value.int .i64 (stepP (stepP p n cc).1 m cc).1.l, Value.int .i64 (stepP (stepP p n cc).1 m cc).1.c]⟩, ⟨p37, 23, #[Value.int .i64 (stepP p n cc).1.l, Value.int .i64 (stepP p n cc).1.c]⟩, ⟨p5, 23, #[Value.int .i64 r.l, Value.int .i64 r.c]⟩, ⟨p3, 23, #[Value.int .i64 q.l, Value.int .i64 q.c]⟩, ⟨p1, 23, #[Value.int .i64 p.l, Value.int .i64 p.c]⟩] w54 := hH54
                  clear hf
                  clear he53 a53 hH52
                  refine lV (Value.int .i64 (stepP (stepP p n cc).1 m cc).2) he55 rfl rfl (wanted_plain rfl _) (rn_asg rfl (he55.op rfl) w54) ?_
                  intro a56 he56
                  clear he55 a55
                  refine wpList_nil ?_
                  refine then_ok ?_
                  refine wp_seq ?_
                  refine wp_region_lit ?_
                  refine lV (Value.agg #[Value.int .i64 p.l, Value.int .i64 p.c]) he56 rfl rfl (wanted_plain rfl _) (rn_ldp [Value.int .i64 p.l, Value.int .i64 p.c] rfl (he56.op rfl) undZ rfl infoZ2 (hH54.at (i := 4) rfl) rfl) ?_
                  intro a57 he57
                  clear he56 a56
                  refine lV (Value.int .i64 n) he57 rfl rfl (wanted_plain rfl _) (rn_mv rfl (he57.op rfl) w54) ?_
                  intro a58 he58
                  clear he57 a57
                  refine lV (Value.int .i64 m) he58 rfl rfl (wanted_plain rfl _) (rn_mv rfl (he58.op rfl) w54) ?_
                  intro a59 he59
                  clear he58 a58
                  refine lV (Value.int .i64 (n + m)) he59 rfl rfl (wanted_plain rfl _) (rn_addI rfl (he59.op rfl) (he59.op rfl) (i64w (by omega) (by omega)) w54) ?_
                  intro a60 he60
                  clear he59 a59
                  refine lV (Value.int .i64 cc) he60 rfl rfl (wanted_plain rfl _) (rn_mv rfl (he60.op rfl) w54) ?_
                  intro a61 he61
                  clear he60 a60
                  refine lV (Value.agg #[Value.int .i64 (stepP (stepP p n cc).1 m cc).1.l, Value.int .i64 (stepP (stepP p n cc).1 m cc).1.c]) he61 rfl rfl (wanted_plain rfl _) (rn_ldp [Value.int .i64 (stepP (stepP p n cc).1 m cc).1.l, Value.int .i64 (stepP (stepP p n cc).1 m cc).1.c] rfl (he61.op rfl) undZ rfl infoZ2 (hH54.at (i := 0) rfl) rfl) ?_
                  intro a62 he62
                  clear he61 a61
                  refine lV (Value.int .i64 (stepP (stepP p n cc).1 m cc).2) he62 rfl rfl (wanted_plain rfl _) (rn_mv rfl (he62.op rfl) w54) ?_
                  intro a63 he63
                  clear he62 a62
                  refine lC he63 rfl rfl Tryd.func18 (by kernel_rfl) rfl rfl (wanted_plain rfl _) rfl (steps_c p (n + m) cc (by unfold I64; omega) (stepP (stepP p n cc).1 m cc).1 (stepP (stepP p n cc).1 m cc).2 true (decide_eq_true (step_add hb7)) w54) ?_
                  intro w64 a65 hn he65
                  have hH64 := hH54.call hn
                  clear he63 a63 hH54 hn
                  refine lV (Value.bool false) he65 rfl rfl (wanted_plain rfl _) (rn_not (b := true) rfl (he65.op rfl) w64) ?_
                  intro a66 he66
                  clear he65 a65
                  refine wpList_nil ?_
                  refine then_ok ?_
                  refine wp_cond_false (he66.op rfl) ?_
                  refine wp_skip ?_
                  have hH67 := hH64.tail rfl
                  clear hH64
                  have hH68 := hH67.tail rfl
                  clear hH67
                  refine then_ok ?_
                  exact ⟨he66.mem ⟨rfl, rfl, rfl, rfl, rfl, rfl, trivial⟩, hH68⟩
                · skip
                  refine lV (Value.bool false) he42 rfl rfl (wanted_plain rfl _) (rn_eqE rfl (he42.op rfl) (he42.op rfl) (beqF hb7) w39) ?_
                  intro a43 he43
                  clear he42 a42
                  refine wpList_nil ?_
                  refine then_ok ?_
                  refine wp_cond_false (he43.op rfl) ?_
                  refine wp_skip ?_
                  have hH44 := hH39.tail rfl
                  clear hH39
                  refine then_ok ?_
                  exact ⟨he43.mem ⟨rfl, rfl, rfl, rfl, rfl, rfl, trivial⟩, hH44⟩
              · skip
                refine lV (Value.bool false) he26 rfl rfl (he26.want rfl rfl rfl rfl rfl) (rn_leI rfl (he26.op rfl) (he26.op rfl) (decide_eq_false hb6) w14) ?_
                intro a27 he27
                clear he26 a26
                refine lV (Value.bool false) he27 rfl rfl (wanted_plain rfl _) (rn_pk rfl (he27.op rfl) (he27.op rfl) w14) ?_
                intro a28 he28
                clear he27 a27
                refine wpList_nil ?_
                refine then_ok ?_
                refine wp_cond_false (he28.op rfl) ?_
                refine wp_skip ?_
                refine then_ok ?_
                exact ⟨he28.mem ⟨rfl, rfl, rfl, rfl, rfl, rfl, trivial⟩, hH14⟩
            · skip
              refine lV (Value.bool false) he22 rfl rfl (he22.want rfl rfl rfl rfl rfl) (rn_geI rfl (he22.op rfl) (he22.op rfl) (decide_eq_false hb5) w14) ?_
              intro a23 he23
              clear he22 a22
              refine lV (Value.bool false) he23 rfl rfl (wanted_plain rfl _) (rn_pk rfl (he23.op rfl) (he23.op rfl) w14) ?_
              intro a24 he24
              clear he23 a23
              refine lV (Value.bool false) he24 rfl rfl (wanted_plain rfl _) (rn_mv rfl (he24.op rfl) w14) ?_
              intro a25 he25
              clear he24 a24
              refine lSkip he25 rfl rfl (he25.wantNot rfl rfl rfl rfl rfl rfl) ?_
              intro a26 he26
              clear he25 a25
              refine lSkip he26 rfl rfl (he26.wantNot rfl rfl rfl rfl rfl rfl) ?_
              intro a27 he27
              clear he26 a26
              refine lV (Value.bool false) he27 rfl rfl (wanted_plain rfl _) (rn_pk0 rfl (he27.op rfl) (he27.op rfl) w14) ?_
              intro a28 he28
              clear he27 a27
              refine wpList_nil ?_
              refine then_ok ?_
              refine wp_cond_false (he28.op rfl) ?_
              refine wp_skip ?_
              refine then_ok ?_
              exact ⟨he28.mem ⟨rfl, rfl, rfl, rfl, rfl, rfl, trivial⟩, hH14⟩
          · skip
            refine lV (Value.bool false) he18 rfl rfl (he18.want rfl rfl rfl rfl rfl) (rn_leI rfl (he18.op rfl) (he18.op rfl) (decide_eq_false hb4) w14) ?_
            intro a19 he19
            clear he18 a18
            refine lV (Value.bool false) he19 rfl rfl (wanted_plain rfl _) (rn_pk rfl (he19.op rfl) (he19.op rfl) w14) ?_
            intro a20 he20
            clear he19 a19
            refine lV (Value.bool false) he20 rfl rfl (wanted_plain rfl _) (rn_mv rfl (he20.op rfl) w14) ?_
            intro a21 he21
            clear he20 a20
            refine lSkip he21 rfl rfl (he21.wantNot rfl rfl rfl rfl rfl rfl) ?_
            intro a22 he22
            clear he21 a21
            refine lSkip he22 rfl rfl (he22.wantNot rfl rfl rfl rfl rfl rfl) ?_
            intro a23 he23
            clear he22 a22
            refine lV (Value.bool false) he23 rfl rfl (wanted_plain rfl _) (rn_pk0 rfl (he23.op rfl) (he23.op rfl) w14) ?_
            intro a24 he24
            clear he23 a23
            refine lV (Value.bool false) he24 rfl rfl (wanted_plain rfl _) (rn_mv rfl (he24.op rfl) w14) ?_
            intro a25 he25
            clear he24 a24
            refine lSkip he25 rfl rfl (he25.wantNot rfl rfl rfl rfl rfl rfl) ?_
            intro a26 he26
            clear he25 a25
            refine lSkip he26 rfl rfl (he26.wantNot rfl rfl rfl rfl rfl rfl) ?_
            intro a27 he27
            clear he26 a26
            refine lV (Value.bool false) he27 rfl rfl (wanted_plain rfl _) (rn_pk0 rfl (he27.op rfl) (he27.op rfl) w14) ?_
            intro a28 he28
            clear he27 a27
            refine wpList_nil ?_
            refine then_ok ?_
            refine wp_cond_false (he28.op rfl) ?_
            refine wp_skip ?_
            refine then_ok ?_
            exact ⟨he28.mem ⟨rfl, rfl, rfl, rfl, rfl, rfl, trivial⟩, hH14⟩
        · skip
          refine lV (Value.bool false) he15 rfl rfl (wanted_plain rfl _) (rn_geI rfl (he15.op rfl) (he15.op rfl) (decide_eq_false hb3) w14) ?_
          intro a16 he16
          clear he15 a15
          refine lV (Value.bool false) he16 rfl rfl (wanted_plain rfl _) (rn_mv rfl (he16.op rfl) w14) ?_
          intro a17 he17
          clear he16 a16
          refine lSkip he17 rfl rfl (he17.wantNot rfl rfl rfl rfl rfl rfl) ?_
          intro a18 he18
          clear he17 a17
          refine lSkip he18 rfl rfl (he18.wantNot rfl rfl rfl rfl rfl rfl) ?_
          intro a19 he19
          clear he18 a18
          refine lV (Value.bool false) he19 rfl rfl (wanted_plain rfl _) (rn_pk0 rfl (he19.op rfl) (he19.op rfl) w14) ?_
          intro a20 he20
          clear he19 a19
          refine lV (Value.bool false) he20 rfl rfl (wanted_plain rfl _) (rn_mv rfl (he20.op rfl) w14) ?_
          intro a21 he21
          clear he20 a20
          refine lSkip he21 rfl rfl (he21.wantNot rfl rfl rfl rfl rfl rfl) ?_
          intro a22 he22
          clear he21 a21
          refine lSkip he22 rfl rfl (he22.wantNot rfl rfl rfl rfl rfl rfl) ?_
          intro a23 he23
          clear he22 a22
          refine lV (Value.bool false) he23 rfl rfl (wanted_plain rfl _) (rn_pk0 rfl (he23.op rfl) (he23.op rfl) w14) ?_
          intro a24 he24
          clear he23 a23
          refine lV (Value.bool false) he24 rfl rfl (wanted_plain rfl _) (rn_mv rfl (he24.op rfl) w14) ?_
          intro a25 he25
          clear he24 a24
          refine lSkip he25 rfl rfl (he25.wantNot rfl rfl rfl rfl rfl rfl) ?_
          intro a26 he26
          clear he25 a25
          refine lSkip he26 rfl rfl (he26.wantNot rfl rfl rfl rfl rfl rfl) ?_
          intro a27 he27
          clear he26 a26
          refine lV (Value.bool false) he27 rfl rfl (wanted_plain rfl _) (rn_pk0 rfl (he27.op rfl) (he27.op rfl) w14) ?_
          intro a28 he28
          clear he27 a27
          refine wpList_nil ?_
          refine then_ok ?_
          refine wp_cond_false (he28.op rfl) ?_
          refine wp_skip ?_
          refine then_ok ?_
          exact ⟨he28.mem ⟨rfl, rfl, rfl, rfl, rfl, rfl, trivial⟩, hH14⟩
      · skip
        clear hH14 he14
        rintro a15 w15 ⟨he15, hH15⟩
        refine wp_seq ?_
        refine wp_region_lit ?_
        refine lV (Value.agg #[Value.int .i64 p.l, Value.int .i64 p.c]) he15 rfl rfl (wanted_plain rfl _) (rn_ldp [Value.int .i64 p.l, Value.int .i64 p.c] rfl (he15.op rfl) undZ rfl infoZ2 (hH15.at (i := 2) rfl) rfl) ?_
        intro a16 he16
        clear he15 a15
        refine lV (Value.int .i64 ff) he16 rfl rfl (wanted_plain rfl _) (rn_mv rfl (he16.op rfl) w15) ?_
        intro a17 he17
        clear he16 a16
        refine lV (Value.int .i64 nn) he17 rfl rfl (wanted_plain rfl _) (rn_mv rfl (he17.op rfl) w15) ?_
        intro a18 he18
        clear he17 a17
        refine lV (Value.int .i64 cc) he18 rfl rfl (wanted_plain rfl _) (rn_mv rfl (he18.op rfl) w15) ?_
        intro a19 he19
        clear he18 a18
        refine lC he19 rfl rfl Tryd.func27 (by kernel_rfl) rfl rfl (wanted_plain rfl _) rfl (Clamp_c p ff nn cc (clampP p ff nn cc).1 (clampP p ff nn cc).2 rfl w15) ?_
        intro w20 a21 hn he21
        have hH20 := hH15.call hn
        clear he19 a19 hH15 hn
        refine lV (Value.tuple #[Value.agg #[Value.int .i64 (clampP p ff nn cc).1.l, Value.int .i64 (clampP p ff nn cc).1.c], Value.int .i64 (clampP p ff nn cc).2]) he21 rfl rfl (wanted_plain rfl _) (rn_mv rfl (he21.op rfl) w20) ?_
        intro a22 he22
        clear he21 a21
        refine lV (Value.agg #[Value.int .i64 (clampP p ff nn cc).1.l, Value.int .i64 (clampP p ff nn cc).1.c]) he22 rfl rfl (wanted_plain rfl _) (rn_ext rfl (he22.op rfl) rfl w20) ?_
        intro a23 he23
        clear he22 a22
        refine lV (Value.int .i64 (clampP p ff nn cc).2) he23 rfl rfl (wanted_plain rfl _) (rn_ext rfl (he23.op rfl) rfl w20) ?_
        intro a24 he24
        clear he23 a23
        refine lNewP (fun p => .pointer (some ⟨p, 0, none⟩)) he24 hH20 rfl rfl (wanted_plain rfl _) (rn_allocZ rfl w20) ?_
        intro p25 w25 a26 hp hn hH25 he26
        clear he24 a24 hH20 hn hp
        refine lSetF 0 #[Value.int .i64 (clampP p ff nn cc).1.l, Value.int .i64 (clampP p ff nn cc).1.c] (cs := #[Value.int .i64 (clampP p ff nn cc).1.l, Value.int .i64 (clampP p ff nn cc).1.c]) he26 hH25 rfl (wanted_plain rfl _) rfl rfl rfl rfl rfl (by kernel_rfl) (by kernel_rfl) (by kernel_rfl) rfl ?_
        intro w27 a28 hH27 hf he28
        replace hH27 : Hp w [⟨p25, 23, #[Value.int .i64 (clampP p ff nn cc).1.l, Value.int .i64 (clampP p ff nn cc).1.c]⟩, ⟨p5, 23, #[Value.int .i64 r.l, Value.int .i64 r.c]⟩, ⟨p3, 23, #[Value.int .i64 q.l, Value.int .i64 q.c]⟩, ⟨p1, 23, #[Value.int .i64 p.l, Value.int .i64 p.c]⟩] w27 := hH27
        clear hf
        clear he26 a26 hH25
        refine lV (Value.int .i64 (clampP p ff nn cc).2) he28 rfl rfl (wanted_plain rfl _) (rn_asg rfl (he28.op rfl) w27) ?_
        intro a29 he29
        clear he28 a28
        refine wpList_nil ?_
        refine then_ok ?_
        refine wp_seq ?_
        refine wp_region_lit ?_
        refine lV (Value.agg #[Value.int .i64 q.l, Value.int .i64 q.c]) he29 rfl rfl (wanted_plain rfl _) (rn_ldp [Value.int .i64 q.l, Value.int .i64 q.c] rfl (he29.op rfl) undZ rfl infoZ2 (hH27.at (i := 2) rfl) rfl) ?_
        intro a30 he30
        clear he29 a29
        refine lV (Value.int .i64 ff) he30 rfl rfl (wanted_plain rfl _) (rn_mv rfl (he30.op rfl) w27) ?_
        intro a31 he31
        clear he30 a30
        refine lV (Value.int .i64 nn) he31 rfl rfl (wanted_plain rfl _) (rn_mv rfl (he31.op rfl) w27) ?_
        intro a32 he32
        clear he31 a31
        refine lV (Value.int .i64 cc) he32 rfl rfl (wanted_plain rfl _) (rn_mv rfl (he32.op rfl) w27) ?_
        intro a33 he33
        clear he32 a32
        refine lC he33 rfl rfl Tryd.func27 (by kernel_rfl) rfl rfl (wanted_plain rfl _) rfl (Clamp_c q ff nn cc (clampP q ff nn cc).1 (clampP q ff nn cc).2 rfl w27) ?_
        intro w34 a35 hn he35
        have hH34 := hH27.call hn
        clear he33 a33 hH27 hn
        refine lV (Value.tuple #[Value.agg #[Value.int .i64 (clampP q ff nn cc).1.l, Value.int .i64 (clampP q ff nn cc).1.c], Value.int .i64 (clampP q ff nn cc).2]) he35 rfl rfl (wanted_plain rfl _) (rn_mv rfl (he35.op rfl) w34) ?_
        intro a36 he36
        clear he35 a35
        refine lV (Value.agg #[Value.int .i64 (clampP q ff nn cc).1.l, Value.int .i64 (clampP q ff nn cc).1.c]) he36 rfl rfl (wanted_plain rfl _) (rn_ext rfl (he36.op rfl) rfl w34) ?_
        intro a37 he37
        clear he36 a36
        refine lV (Value.int .i64 (clampP q ff nn cc).2) he37 rfl rfl (wanted_plain rfl _) (rn_ext rfl (he37.op rfl) rfl w34) ?_
        intro a38 he38
        clear he37 a37
        refine lNewP (fun p => .pointer (some ⟨p, 0, none⟩)) he38 hH34 rfl rfl (wanted_plain rfl _) (rn_allocZ rfl w34) ?_
        intro p39 w39 a40 hp hn hH39 he40
        clear he38 a38 hH34 hn hp
        refine lSetF 0 #[Value.int .i64 (clampP q ff nn cc).1.l, Value.int .i64 (clampP q ff nn cc).1.c] (cs := #[Value.int .i64 (clampP q ff nn cc).1.l, Value.int .i64 (clampP q ff nn cc).1.c]) he40 hH39 rfl (wanted_plain rfl _) rfl rfl rfl rfl rfl (by kernel_rfl) (by kernel_rfl) (by kernel_rfl) rfl ?_
        intro w41 a42 hH41 hf he42
        replace hH41 : Hp w [⟨p39, 23, #[Value.int .i64 (clampP q ff nn cc).1.l, Value.int .i64 (clampP q ff nn cc).1.c]⟩, ⟨p25, 23, #[Value.int .i64 (clampP p ff nn cc).1.l, Value.int .i64 (clampP p ff nn cc).1.c]⟩, ⟨p5, 23, #[Value.int .i64 r.l, Value.int .i64 r.c]⟩, ⟨p3, 23, #[Value.int .i64 q.l, Value.int .i64 q.c]⟩, ⟨p1, 23, #[Value.int .i64 p.l, Value.int .i64 p.c]⟩] w41 := hH41
        clear hf
        clear he40 a40 hH39
        refine lV (Value.int .i64 (clampP q ff nn cc).2) he42 rfl rfl (wanted_plain rfl _) (rn_asg rfl (he42.op rfl) w41) ?_
        intro a43 he43
        clear he42 a42
        refine wpList_nil ?_
        refine then_ok ?_
        refine wp_seq ?_
        refine reg_cut (fun a w' => Env 233 [(25, Value.int .i64 (clampP p ff nn cc).2), (24, Value.pointer (some ⟨p25, 0, none⟩)), (8, Value.pointer (some ⟨p1, 0, none⟩)), (5, Value.int .i64 ff), (6, Value.int .i64 nn), (7, Value.int .i64 cc)] a ∧ Hp w [⟨p39, 23, #[Value.int .i64 (clampP q ff nn cc).1.l, Value.int .i64 (clampP q ff nn cc).1.c]⟩, ⟨p25, 23, #[Value.int .i64 (clampP p ff nn cc).1.l, Value.int .i64 (clampP p ff nn cc).1.c]⟩, ⟨p5, 23, #[Value.int .i64 r.l, Value.int .i64 r.c]⟩, ⟨p3, 23, #[Value.int .i64 q.l, Value.int .i64 q.c]⟩, ⟨p1, 23, #[Value.int .i64 p.l, Value.int .i64 p.c]⟩] w') ?_ ?_
        · skip
          refine wp_seq ?_
          have k0 := clamp_same p q ff nn cc
          have k1 := @clamp_in p ff nn cc
          have k2 := @clamp_mono p q ff nn cc
          refine wp_region_lit ?_
          refine lV (Value.int .i64 (clampP p ff nn cc).2) he43 rfl rfl (wanted_plain rfl _) (rn_mv rfl (he43.op rfl) w41) ?_
          intro a44 he44
          clear he43 a43
          refine lV (Value.int .i64 (clampP q ff nn cc).2) he44 rfl rfl (wanted_plain rfl _) (rn_mv rfl (he44.op rfl) w41) ?_
          intro a45 he45
          clear he44 a44
          by_cases hb4 : (clampP p ff nn cc).2 = (clampP q ff nn cc).2
          · skip
            refine lV (Value.bool false) he45 rfl rfl (wanted_plain rfl _) (rn_neE rfl (he45.op rfl) (he45.op rfl) (bneT hb4) w41) ?_
            intro a46 he46
            clear he45 a45
            refine lV (Value.bool false) he46 rfl rfl (wanted_plain rfl _) (rn_mv rfl (he46.op rfl) w41) ?_
            intro a47 he47
            clear he46 a46
            refine lV (Value.int .i64 (clampP p ff nn cc).2) he47 rfl rfl (he47.want rfl rfl rfl rfl rfl) (rn_mv rfl (he47.op rfl) w41) ?_
            intro a48 he48
            clear he47 a47
            by_cases hb5 : (clampP p ff nn cc).2 = 0
            · skip
              refine lV (Value.bool true) he48 rfl rfl (he48.want rfl rfl rfl rfl rfl) (rn_eqE rfl (he48.op rfl) (he48.op rfl) (beqT hb5) w41) ?_
              intro a49 he49
              clear he48 a48
              refine lV (Value.bool true) he49 rfl rfl (he49.want rfl rfl rfl rfl rfl) (rn_mv rfl (he49.op rfl) w41) ?_
              intro a50 he50
              clear he49 a49
              refine lV (Value.int .i64 (cmpP p q)) he50 rfl rfl (he50.want rfl rfl rfl rfl rfl) (rn_mv rfl (he50.op rfl) w41) ?_
              intro a51 he51
              clear he50 a50
              by_cases hb6 : (cmpP p q) ≤ 0
              · skip
                refine lV (Value.bool true) he51 rfl rfl (he51.want rfl rfl rfl rfl rfl) (rn_leI rfl (he51.op rfl) (he51.op rfl) (decide_eq_true hb6) w41) ?_
                intro a52 he52
                clear he51 a51
                refine lV (Value.bool true) he52 rfl rfl (he52.want rfl rfl rfl rfl rfl) (rn_mv rfl (he52.op rfl) w41) ?_
                intro a53 he53
                clear he52 a52
                refine lV (Value.agg #[Value.int .i64 (clampP p ff nn cc).1.l, Value.int .i64 (clampP p ff nn cc).1.c]) he53 rfl rfl (he53.want rfl rfl rfl rfl rfl) (rn_ldp [Value.int .i64 (clampP p ff nn cc).1.l, Value.int .i64 (clampP p ff nn cc).1.c] rfl (he53.op rfl) undZ rfl infoZ2 (hH41.at (i := 1) rfl) rfl) ?_
                intro a54 he54
                clear he53 a53
                refine lV (Value.agg #[Value.int .i64 (clampP q ff nn cc).1.l, Value.int .i64 (clampP q ff nn cc).1.c]) he54 rfl rfl (he54.want rfl rfl rfl rfl rfl) (rn_ldp [Value.int .i64 (clampP q ff nn cc).1.l, Value.int .i64 (clampP q ff nn cc).1.c] rfl (he54.op rfl) undZ rfl infoZ2 (hH41.at (i := 0) rfl) rfl) ?_
                intro a55 he55
                clear he54 a54
                refine lC he55 rfl rfl Tryd.func11 (by kernel_rfl) rfl rfl (he55.want rfl rfl rfl rfl rfl) rfl (Compare_c ((clampP p ff nn cc).1) ((clampP q ff nn cc).1) w41) ?_
                intro w56 a57 hn he57
                have hH56 := hH41.call hn
                clear he55 a55 hH41 hn
                by_cases hb7 : 0 < (cmpP ((clampP p ff nn cc).1) ((clampP q ff nn cc).1))
                · skip
                  refine lV (Value.bool true) he57 rfl rfl (he57.want rfl rfl rfl rfl rfl) (rn_gtI rfl (he57.op rfl) (he57.op rfl) (decide_eq_true hb7) w56) ?_
                  intro a58 he58
                  clear he57 a57
                  refine lV (Value.bool true) he58 rfl rfl (he58.want rfl rfl rfl rfl rfl) (rn_pk rfl (he58.op rfl) (he58.op rfl) w56) ?_
                  intro a59 he59
                  clear he58 a58
                  refine lV (Value.bool true) he59 rfl rfl (he59.want rfl rfl rfl rfl rfl) (rn_mv rfl (he59.op rfl) w56) ?_
                  intro a60 he60
                  clear he59 a59
                  refine lSkip he60 rfl rfl (he60.wantNot rfl rfl rfl rfl rfl rfl) ?_
                  intro a61 he61
                  clear he60 a60
                  refine lSkip he61 rfl rfl (he61.wantNot rfl rfl rfl rfl rfl rfl) ?_
                  intro a62 he62
                  clear he61 a61
                  refine lSkip he62 rfl rfl (he62.wantNot rfl rfl rfl rfl rfl rfl) ?_
                  intro a63 he63
                  clear he62 a62
                  refine lSkip he63 rfl rfl (he63.wantNot rfl rfl rfl rfl rfl rfl) ?_
                  intro a64 he64
                  clear he63 a63
                  refine lV (Value.bool true) he64 rfl rfl (he64.want rfl rfl rfl rfl rfl) (rn_pk rfl (he64.op rfl) (he64.op rfl) w56) ?_
                  intro a65 he65
                  clear he64 a64
                  refine lV (Value.bool true) he65 rfl rfl (he65.want rfl rfl rfl rfl rfl) (rn_mv rfl (he65.op rfl) w56) ?_
                  intro a66 he66
                  clear he65 a65
                  refine lSkip he66 rfl rfl (he66.wantNot rfl rfl rfl rfl rfl rfl) ?_
                  intro a67 he67
                  clear he66 a66
                  refine lSkip he67 rfl rfl (he67.wantNot rfl rfl rfl rfl rfl rfl) ?_
                  intro a68 he68
                  clear he67 a67
                  refine lSkip he68 rfl rfl (he68.wantNot rfl rfl rfl rfl rfl rfl) ?_
                  intro a69 he69
                  clear he68 a68
                  refine lSkip he69 rfl rfl (he69.wantNot rfl rfl rfl rfl rfl rfl) ?_
                  intro a70 he70
                  clear he69 a69
                  refine lV (Value.bool true) he70 rfl rfl (he70.want rfl rfl rfl rfl rfl) (rn_pk rfl (he70.op rfl) (he70.op rfl) w56) ?_
                  intro a71 he71
                  clear he70 a70
                  refine lV (Value.bool true) he71 rfl rfl (he71.want rfl rfl rfl rfl rfl) (rn_mv rfl (he71.op rfl) w56) ?_
                  intro a72 he72
                  clear he71 a71
                  refine lSkip he72 rfl rfl (he72.wantNot rfl rfl rfl rfl rfl rfl) ?_
                  intro a73 he73
                  clear he72 a72
                  refine lSkip he73 rfl rfl (he73.wantNot rfl rfl rfl rfl rfl rfl) ?_
                  intro a74 he74
                  clear he73 a73
                  refine lSkip he74 rfl rfl (he74.wantNot rfl rfl rfl rfl rfl rfl) ?_
                  intro a75 he75
                  clear he74 a74
                  refine lV (Value.bool true) he75 rfl rfl (he75.want rfl rfl rfl rfl rfl) (rn_pk rfl (he75.op rfl) (he75.op rfl) w56) ?_
                  intro a76 he76
                  clear he75 a75
                  refine lV (Value.bool true) he76 rfl rfl (he76.want rfl rfl rfl rfl rfl) (rn_mv rfl (he76.op rfl) w56) ?_
                  intro a77 he77
                  clear he76 a76
                  refine lSkip he77 rfl rfl (he77.wantNot rfl rfl rfl rfl rfl rfl) ?_
                  intro a78 he78
                  clear he77 a77
                  refine lSkip he78 rfl rfl (he78.wantNot rfl rfl rfl rfl rfl rfl) ?_
                  intro a79 he79
                  clear he78 a78
                  refine lSkip he79 rfl rfl (he79.wantNot rfl rfl rfl rfl rfl rfl) ?_
                  intro a80 he80
                  clear he79 a79
                  refine lSkip he80 rfl rfl (he80.wantNot rfl rfl rfl rfl rfl rfl) ?_
                  intro a81 he81
                  clear he80 a80
                  refine lV (Value.bool true) he81 rfl rfl (he81.want rfl rfl rfl rfl rfl) (rn_pk rfl (he81.op rfl) (he81.op rfl) w56) ?_
                  intro a82 he82
                  clear he81 a81
                  refine lV (Value.bool true) he82 rfl rfl (he82.want rfl rfl rfl rfl rfl) (rn_pk rfl (he82.op rfl) (he82.op rfl) w56) ?_
                  intro a83 he83
                  clear he82 a82
                  refine lV (Value.bool true) he83 rfl rfl (wanted_plain rfl _) (rn_pk0 rfl (he83.op rfl) (he83.op rfl) w56) ?_
                  intro a84 he84
                  clear he83 a83
                  refine wpList_nil ?_
                  refine then_ok ?_
                  refine wp_cond_true (he84.op rfl) ?_
                  refine wp_seq ?_
                  refine wp_region_lit ?_
                  refine lV (Value.bool false) he84 rfl rfl (wanted_plain rfl _) (rn_asg rfl (he84.op rfl) w56) ?_
                  intro a85 he85
                  clear he84 a84
                  refine wpList_nil ?_
                  refine then_ok ?_
                  refine wp_ret ?_
                  try simp only [Exit.then, Exit.inBlock, Exit.noGoto]
                  omega
                · skip
                  refine lV (Value.bool false) he57 rfl rfl (he57.want rfl rfl rfl rfl rfl) (rn_gtI rfl (he57.op rfl) (he57.op rfl) (decide_eq_false hb7) w56) ?_
                  intro a58 he58
                  clear he57 a57
                  refine lV (Value.bool false) he58 rfl rfl (he58.want rfl rfl rfl rfl rfl) (rn_pk rfl (he58.op rfl) (he58.op rfl) w56) ?_
                  intro a59 he59
                  clear he58 a58
                  refine lV (Value.bool false) he59 rfl rfl (he59.want rfl rfl rfl rfl rfl) (rn_mv rfl (he59.op rfl) w56) ?_
                  intro a60 he60
                  clear he59 a59
                  refine lV (Value.pointer (some ⟨p25, 0, none⟩)) he60 rfl rfl (he60.want rfl rfl rfl rfl rfl) (rn_faZ0 rfl (he60.op rfl) rfl w56) ?_
                  intro a61 he61
                  clear he60 a60
                  refine lV (Value.int .i64 (clampP p ff nn cc).1.l) he61 rfl rfl (he61.want rfl rfl rfl rfl rfl) (rn_ld1 rfl (he61.op rfl) Tryd.underlying3 (hH56.at (i := 1) rfl) rfl) ?_
                  intro a62 he62
                  clear he61 a61
                  refine lV (Value.int .i64 ff) he62 rfl rfl (he62.want rfl rfl rfl rfl rfl) (rn_mv rfl (he62.op rfl) w56) ?_
                  intro a63 he63
                  clear he62 a62
                  by_cases hb8 : (clampP p ff nn cc).1.l < ff
                  · skip
                    refine lV (Value.bool true) he63 rfl rfl (he63.want rfl rfl rfl rfl rfl) (rn_lsI rfl (he63.op rfl) (he63.op rfl) (decide_eq_true hb8) w56) ?_
                    intro a64 he64
                    clear he63 a63
                    refine lV (Value.bool true) he64 rfl rfl (he64.want rfl rfl rfl rfl rfl) (rn_pk0 rfl (he64.op rfl) (he64.op rfl) w56) ?_
                    intro a65 he65
                    clear he64 a64
                    refine lV (Value.bool true) he65 rfl rfl (he65.want rfl rfl rfl rfl rfl) (rn_mv rfl (he65.op rfl) w56) ?_
                    intro a66 he66
                    clear he65 a65
                    refine lSkip he66 rfl rfl (he66.wantNot rfl rfl rfl rfl rfl rfl) ?_
                    intro a67 he67
                    clear he66 a66
                    refine lSkip he67 rfl rfl (he67.wantNot rfl rfl rfl rfl rfl rfl) ?_
                    intro a68 he68
                    clear he67 a67
                    refine lSkip he68 rfl rfl (he68.wantNot rfl rfl rfl rfl rfl rfl) ?_
                    intro a69 he69
                    clear he68 a68
                    refine lSkip he69 rfl rfl (he69.wantNot rfl rfl rfl rfl rfl rfl) ?_
                    intro a70 he70
                    clear he69 a69
                    refine lV (Value.bool true) he70 rfl rfl (he70.want rfl rfl rfl rfl rfl) (rn_pk rfl (he70.op rfl) (he70.op rfl) w56) ?_
                    intro a71 he71
                    clear he70 a70
                    refine lV (Value.bool true) he71 rfl rfl (he71.want rfl rfl rfl rfl rfl) (rn_mv rfl (he71.op rfl) w56) ?_
                    intro a72 he72
                    clear he71 a71
                    refine lSkip he72 rfl rfl (he72.wantNot rfl rfl rfl rfl rfl rfl) ?_
                    intro a73 he73
                    clear he72 a72
                    refine lSkip he73 rfl rfl (he73.wantNot rfl rfl rfl rfl rfl rfl) ?_
                    intro a74 he74
                    clear he73 a73
                    refine lSkip he74 rfl rfl (he74.wantNot rfl rfl rfl rfl rfl rfl) ?_
                    intro a75 he75
                    clear he74 a74
                    refine lV (Value.bool true) he75 rfl rfl (he75.want rfl rfl rfl rfl rfl) (rn_pk rfl (he75.op rfl) (he75.op rfl) w56) ?_
                    intro a76 he76
                    clear he75 a75
                    refine lV (Value.bool true) he76 rfl rfl (he76.want rfl rfl rfl rfl rfl) (rn_mv rfl (he76.op rfl) w56) ?_
                    intro a77 he77
                    clear he76 a76
                    refine lSkip he77 rfl rfl (he77.wantNot rfl rfl rfl rfl rfl rfl) ?_
                    intro a78 he78
                    clear he77 a77
                    refine lSkip he78 rfl rfl (he78.wantNot rfl rfl rfl rfl rfl rfl) ?_
                    intro a79 he79
                    clear he78 a78
                    refine lSkip he79 rfl rfl (he79.wantNot rfl rfl rfl rfl rfl rfl) ?_
                    intro a80 he80
                    clear he79 a79
                    refine lSkip he80 rfl rfl (he80.wantNot rfl rfl rfl rfl rfl rfl) ?_
                    intro a81 he81
                    clear he80 a80
                    refine lV (Value.bool true) he81 rfl rfl (he81.want rfl rfl rfl rfl rfl) (rn_pk rfl (he81.op rfl) (he81.op rfl) w56) ?_
                    intro a82 he82
                    clear he81 a81
                    refine lV (Value.bool true) he82 rfl rfl (he82.want rfl rfl rfl rfl rfl) (rn_pk rfl (he82.op rfl) (he82.op rfl) w56) ?_
                    intro a83 he83
                    clear he82 a82
                    refine lV (Value.bool true) he83 rfl rfl (wanted_plain rfl _) (rn_pk0 rfl (he83.op rfl) (he83.op rfl) w56) ?_
                    intro a84 he84
                    clear he83 a83
                    refine wpList_nil ?_
                    refine then_ok ?_
                    refine wp_cond_true (he84.op rfl) ?_
                    refine wp_seq ?_
                    refine wp_region_lit ?_
                    refine lV (Value.bool false) he84 rfl rfl (wanted_plain rfl _) (rn_asg rfl (he84.op rfl) w56) ?_
                    intro a85 he85
                    clear he84 a84
                    refine wpList_nil ?_
                    refine then_ok ?_
                    refine wp_ret ?_
                    try simp only [Exit.then, Exit.inBlock, Exit.noGoto]
                    omega
                  · skip
                    refine lV (Value.bool false) he63 rfl rfl (he63.want rfl rfl rfl rfl rfl) (rn_lsI rfl (he63.op rfl) (he63.op rfl) (decide_eq_false hb8) w56) ?_
                    intro a64 he64
                    clear he63 a63
                    refine lV (Value.bool false) he64 rfl rfl (he64.want rfl rfl rfl rfl rfl) (rn_pk0 rfl (he64.op rfl) (he64.op rfl) w56) ?_
                    intro a65 he65
                    clear he64 a64
                    refine lV (Value.bool false) he65 rfl rfl (he65.want rfl rfl rfl rfl rfl) (rn_mv rfl (he65.op rfl) w56) ?_
                    intro a66 he66
                    clear he65 a65
                    refine lV (Value.pointer (some ⟨p25, 0, none⟩)) he66 rfl rfl (he66.want rfl rfl rfl rfl rfl) (rn_faZ0 rfl (he66.op rfl) rfl w56) ?_
                    intro a67 he67
                    clear he66 a66
                    refine lV (Value.int .i64 (clampP p ff nn cc).1.l) he67 rfl rfl (he67.want rfl rfl rfl rfl rfl) (rn_ld1 rfl (he67.op rfl) Tryd.underlying3 (hH56.at (i := 1) rfl) rfl) ?_
                    intro a68 he68
                    clear he67 a67
                    refine lV (Value.int .i64 nn) he68 rfl rfl (he68.want rfl rfl rfl rfl rfl) (rn_mv rfl (he68.op rfl) w56) ?_
                    intro a69 he69
                    clear he68 a68
                    by_cases hb9 : nn ≤ (clampP p ff nn cc).1.l
                    · skip
                      refine lV (Value.bool true) he69 rfl rfl (he69.want rfl rfl rfl rfl rfl) (rn_geI rfl (he69.op rfl) (he69.op rfl) (decide_eq_true hb9) w56) ?_
                      intro a70 he70
                      clear he69 a69
                      refine lV (Value.bool true) he70 rfl rfl (he70.want rfl rfl rfl rfl rfl) (rn_pk0 rfl (he70.op rfl) (he70.op rfl) w56) ?_
                      intro a71 he71
                      clear he70 a70
                      refine lV (Value.bool true) he71 rfl rfl (he71.want rfl rfl rfl rfl rfl) (rn_mv rfl (he71.op rfl) w56) ?_
                      intro a72 he72
                      clear he71 a71
                      refine lSkip he72 rfl rfl (he72.wantNot rfl rfl rfl rfl rfl rfl) ?_
                      intro a73 he73
                      clear he72 a72
                      refine lSkip he73 rfl rfl (he73.wantNot rfl rfl rfl rfl rfl rfl) ?_
                      intro a74 he74
                      clear he73 a73
                      refine lSkip he74 rfl rfl (he74.wantNot rfl rfl rfl rfl rfl rfl) ?_
                      intro a75 he75
                      clear he74 a74
                      refine lV (Value.bool true) he75 rfl rfl (he75.want rfl rfl rfl rfl rfl) (rn_pk rfl (he75.op rfl) (he75.op rfl) w56) ?_
                      intro a76 he76
                      clear he75 a75
                      refine lV (Value.bool true) he76 rfl rfl (he76.want rfl rfl rfl rfl rfl) (rn_mv rfl (he76.op rfl) w56) ?_
                      intro a77 he77
                      clear he76 a76
                      refine lSkip he77 rfl rfl (he77.wantNot rfl rfl rfl rfl rfl rfl) ?_
                      intro a78 he78
                      clear he77 a77
                      refine lSkip he78 rfl rfl (he78.wantNot rfl rfl rfl rfl rfl rfl) ?_
                      intro a79 he79
                      clear he78 a78
                      refine lSkip he79 rfl rfl (he79.wantNot rfl rfl rfl rfl rfl rfl) ?_
                      intro a80 he80
                      clear he79 a79
                      refine lSkip he80 rfl rfl (he80.wantNot rfl rfl rfl rfl rfl rfl) ?_
                      intro a81 he81
                      clear he80 a80
                      refine lV (Value.bool true) he81 rfl rfl (he81.want rfl rfl rfl rfl rfl) (rn_pk rfl (he81.op rfl) (he81.op rfl) w56) ?_
                      intro a82 he82
                      clear he81 a81
                      refine lV (Value.bool true) he82 rfl rfl (he82.want rfl rfl rfl rfl rfl) (rn_pk rfl (he82.op rfl) (he82.op rfl) w56) ?_
                      intro a83 he83
                      clear he82 a82
                      refine lV (Value.bool true) he83 rfl rfl (wanted_plain rfl _) (rn_pk0 rfl (he83.op rfl) (he83.op rfl) w56) ?_
                      intro a84 he84
                      clear he83 a83
                      refine wpList_nil ?_
                      refine then_ok ?_
                      refine wp_cond_true (he84.op rfl) ?_
                      refine wp_seq ?_
                      refine wp_region_lit ?_
                      refine lV (Value.bool false) he84 rfl rfl (wanted_plain rfl _) (rn_asg rfl (he84.op rfl) w56) ?_
                      intro a85 he85
                      clear he84 a84
                      refine wpList_nil ?_
                      refine then_ok ?_
                      refine wp_ret ?_
                      try simp only [Exit.then, Exit.inBlock, Exit.noGoto]
                      omega
                    · skip
                      refine lV (Value.bool false) he69 rfl rfl (he69.want rfl rfl rfl rfl rfl) (rn_geI rfl (he69.op rfl) (he69.op rfl) (decide_eq_false hb9) w56) ?_
                      intro a70 he70
                      clear he69 a69
                      refine lV (Value.bool false) he70 rfl rfl (he70.want rfl rfl rfl rfl rfl) (rn_pk0 rfl (he70.op rfl) (he70.op rfl) w56) ?_
                      intro a71 he71
                      clear he70 a70
                      refine lV (Value.bool false) he71 rfl rfl (he71.want rfl rfl rfl rfl rfl) (rn_mv rfl (he71.op rfl) w56) ?_
                      intro a72 he72
                      clear he71 a71
                      refine lV (Value.pointer (some ⟨p25, 1, none⟩)) he72 rfl rfl (he72.want rfl rfl rfl rfl rfl) (rn_faZ1 rfl (he72.op rfl) rfl w56) ?_
                      intro a73 he73
                      clear he72 a72
                      refine lV (Value.int .i64 (clampP p ff nn cc).1.c) he73 rfl rfl (he73.want rfl rfl rfl rfl rfl) (rn_ld1 rfl (he73.op rfl) Tryd.underlying3 (hH56.at (i := 1) rfl) rfl) ?_
                      intro a74 he74
                      clear he73 a73
                      by_cases hb10 : (clampP p ff nn cc).1.c < 0
                      · skip
                        refine lV (Value.bool true) he74 rfl rfl (he74.want rfl rfl rfl rfl rfl) (rn_lsI rfl (he74.op rfl) (he74.op rfl) (decide_eq_true hb10) w56) ?_
                        intro a75 he75
                        clear he74 a74
                        refine lV (Value.bool true) he75 rfl rfl (he75.want rfl rfl rfl rfl rfl) (rn_pk0 rfl (he75.op rfl) (he75.op rfl) w56) ?_
                        intro a76 he76
                        clear he75 a75
                        refine lV (Value.bool true) he76 rfl rfl (he76.want rfl rfl rfl rfl rfl) (rn_mv rfl (he76.op rfl) w56) ?_
                        intro a77 he77
                        clear he76 a76
                        refine lSkip he77 rfl rfl (he77.wantNot rfl rfl rfl rfl rfl rfl) ?_
                        intro a78 he78
                        clear he77 a77
                        refine lSkip he78 rfl rfl (he78.wantNot rfl rfl rfl rfl rfl rfl) ?_
                        intro a79 he79
                        clear he78 a78
                        refine lSkip he79 rfl rfl (he79.wantNot rfl rfl rfl rfl rfl rfl) ?_
                        intro a80 he80
                        clear he79 a79
                        refine lSkip he80 rfl rfl (he80.wantNot rfl rfl rfl rfl rfl rfl) ?_
                        intro a81 he81
                        clear he80 a80
                        refine lV (Value.bool true) he81 rfl rfl (he81.want rfl rfl rfl rfl rfl) (rn_pk rfl (he81.op rfl) (he81.op rfl) w56) ?_
                        intro a82 he82
                        clear he81 a81
                        refine lV (Value.bool true) he82 rfl rfl (he82.want rfl rfl rfl rfl rfl) (rn_pk rfl (he82.op rfl) (he82.op rfl) w56) ?_
                        intro a83 he83
                        clear he82 a82
                        refine lV (Value.bool true) he83 rfl rfl (wanted_plain rfl _) (rn_pk0 rfl (he83.op rfl) (he83.op rfl) w56) ?_
                        intro a84 he84
                        clear he83 a83
                        refine wpList_nil ?_
                        refine then_ok ?_
                        refine wp_cond_true (he84.op rfl) ?_
                        refine wp_seq ?_
                        refine wp_region_lit ?_
                        refine lV (Value.bool false) he84 rfl rfl (wanted_plain rfl _) (rn_asg rfl (he84.op rfl) w56) ?_
                        intro a85 he85
                        clear he84 a84
                        refine wpList_nil ?_
                        refine then_ok ?_
                        refine wp_ret ?_
                        try simp only [Exit.then, Exit.inBlock, Exit.noGoto]
                        omega
                      · skip
                        refine lV (Value.bool false) he74 rfl rfl (he74.want rfl rfl rfl rfl rfl) (rn_lsI rfl (he74.op rfl) (he74.op rfl) (decide_eq_false hb10) w56) ?_
                        intro a75 he75
                        clear he74 a74
                        refine lV (Value.bool false) he75 rfl rfl (he75.want rfl rfl rfl rfl rfl) (rn_pk0 rfl (he75.op rfl) (he75.op rfl) w56) ?_
                        intro a76 he76
                        clear he75 a75
                        refine lV (Value.bool false) he76 rfl rfl (he76.want rfl rfl rfl rfl rfl) (rn_mv rfl (he76.op rfl) w56) ?_
                        intro a77 he77
                        clear he76 a76
                        refine lV (Value.pointer (some ⟨p25, 1, none⟩)) he77 rfl rfl (he77.want rfl rfl rfl rfl rfl) (rn_faZ1 rfl (he77.op rfl) rfl w56) ?_
                        intro a78 he78
                        clear he77 a77
                        refine lV (Value.int .i64 (clampP p ff nn cc).1.c) he78 rfl rfl (he78.want rfl rfl rfl rfl rfl) (rn_ld1 rfl (he78.op rfl) Tryd.underlying3 (hH56.at (i := 1) rfl) rfl) ?_
                        intro a79 he79
                        clear he78 a78
                        refine lV (Value.int .i64 cc) he79 rfl rfl (he79.want rfl rfl rfl rfl rfl) (rn_mv rfl (he79.op rfl) w56) ?_
                        intro a80 he80
                        clear he79 a79
                        by_cases hb11 : cc ≤ (clampP p ff nn cc).1.c
                        · skip
                          refine lV (Value.bool true) he80 rfl rfl (he80.want rfl rfl rfl rfl rfl) (rn_geI rfl (he80.op rfl) (he80.op rfl) (decide_eq_true hb11) w56) ?_
                          intro a81 he81
                          clear he80 a80
                          refine lV (Value.bool true) he81 rfl rfl (he81.want rfl rfl rfl rfl rfl) (rn_pk0 rfl (he81.op rfl) (he81.op rfl) w56) ?_
                          intro a82 he82
                          clear he81 a81
                          refine lV (Value.bool true) he82 rfl rfl (he82.want rfl rfl rfl rfl rfl) (rn_pk rfl (he82.op rfl) (he82.op rfl) w56) ?_
                          intro a83 he83
                          clear he82 a82
                          refine lV (Value.bool true) he83 rfl rfl (wanted_plain rfl _) (rn_pk0 rfl (he83.op rfl) (he83.op rfl) w56) ?_
                          intro a84 he84
                          clear he83 a83
                          refine wpList_nil ?_
                          refine then_ok ?_
                          refine wp_cond_true (he84.op rfl) ?_
                          refine wp_seq ?_
                          refine wp_region_lit ?_
                          refine lV (Value.bool false) he84 rfl rfl (wanted_plain rfl _) (rn_asg rfl (he84.op rfl) w56) ?_
                          intro a85 he85
                          clear he84 a84
                          refine wpList_nil ?_
                          refine then_ok ?_
                          refine wp_ret ?_
                          try simp only [Exit.then, Exit.inBlock, Exit.noGoto]
                          omega
                        · skip
                          refine lV (Value.bool false) he80 rfl rfl (he80.want rfl rfl rfl rfl rfl) (rn_geI rfl (he80.op rfl) (he80.op rfl) (decide_eq_false hb11) w56) ?_
                          intro a81 he81
                          clear he80 a80
                          refine lV (Value.bool false) he81 rfl rfl (he81.want rfl rfl rfl rfl rfl) (rn_pk0 rfl (he81.op rfl) (he81.op rfl) w56) ?_
                          intro a82 he82
                          clear he81 a81
                          refine lV (Value.bool false) he82 rfl rfl (he82.want rfl rfl rfl rfl rfl) (rn_pk rfl (he82.op rfl) (he82.op rfl) w56) ?_
                          intro a83 he83
                          clear he82 a82
                          refine lV (Value.bool false) he83 rfl rfl (wanted_plain rfl _) (rn_pk0 rfl (he83.op rfl) (he83.op rfl) w56) ?_
                          intro a84 he84
                          clear he83 a83
                          refine wpList_nil ?_
                          refine then_ok ?_
                          refine wp_cond_false (he84.op rfl) ?_
                          refine wp_skip ?_
                          refine then_ok ?_
                          exact ⟨he84.mem ⟨rfl, rfl, rfl, rfl, rfl, rfl, trivial⟩, hH56⟩
              · skip
                refine lV (Value.bool false) he51 rfl rfl (he51.want rfl rfl rfl rfl rfl) (rn_leI rfl (he51.op rfl) (he51.op rfl) (decide_eq_false hb6) w41) ?_
                intro a52 he52
                clear he51 a51
                refine lV (Value.bool false) he52 rfl rfl (he52.want rfl rfl rfl rfl rfl) (rn_mv rfl (he52.op rfl) w41) ?_
                intro a53 he53
                clear he52 a52
                refine lSkip he53 rfl rfl (he53.wantNot rfl rfl rfl rfl rfl rfl) ?_
                intro a54 he54
                clear he53 a53
                refine lSkip he54 rfl rfl (he54.wantNot rfl rfl rfl rfl rfl rfl) ?_
                intro a55 he55
                clear he54 a54
                refine lSkip he55 rfl rfl (he55.wantNot rfl rfl rfl rfl rfl rfl) ?_
                intro a56 he56
                clear he55 a55
                refine lSkip he56 rfl rfl (he56.wantNot rfl rfl rfl rfl rfl rfl) ?_
                intro a57 he57
                clear he56 a56
                refine lV (Value.bool false) he57 rfl rfl (he57.want rfl rfl rfl rfl rfl) (rn_pk0 rfl (he57.op rfl) (he57.op rfl) w41) ?_
                intro a58 he58
                clear he57 a57
                refine lV (Value.bool false) he58 rfl rfl (he58.want rfl rfl rfl rfl rfl) (rn_mv rfl (he58.op rfl) w41) ?_
                intro a59 he59
                clear he58 a58
                refine lV (Value.pointer (some ⟨p25, 0, none⟩)) he59 rfl rfl (he59.want rfl rfl rfl rfl rfl) (rn_faZ0 rfl (he59.op rfl) rfl w41) ?_
                intro a60 he60
                clear he59 a59
                refine lV (Value.int .i64 (clampP p ff nn cc).1.l) he60 rfl rfl (he60.want rfl rfl rfl rfl rfl) (rn_ld1 rfl (he60.op rfl) Tryd.underlying3 (hH41.at (i := 1) rfl) rfl) ?_
                intro a61 he61
                clear he60 a60
                refine lV (Value.int .i64 ff) he61 rfl rfl (he61.want rfl rfl rfl rfl rfl) (rn_mv rfl (he61.op rfl) w41) ?_
                intro a62 he62
                clear he61 a61
                by_cases hb7 : (clampP p ff nn cc).1.l < ff
                · skip
                  refine lV (Value.bool true) he62 rfl rfl (he62.want rfl rfl rfl rfl rfl) (rn_lsI rfl (he62.op rfl) (he62.op rfl) (decide_eq_true hb7) w41) ?_
                  intro a63 he63
                  clear he62 a62
                  refine lV (Value.bool true) he63 rfl rfl (he63.want rfl rfl rfl rfl rfl) (rn_pk0 rfl (he63.op rfl) (he63.op rfl) w41) ?_
                  intro a64 he64
                  clear he63 a63
                  refine lV (Value.bool true) he64 rfl rfl (he64.want rfl rfl rfl rfl rfl) (rn_mv rfl (he64.op rfl) w41) ?_
                  intro a65 he65
                  clear he64 a64
                  refine lSkip he65 rfl rfl (he65.wantNot rfl rfl rfl rfl rfl rfl) ?_
                  intro a66 he66
                  clear he65 a65
                  refine lSkip he66 rfl rfl (he66.wantNot rfl rfl rfl rfl rfl rfl) ?_
                  intro a67 he67
                  clear he66 a66
                  refine lSkip he67 rfl rfl (he67.wantNot rfl rfl rfl rfl rfl rfl) ?_
                  intro a68 he68
                  clear he67 a67
                  refine lSkip he68 rfl rfl (he68.wantNot rfl rfl rfl rfl rfl rfl) ?_
                  intro a69 he69
                  clear he68 a68
                  refine lV (Value.bool true) he69 rfl rfl (he69.want rfl rfl rfl rfl rfl) (rn_pk rfl (he69.op rfl) (he69.op rfl) w41) ?_
                  intro a70 he70
                  clear he69 a69
                  refine lV (Value.bool true) he70 rfl rfl (he70.want rfl rfl rfl rfl rfl) (rn_mv rfl (he70.op rfl) w41) ?_
                  intro a71 he71
                  clear he70 a70
                  refine lSkip he71 rfl rfl (he71.wantNot rfl rfl rfl rfl rfl rfl) ?_
                  intro a72 he72
                  clear he71 a71
                  refine lSkip he72 rfl rfl (he72.wantNot rfl rfl rfl rfl rfl rfl) ?_
                  intro a73 he73
                  clear he72 a72
                  refine lSkip he73 rfl rfl (he73.wantNot rfl rfl rfl rfl rfl rfl) ?_
                  intro a74 he74
                  clear he73 a73
                  refine lV (Value.bool true) he74 rfl rfl (he74.want rfl rfl rfl rfl rfl) (rn_pk rfl (he74.op rfl) (he74.op rfl) w41) ?_
                  intro a75 he75
                  clear he74 a74
                  refine lV (Value.bool true) he75 rfl rfl (he75.want rfl rfl rfl rfl rfl) (rn_mv rfl (he75.op rfl) w41) ?_
                  intro a76 he76
                  clear he75 a75
                  refine lSkip he76 rfl rfl (he76.wantNot rfl rfl rfl rfl rfl rfl) ?_
                  intro a77 he77
                  clear he76 a76
                  refine lSkip he77 rfl rfl (he77.wantNot rfl rfl rfl rfl rfl rfl) ?_
                  intro a78 he78
                  clear he77 a77
                  refine lSkip he78 rfl rfl (he78.wantNot rfl rfl rfl rfl rfl rfl) ?_
                  intro a79 he79
                  clear he78 a78
                  refine lSkip he79 rfl rfl (he79.wantNot rfl rfl rfl rfl rfl rfl) ?_
                  intro a80 he80
                  clear he79 a79
                  refine lV (Value.bool true) he80 rfl rfl (he80.want rfl rfl rfl rfl rfl) (rn_pk rfl (he80.op rfl) (he80.op rfl) w41) ?_
                  intro a81 he81
                  clear he80 a80
                  refine lV (Value.bool true) he81 rfl rfl (he81.want rfl rfl rfl rfl rfl) (rn_pk rfl (he81.op rfl) (he81.op rfl) w41) ?_
                  intro a82 he82
                  clear he81 a81
                  refine lV (Value.bool true) he82 rfl rfl (wanted_plain rfl _) (rn_pk0 rfl (he82.op rfl) (he82.op rfl) w41) ?_
                  intro a83 he83
                  clear he82 a82
                  refine wpList_nil ?_
                  refine then_ok ?_
                  refine wp_cond_true (he83.op rfl) ?_
                  refine wp_seq ?_
                  refine wp_region_lit ?_
                  refine lV (Value.bool false) he83 rfl rfl (wanted_plain rfl _) (rn_asg rfl (he83.op rfl) w41) ?_
                  intro a84 he84
                  clear he83 a83
                  refine wpList_nil ?_
                  refine then_ok ?_
                  refine wp_ret ?_
                  try simp only [Exit.then, Exit.inBlock, Exit.noGoto]
                  omega
                · skip
                  refine lV (Value.bool false) he62 rfl rfl (he62.want rfl rfl rfl rfl rfl) (rn_lsI rfl (he62.op rfl) (he62.op rfl) (decide_eq_false hb7) w41) ?_
                  intro a63 he63
                  clear he62 a62
                  refine lV (Value.bool false) he63 rfl rfl (he63.want rfl rfl rfl rfl rfl) (rn_pk0 rfl (he63.op rfl) (he63.op rfl) w41) ?_
                  intro a64 he64
                  clear he63 a63
                  refine lV (Value.bool false) he64 rfl rfl (he64.want rfl rfl rfl rfl rfl) (rn_mv rfl (he64.op rfl) w41) ?_
                  intro a65 he65
                  clear he64 a64
                  refine lV (Value.pointer (some ⟨p25, 0, none⟩)) he65 rfl rfl (he65.want rfl rfl rfl rfl rfl) (rn_faZ0 rfl (he65.op rfl) rfl w41) ?_
                  intro a66 he66
                  clear he65 a65
                  refine lV (Value.int .i64 (clampP p ff nn cc).1.l) he66 rfl rfl (he66.want rfl rfl rfl rfl rfl) (rn_ld1 rfl (he66.op rfl) Tryd.underlying3 (hH41.at (i := 1) rfl) rfl) ?_
                  intro a67 he67
                  clear he66 a66
                  refine lV (Value.int .i64 nn) he67 rfl rfl (he67.want rfl rfl rfl rfl rfl) (rn_mv rfl (he67.op rfl) w41) ?_
                  intro a68 he68
                  clear he67 a67
                  by_cases hb8 : nn ≤ (clampP p ff nn cc).1.l
                  · skip
                    refine lV (Value.bool true) he68 rfl rfl (he68.want rfl rfl rfl rfl rfl) (rn_geI rfl (he68.op rfl) (he68.op rfl) (decide_eq_true hb8) w41) ?_
                    intro a69 he69
                    clear he68 a68
                    refine lV (Value.bool true) he69 rfl rfl (he69.want rfl rfl rfl rfl rfl) (rn_pk0 rfl (he69.op rfl) (he69.op rfl) w41) ?_
                    intro a70 he70
                    clear he69 a69
                    refine lV (Value.bool true) he70 rfl rfl (he70.want rfl rfl rfl rfl rfl) (rn_mv rfl (he70.op rfl) w41) ?_
                    intro a71 he71
                    clear he70 a70
                    refine lSkip he71 rfl rfl (he71.wantNot rfl rfl rfl rfl rfl rfl) ?_
                    intro a72 he72
                    clear he71 a71
                    refine lSkip he72 rfl rfl (he72.wantNot rfl rfl rfl rfl rfl rfl) ?_
                    intro a73 he73
                    clear he72 a72
                    refine lSkip he73 rfl rfl (he73.wantNot rfl rfl rfl rfl rfl rfl) ?_
                    intro a74 he74
                    clear he73 a73
                    refine lV (Value.bool true) he74 rfl rfl (he74.want rfl rfl rfl rfl rfl) (rn_pk rfl (he74.op rfl) (he74.op rfl) w41) ?_
                    intro a75 he75
                    clear he74 a74
                    refine lV (Value.bool true) he75 rfl rfl (he75.want rfl rfl rfl rfl rfl) (rn_mv rfl (he75.op rfl) w41) ?_
                    intro a76 he76
                    clear he75 a75
                    refine lSkip he76 rfl rfl (he76.wantNot rfl rfl rfl rfl rfl rfl) ?_
                    intro a77 he77
                    clear he76 a76
                    refine lSkip he77 rfl rfl (he77.wantNot rfl rfl rfl rfl rfl rfl) ?_
                    intro a78 he78
                    clear he77 a77
                    refine lSkip he78 rfl rfl (he78.wantNot rfl rfl rfl rfl rfl rfl) ?_
                    intro a79 he79
                    clear he78 a78
                    refine lSkip he79 rfl rfl (he79.wantNot rfl rfl rfl rfl rfl rfl) ?_
                    intro a80 he80
                    clear he79 a79
                    refine lV (Value.bool true) he80 rfl rfl (he80.want rfl rfl rfl rfl rfl) (rn_pk rfl (he80.op rfl) (he80.op rfl) w41) ?_
                    intro a81 he81
                    clear he80 a80
                    refine lV (Value.bool true) he81 rfl rfl (he81.want rfl rfl rfl rfl rfl) (rn_pk rfl (he81.op rfl) (he81.op rfl) w41) ?_
                    intro a82 he82
                    clear he81 a81
                    refine lV (Value.bool true) he82 rfl rfl (wanted_plain rfl _) (rn_pk0 rfl (he82.op rfl) (he82.op rfl) w41) ?_
                    intro a83 he83
                    clear he82 a82
                    refine wpList_nil ?_
                    refine then_ok ?_
                    refine wp_cond_true (he83.op rfl) ?_
                    refine wp_seq ?_
                    refine wp_region_lit ?_
                    refine lV (Value.bool false) he83 rfl rfl (wanted_plain rfl _) (rn_asg rfl (he83.op rfl) w41) ?_
                    intro a84 he84
                    clear he83 a83
                    refine wpList_nil ?_
                    refine then_ok ?_
                    refine wp_ret ?_
                    try simp only [Exit.then, Exit.inBlock, Exit.noGoto]
                    omega
                  · skip
                    refine lV (Value.bool false) he68 rfl rfl (he68.want rfl rfl rfl rfl rfl) (rn_geI rfl (he68.op rfl) (he68.op rfl) (decide_eq_false hb8) w41) ?_
                    intro a69 he69
                    clear he68 a68
                    refine lV (Value.bool false) he69 rfl rfl (he69.want rfl rfl rfl rfl rfl) (rn_pk0 rfl (he69.op rfl) (he69.op rfl) w41) ?_
                    intro a70 he70
                    clear he69 a69
                    refine lV (Value.bool false) he70 rfl rfl (he70.want rfl rfl rfl rfl rfl) (rn_mv rfl (he70.op rfl) w41) ?_
                    intro a71 he71
                    clear he70 a70
                    refine lV (Value.pointer (some ⟨p25, 1, none⟩)) he71 rfl rfl (he71.want rfl rfl rfl rfl rfl) (rn_faZ1 rfl (he71.op rfl) rfl w41) ?_
                    intro a72 he72
                    clear he71 a71
                    refine lV (Value.int .i64 (clampP p ff nn cc).1.c) he72 rfl rfl (he72.want rfl rfl rfl rfl rfl) (rn_ld1 rfl (he72.op rfl) Tryd.underlying3 (hH41.at (i := 1) rfl) rfl) ?_
                    intro a73 he73
                    clear he72 a72
                    by_cases hb9 : (clampP p ff nn cc).1.c < 0
                    · skip
                      refine lV (Value.bool true) he73 rfl rfl (he73.want rfl rfl rfl rfl rfl) (rn_lsI rfl (he73.op rfl) (he73.op rfl) (decide_eq_true hb9) w41) ?_
                      intro a74 he74
                      clear he73 a73
                      refine lV (Value.bool true) he74 rfl rfl (he74.want rfl rfl rfl rfl rfl) (rn_pk0 rfl (he74.op rfl) (he74.op rfl) w41) ?_
                      intro a75 he75
                      clear he74 a74
                      refine lV (Value.bool true) he75 rfl rfl (he75.want rfl rfl rfl rfl rfl) (rn_mv rfl (he75.op rfl) w41) ?_
                      intro a76 he76
                      clear he75 a75
                      refine lSkip he76 rfl rfl (he76.wantNot rfl rfl rfl rfl rfl rfl) ?_
                      intro a77 he77
                      clear he76 a76
                      refine lSkip he77 rfl rfl (he77.wantNot rfl rfl rfl rfl rfl rfl) ?_
                      intro a78 he78
                      clear he77 a77
                      refine lSkip he78 rfl rfl (he78.wantNot rfl rfl rfl rfl rfl rfl) ?_
                      intro a79 he79
                      clear he78 a78
                      refine lSkip he79 rfl rfl (he79.wantNot rfl rfl rfl rfl rfl rfl) ?_
                      intro a80 he80
                      clear he79 a79
                      refine lV (Value.bool true) he80 rfl rfl (he80.want rfl rfl rfl rfl rfl) (rn_pk rfl (he80.op rfl) (he80.op rfl) w41) ?_
                      intro a81 he81
                      clear he80 a80
                      refine lV (Value.bool true) he81 rfl rfl (he81.want rfl rfl rfl rfl rfl) (rn_pk rfl (he81.op rfl) (he81.op rfl) w41) ?_
                      intro a82 he82
                      clear he81 a81
                      refine lV (Value.bool true) he82 rfl rfl (wanted_plain rfl _) (rn_pk0 rfl (he82.op rfl) (he82.op rfl) w41) ?_
                      intro a83 he83
                      clear he82 a82
                      refine wpList_nil ?_
                      refine then_ok ?_
                      refine wp_cond_true (he83.op rfl) ?_
                      refine wp_seq ?_
                      refine wp_region_lit ?_
                      refine lV (Value.bool false) he83 rfl rfl (wanted_plain rfl _) (rn_asg rfl (he83.op rfl) w41) ?_
                      intro a84 he84
                      clear he83 a83
                      refine wpList_nil ?_
                      refine then_ok ?_
                      refine wp_ret ?_
                      try simp only [Exit.then, Exit.inBlock, Exit.noGoto]
                      omega
                    · skip
                      refine lV (Value.bool false) he73 rfl rfl (he73.want rfl rfl rfl rfl rfl) (rn_lsI rfl (he73.op rfl) (he73.op rfl) (decide_eq_false hb9) w41) ?_
                      intro a74 he74
                      clear he73 a73
                      refine lV (Value.bool false) he74 rfl rfl (he74.want rfl rfl rfl rfl rfl) (rn_pk0 rfl (he74.op rfl) (he74.op rfl) w41) ?_
                      intro a75 he75
                      clear he74 a74
                      refine lV (Value.bool false) he75 rfl rfl (he75.want rfl rfl rfl rfl rfl) (rn_mv rfl (he75.op rfl) w41) ?_
                      intro a76 he76
                      clear he75 a75
                      refine lV (Value.pointer (some ⟨p25, 1, none⟩)) he76 rfl rfl (he76.want rfl rfl rfl rfl rfl) (rn_faZ1 rfl (he76.op rfl) rfl w41) ?_
                      intro a77 he77
                      clear he76 a76
                      refine lV (Value.int .i64 (clampP p ff nn cc).1.c) he77 rfl rfl (he77.want rfl rfl rfl rfl rfl) (rn_ld1 rfl (he77.op rfl) Tryd.underlying3 (hH41.at (i := 1) rfl) rfl) ?_
                      intro a78 he78
                      clear he77 a77
                      refine lV (Value.int .i64 cc) he78 rfl rfl (he78.want rfl rfl rfl rfl rfl) (rn_mv rfl (he78.op rfl) w41) ?_
                      intro a79 he79
                      clear he78 a78
                      by_cases hb10 : cc ≤ (clampP p ff nn cc).1.c
                      · skip
                        refine lV (Value.bool true) he79 rfl rfl (he79.want rfl rfl rfl rfl rfl) (rn_geI rfl (he79.op rfl) (he79.op rfl) (decide_eq_true hb10) w41) ?_
                        intro a80 he80
                        clear he79 a79
                        refine lV (Value.bool true) he80 rfl rfl (he80.want rfl rfl rfl rfl rfl) (rn_pk0 rfl (he80.op rfl) (he80.op rfl) w41) ?_
                        intro a81 he81
                        clear he80 a80
                        refine lV (Value.bool true) he81 rfl rfl (he81.want rfl rfl rfl rfl rfl) (rn_pk rfl (he81.op rfl) (he81.op rfl) w41) ?_
                        intro a82 he82
                        clear he81 a81
                        refine lV (Value.bool true) he82 rfl rfl (wanted_plain rfl _) (rn_pk0 rfl (he82.op rfl) (he82.op rfl) w41) ?_
                        intro a83 he83
                        clear he82 a82
                        refine wpList_nil ?_
                        refine then_ok ?_
                        refine wp_cond_true (he83.op rfl) ?_
                        refine wp_seq ?_
                        refine wp_region_lit ?_
                        refine lV (Value.bool false) he83 rfl rfl (wanted_plain rfl _) (rn_asg rfl (he83.op rfl) w41) ?_
                        intro a84 he84
                        clear he83 a83
                        refine wpList_nil ?_
                        refine then_ok ?_
                        refine wp_ret ?_
                        try simp only [Exit.then, Exit.inBlock, Exit.noGoto]
                        omega
                      · skip
                        refine lV (Value.bool false) he79 rfl rfl (he79.want rfl rfl rfl rfl rfl) (rn_geI rfl (he79.op rfl) (he79.op rfl) (decide_eq_false hb10) w41) ?_
                        intro a80 he80
                        clear he79 a79
                        refine lV (Value.bool false) he80 rfl rfl (he80.want rfl rfl rfl rfl rfl) (rn_pk0 rfl (he80.op rfl) (he80.op rfl) w41) ?_
                        intro a81 he81
                        clear he80 a80
                        refine lV (Value.bool false) he81 rfl rfl (he81.want rfl rfl rfl rfl rfl) (rn_pk rfl (he81.op rfl) (he81.op rfl) w41) ?_
                        intro a82 he82
                        clear he81 a81
                        refine lV (Value.bool false) he82 rfl rfl (wanted_plain rfl _) (rn_pk0 rfl (he82.op rfl) (he82.op rfl) w41) ?_
                        intro a83 he83
                        clear he82 a82
                        refine wpList_nil ?_
                        refine then_ok ?_
                        refine wp_cond_false (he83.op rfl) ?_
                        refine wp_skip ?_
                        refine then_ok ?_
                        exact ⟨he83.mem ⟨rfl, rfl, rfl, rfl, rfl, rfl, trivial⟩, hH41⟩
            · skip
              refine lV (Value.bool false) he48 rfl rfl (he48.want rfl rfl rfl rfl rfl) (rn_eqE rfl (he48.op rfl) (he48.op rfl) (beqF hb5) w41) ?_
              intro a49 he49
              clear he48 a48
              refine lV (Value.bool false) he49 rfl rfl (he49.want rfl rfl rfl rfl rfl) (rn_mv rfl (he49.op rfl) w41) ?_
              intro a50 he50
              clear he49 a49
              refine lSkip he50 rfl rfl (he50.wantNot rfl rfl rfl rfl rfl rfl) ?_
              intro a51 he51
              clear he50 a50
              refine lSkip he51 rfl rfl (he51.wantNot rfl rfl rfl rfl rfl rfl) ?_
              intro a52 he52
              clear he51 a51
              refine lSkip he52 rfl rfl (he52.wantNot rfl rfl rfl rfl rfl rfl) ?_
              intro a53 he53
              clear he52 a52
              refine lSkip he53 rfl rfl (he53.wantU rfl rfl rfl rfl rfl) ?_
              intro a54 he54
              clear he53 a53
              refine lSkip he54 rfl rfl (he54.wantU rfl rfl rfl rfl rfl) ?_
              intro a55 he55
              clear he54 a54
              refine lSkip he55 rfl rfl (he55.wantU rfl rfl rfl rfl rfl) ?_
              intro a56 he56
              clear he55 a55
              refine lSkip he56 rfl rfl (he56.wantU rfl rfl rfl rfl rfl) ?_
              intro a57 he57
              clear he56 a56
              refine lSkip he57 rfl rfl (he57.wantNot rfl rfl rfl rfl rfl rfl) ?_
              intro a58 he58
              clear he57 a57
              refine lSkip he58 rfl rfl (he58.wantNot rfl rfl rfl rfl rfl rfl) ?_
              intro a59 he59
              clear he58 a58
              refine lSkip he59 rfl rfl (he59.wantU rfl rfl rfl rfl rfl) ?_
              intro a60 he60
              clear he59 a59
              refine lSkip he60 rfl rfl (he60.wantU rfl rfl rfl rfl rfl) ?_
              intro a61 he61
              clear he60 a60
              refine lSkip he61 rfl rfl (he61.wantU rfl rfl rfl rfl rfl) ?_
              intro a62 he62
              clear he61 a61
              refine lSkip he62 rfl rfl (he62.wantU rfl rfl rfl rfl rfl) ?_
              intro a63 he63
              clear he62 a62
              refine lSkip he63 rfl rfl (he63.wantNot rfl rfl rfl rfl rfl rfl) ?_
              intro a64 he64
              clear he63 a63
              refine lSkip he64 rfl rfl (he64.wantNot rfl rfl rfl rfl rfl rfl) ?_
              intro a65 he65
              clear he64 a64
              refine lSkip he65 rfl rfl (he65.wantU rfl rfl rfl rfl rfl) ?_
              intro a66 he66
              clear he65 a65
              refine lSkip he66 rfl rfl (he66.wantU rfl rfl rfl rfl rfl) ?_
              intro a67 he67
              clear he66 a66
              refine lSkip he67 rfl rfl (he67.wantU rfl rfl rfl rfl rfl) ?_
              intro a68 he68
              clear he67 a67
              refine lSkip he68 rfl rfl (he68.wantU rfl rfl rfl rfl rfl) ?_
              intro a69 he69
              clear he68 a68
              refine lSkip he69 rfl rfl (he69.wantNot rfl rfl rfl rfl rfl rfl) ?_
              intro a70 he70
              clear he69 a69
              refine lSkip he70 rfl rfl (he70.wantNot rfl rfl rfl rfl rfl rfl) ?_
              intro a71 he71
              clear he70 a70
              refine lSkip he71 rfl rfl (he71.wantU rfl rfl rfl rfl rfl) ?_
              intro a72 he72
              clear he71 a71
              refine lSkip he72 rfl rfl (he72.wantU rfl rfl rfl rfl rfl) ?_
              intro a73 he73
              clear he72 a72
              refine lSkip he73 rfl rfl (he73.wantU rfl rfl rfl rfl rfl) ?_
              intro a74 he74
              clear he73 a73
              refine lSkip he74 rfl rfl (he74.wantNot rfl rfl rfl rfl rfl rfl) ?_
              intro a75 he75
              clear he74 a74
              refine lSkip he75 rfl rfl (he75.wantNot rfl rfl rfl rfl rfl rfl) ?_
              intro a76 he76
              clear he75 a75
              refine lSkip he76 rfl rfl (he76.wantU rfl rfl rfl rfl rfl) ?_
              intro a77 he77
              clear he76 a76
              refine lSkip he77 rfl rfl (he77.wantU rfl rfl rfl rfl rfl) ?_
              intro a78 he78
              clear he77 a77
              refine lSkip he78 rfl rfl (he78.wantU rfl rfl rfl rfl rfl) ?_
              intro a79 he79
              clear he78 a78
              refine lSkip he79 rfl rfl (he79.wantU rfl rfl rfl rfl rfl) ?_
              intro a80 he80
              clear he79 a79
              refine lSkip he80 rfl rfl (he80.wantNot rfl rfl rfl rfl rfl rfl) ?_
              intro a81 he81
              clear he80 a80
              refine lV (Value.bool false) he81 rfl rfl (he81.want rfl rfl rfl rfl rfl) (rn_pk0 rfl (he81.op rfl) (he81.op rfl) w41) ?_
              intro a82 he82
              clear he81 a81
              refine lV (Value.bool false) he82 rfl rfl (wanted_plain rfl _) (rn_pk0 rfl (he82.op rfl) (he82.op rfl) w41) ?_
              intro a83 he83
              clear he82 a82
              refine wpList_nil ?_
              refine then_ok ?_
              refine wp_cond_false (he83.op rfl) ?_
              refine wp_skip ?_
              refine then_ok ?_
              exact ⟨he83.mem ⟨rfl, rfl, rfl, rfl, rfl, rfl, trivial⟩, hH41⟩
          · skip
            refine lV (Value.bool true) he45 rfl rfl (wanted_plain rfl _) (rn_neE rfl (he45.op rfl) (he45.op rfl) (bneF hb4) w41) ?_
            intro a46 he46
            clear he45 a45
            refine lV (Value.bool true) he46 rfl rfl (wanted_plain rfl _) (rn_mv rfl (he46.op rfl) w41) ?_
            intro a47 he47
            clear he46 a46
            refine lSkip he47 rfl rfl (he47.wantNot rfl rfl rfl rfl rfl rfl) ?_
            intro a48 he48
            clear he47 a47
            refine lSkip he48 rfl rfl (he48.wantNot rfl rfl rfl rfl rfl rfl) ?_
            intro a49 he49
            clear he48 a48
            refine lSkip he49 rfl rfl (he49.wantNot rfl rfl rfl rfl rfl rfl) ?_
            intro a50 he50
            clear he49 a49
            refine lSkip he50 rfl rfl (he50.wantU rfl rfl rfl rfl rfl) ?_
            intro a51 he51
            clear he50 a50
            refine lSkip he51 rfl rfl (he51.wantU rfl rfl rfl rfl rfl) ?_
            intro a52 he52
            clear he51 a51
            refine lSkip he52 rfl rfl (he52.wantU rfl rfl rfl rfl rfl) ?_
            intro a53 he53
            clear he52 a52
            refine lSkip he53 rfl rfl (he53.wantU rfl rfl rfl rfl rfl) ?_
            intro a54 he54
            clear he53 a53
            refine lSkip he54 rfl rfl (he54.wantU rfl rfl rfl rfl rfl) ?_
            intro a55 he55
            clear he54 a54
            refine lSkip he55 rfl rfl (he55.wantU rfl rfl rfl rfl rfl) ?_
            intro a56 he56
            clear he55 a55
            refine lSkip he56 rfl rfl (he56.wantU rfl rfl rfl rfl rfl) ?_
            intro a57 he57
            clear he56 a56
            refine lSkip he57 rfl rfl (he57.wantU rfl rfl rfl rfl rfl) ?_
            intro a58 he58
            clear he57 a57
            refine lSkip he58 rfl rfl (he58.wantU rfl rfl rfl rfl rfl) ?_
            intro a59 he59
            clear he58 a58
            refine lSkip he59 rfl rfl (he59.wantU rfl rfl rfl rfl rfl) ?_
            intro a60 he60
            clear he59 a59
            refine lSkip he60 rfl rfl (he60.wantU rfl rfl rfl rfl rfl) ?_
            intro a61 he61
            clear he60 a60
            refine lSkip he61 rfl rfl (he61.wantU rfl rfl rfl rfl rfl) ?_
            intro a62 he62
            clear he61 a61
            refine lSkip he62 rfl rfl (he62.wantU rfl rfl rfl rfl rfl) ?_
            intro a63 he63
            clear he62 a62
            refine lSkip he63 rfl rfl (he63.wantU rfl rfl rfl rfl rfl) ?_
            intro a64 he64
            clear he63 a63
            refine lSkip he64 rfl rfl (he64.wantU rfl rfl rfl rfl rfl) ?_
            intro a65 he65
            clear he64 a64
            refine lSkip he65 rfl rfl (he65.wantU rfl rfl rfl rfl rfl) ?_
            intro a66 he66
            clear he65 a65
            refine lSkip he66 rfl rfl (he66.wantU rfl rfl rfl rfl rfl) ?_
            intro a67 he67
            clear he66 a66
            refine lSkip he67 rfl rfl (he67.wantU rfl rfl rfl rfl rfl) ?_
            intro a68 he68
            clear he67 a67
            refine lSkip he68 rfl rfl (he68.wantU rfl rfl rfl rfl rfl) ?_
            intro a69 he69
            clear he68 a68
            refine lSkip he69 rfl rfl (he69.wantU rfl rfl rfl rfl rfl) ?_
            intro a70 he70
            clear he69 a69
            refine lSkip he70 rfl rfl (he70.wantU rfl rfl rfl rfl rfl) ?_
            intro a71 he71
            clear he70 a70
            refine lSkip he71 rfl rfl (he71.wantU rfl rfl rfl rfl rfl) ?_
            intro a72 he72
            clear he71 a71
            refine lSkip he72 rfl rfl (he72.wantU rfl rfl rfl rfl rfl) ?_
            intro a73 he73
            clear he72 a72
            refine lSkip he73 rfl rfl (he73.wantU rfl rfl rfl rfl rfl) ?_
            intro a74 he74
            clear he73 a73
            refine lSkip he74 rfl rfl (he74.wantU rfl rfl rfl rfl rfl) ?_
            intro a75 he75
            clear he74 a74
            refine lSkip he75 rfl rfl (he75.wantU rfl rfl rfl rfl rfl) ?_
            intro a76 he76
            clear he75 a75
            refine lSkip he76 rfl rfl (he76.wantU rfl rfl rfl rfl rfl) ?_
            intro a77 he77
            clear he76 a76
            refine lSkip he77 rfl rfl (he77.wantU rfl rfl rfl rfl rfl) ?_
            intro a78 he78
            clear he77 a77
            refine lSkip he78 rfl rfl (he78.wantU rfl rfl rfl rfl rfl) ?_
            intro a79 he79
            clear he78 a78
            refine lSkip he79 rfl rfl (he79.wantU rfl rfl rfl rfl rfl) ?_
            intro a80 he80
            clear he79 a79
            refine lSkip he80 rfl rfl (he80.wantU rfl rfl rfl rfl rfl) ?_
            intro a81 he81
            clear he80 a80
            refine lSkip he81 rfl rfl (he81.wantNot rfl rfl rfl rfl rfl rfl) ?_
            intro a82 he82
            clear he81 a81
            refine lV (Value.bool true) he82 rfl rfl (wanted_plain rfl _) (rn_pk rfl (he82.op rfl) (he82.op rfl) w41) ?_
            intro a83 he83
            clear he82 a82
            refine wpList_nil ?_
            refine then_ok ?_
            refine wp_cond_true (he83.op rfl) ?_
            refine wp_seq ?_
            refine wp_region_lit ?_
            refine lV (Value.bool false) he83 rfl rfl (wanted_plain rfl _) (rn_asg rfl (he83.op rfl) w41) ?_
            intro a84 he84
            clear he83 a83
            refine wpList_nil ?_
            refine then_ok ?_
            refine wp_ret ?_
            try simp only [Exit.then, Exit.inBlock, Exit.noGoto]
            omega
        · skip
          clear hH41 he43
          rintro a44 w44 ⟨he44, hH44⟩
          refine wp_seq ?_
          refine reg_cut (fun a w' => Env 233 [(8, Value.pointer (some ⟨p1, 0, none⟩))] a ∧ Hp w [⟨p39, 23, #[Value.int .i64 (clampP q ff nn cc).1.l, Value.int .i64 (clampP q ff nn cc).1.c]⟩, ⟨p25, 23, #[Value.int .i64 (clampP p ff nn cc).1.l, Value.int .i64 (clampP p ff nn cc).1.c]⟩, ⟨p5, 23, #[Value.int .i64 r.l, Value.int .i64 r.c]⟩, ⟨p3, 23, #[Value.int .i64 q.l, Value.int .i64 q.c]⟩, ⟨p1, 23, #[Value.int .i64 p.l, Value.int .i64 p.c]⟩] w') ?_ ?_
          · skip
            refine wp_seq ?_
            have k2 := clamp_cases p ff nn cc
            refine wp_region_lit ?_
            refine lV (Value.int .i64 (clampP p ff nn cc).2) he44 rfl rfl (wanted_plain rfl _) (rn_mv rfl (he44.op rfl) w44) ?_
            intro a45 he45
            clear he44 a44
            by_cases hb5 : (clampP p ff nn cc).2 = 0
            · skip
              refine lV (Value.bool true) he45 rfl rfl (wanted_plain rfl _) (rn_eqE rfl (he45.op rfl) (he45.op rfl) (beqT hb5) w44) ?_
              intro a46 he46
              clear he45 a45
              refine lV (Value.bool true) he46 rfl rfl (wanted_plain rfl _) (rn_mv rfl (he46.op rfl) w44) ?_
              intro a47 he47
              clear he46 a46
              refine lV (Value.pointer (some ⟨p1, 0, none⟩)) he47 rfl rfl (he47.want rfl rfl rfl rfl rfl) (rn_faZ0 rfl (he47.op rfl) rfl w44) ?_
              intro a48 he48
              clear he47 a47
              refine lV (Value.int .i64 p.l) he48 rfl rfl (he48.want rfl rfl rfl rfl rfl) (rn_ld1 rfl (he48.op rfl) Tryd.underlying3 (hH44.at (i := 4) rfl) rfl) ?_
              intro a49 he49
              clear he48 a48
              refine lV (Value.int .i64 ff) he49 rfl rfl (he49.want rfl rfl rfl rfl rfl) (rn_mv rfl (he49.op rfl) w44) ?_
              intro a50 he50
              clear he49 a49
              by_cases hb6 : ff ≤ p.l
              · skip
                refine lV (Value.bool true) he50 rfl rfl (he50.want rfl rfl rfl rfl rfl) (rn_geI rfl (he50.op rfl) (he50.op rfl) (decide_eq_true hb6) w44) ?_
                intro a51 he51
                clear he50 a50
                refine lV (Value.bool true) he51 rfl rfl (wanted_plain rfl _) (rn_pk rfl (he51.op rfl) (he51.op rfl) w44) ?_
                intro a52 he52
                clear he51 a51
                refine lV (Value.bool true) he52 rfl rfl (wanted_plain rfl _) (rn_mv rfl (he52.op rfl) w44) ?_
                intro a53 he53
                clear he52 a52
                refine lV (Value.pointer (some ⟨p1, 0, none⟩)) he53 rfl rfl (he53.want rfl rfl rfl rfl rfl) (rn_faZ0 rfl (he53.op rfl) rfl w44) ?_
                intro a54 he54
                clear he53 a53
                refine lV (Value.int .i64 p.l) he54 rfl rfl (he54.want rfl rfl rfl rfl rfl) (rn_ld1 rfl (he54.op rfl) Tryd.underlying3 (hH44.at (i := 4) rfl) rfl) ?_
                intro a55 he55
                clear he54 a54
                refine lV (Value.int .i64 nn) he55 rfl rfl (he55.want rfl rfl rfl rfl rfl) (rn_mv rfl (he55.op rfl) w44) ?_
                intro a56 he56
                clear he55 a55
                by_cases hb7 : p.l < nn
                · skip
                  refine lV (Value.bool true) he56 rfl rfl (he56.want rfl rfl rfl rfl rfl) (rn_lsI rfl (he56.op rfl) (he56.op rfl) (decide_eq_true hb7) w44) ?_
                  intro a57 he57
                  clear he56 a56
                  refine lV (Value.bool true) he57 rfl rfl (wanted_plain rfl _) (rn_pk rfl (he57.op rfl) (he57.op rfl) w44) ?_
                  intro a58 he58
                  clear he57 a57
                  refine lV (Value.bool true) he58 rfl rfl (wanted_plain rfl _) (rn_mv rfl (he58.op rfl) w44) ?_
                  intro a59 he59
                  clear he58 a58
                  refine lV (Value.pointer (some ⟨p1, 1, none⟩)) he59 rfl rfl (he59.want rfl rfl rfl rfl rfl) (rn_faZ1 rfl (he59.op rfl) rfl w44) ?_
                  intro a60 he60
                  clear he59 a59
                  refine lV (Value.int .i64 p.c) he60 rfl rfl (he60.want rfl rfl rfl rfl rfl) (rn_ld1 rfl (he60.op rfl) Tryd.underlying3 (hH44.at (i := 4) rfl) rfl) ?_
                  intro a61 he61
                  clear he60 a60
                  by_cases hb8 : 0 ≤ p.c
                  · skip
                    refine lV (Value.bool true) he61 rfl rfl (he61.want rfl rfl rfl rfl rfl) (rn_geI rfl (he61.op rfl) (he61.op rfl) (decide_eq_true hb8) w44) ?_
                    intro a62 he62
                    clear he61 a61
                    refine lV (Value.bool true) he62 rfl rfl (wanted_plain rfl _) (rn_pk rfl (he62.op rfl) (he62.op rfl) w44) ?_
                    intro a63 he63
                    clear he62 a62
                    refine lV (Value.bool true) he63 rfl rfl (wanted_plain rfl _) (rn_mv rfl (he63.op rfl) w44) ?_
                    intro a64 he64
                    clear he63 a63
                    refine lV (Value.pointer (some ⟨p1, 1, none⟩)) he64 rfl rfl (he64.want rfl rfl rfl rfl rfl) (rn_faZ1 rfl (he64.op rfl) rfl w44) ?_
                    intro a65 he65
                    clear he64 a64
                    refine lV (Value.int .i64 p.c) he65 rfl rfl (he65.want rfl rfl rfl rfl rfl) (rn_ld1 rfl (he65.op rfl) Tryd.underlying3 (hH44.at (i := 4) rfl) rfl) ?_
                    intro a66 he66
                    clear he65 a65
                    refine lV (Value.int .i64 cc) he66 rfl rfl (he66.want rfl rfl rfl rfl rfl) (rn_mv rfl (he66.op rfl) w44) ?_
                    intro a67 he67
                    clear he66 a66
                    by_cases hb9 : p.c < cc
                    · skip
                      refine lV (Value.bool true) he67 rfl rfl (he67.want rfl rfl rfl rfl rfl) (rn_lsI rfl (he67.op rfl) (he67.op rfl) (decide_eq_true hb9) w44) ?_
                      intro a68 he68
                      clear he67 a67
                      refine lV (Value.bool true) he68 rfl rfl (wanted_plain rfl _) (rn_pk rfl (he68.op rfl) (he68.op rfl) w44) ?_
                      intro a69 he69
                      clear he68 a68
                      refine lV (Value.bool true) he69 rfl rfl (wanted_plain rfl _) (rn_mv rfl (he69.op rfl) w44) ?_
                      intro a70 he70
                      clear he69 a69
                      refine lV (Value.agg #[Value.int .i64 (clampP p ff nn cc).1.l, Value.int .i64 (clampP p ff nn cc).1.c]) he70 rfl rfl (he70.want rfl rfl rfl rfl rfl) (rn_ldp [Value.int .i64 (clampP p ff nn cc).1.l, Value.int .i64 (clampP p ff nn cc).1.c] rfl (he70.op rfl) undZ rfl infoZ2 (hH44.at (i := 1) rfl) rfl) ?_
                      intro a71 he71
                      clear he70 a70
                      refine lV (Value.agg #[Value.int .i64 p.l, Value.int .i64 p.c]) he71 rfl rfl (he71.want rfl rfl rfl rfl rfl) (rn_ldp [Value.int .i64 p.l, Value.int .i64 p.c] rfl (he71.op rfl) undZ rfl infoZ2 (hH44.at (i := 4) rfl) rfl) ?_
                      intro a72 he72
                      clear he71 a71
                      by_cases hb10 : (clampP p ff nn cc).1.l = p.l ∧ (clampP p ff nn cc).1.c = p.c
                      · skip
                        refine lV (Value.bool false) he72 rfl rfl (he72.want rfl rfl rfl rfl rfl) (rn_neZ (p := (clampP p ff nn cc).1) (q := p) rfl (he72.op rfl) (he72.op rfl) (ndT (pl_eq.2 hb10)) w44) ?_
                        intro a73 he73
                        clear he72 a72
                        refine lV (Value.bool false) he73 rfl rfl (wanted_plain rfl _) (rn_pk rfl (he73.op rfl) (he73.op rfl) w44) ?_
                        intro a74 he74
                        clear he73 a73
                        refine wpList_nil ?_
                        refine then_ok ?_
                        refine wp_cond_false (he74.op rfl) ?_
                        refine wp_skip ?_
                        refine then_ok ?_
                        exact ⟨he74.mem ⟨rfl, trivial⟩, hH44⟩
                      · skip
                        refine lV (Value.bool true) he72 rfl rfl (he72.want rfl rfl rfl rfl rfl) (rn_neZ (p := (clampP p ff nn cc).1) (q := p) rfl (he72.op rfl) (he72.op rfl) (ndF (fun h_ => hb10 (pl_eq.1 h_))) w44) ?_
                        intro a73 he73
                        clear he72 a72
                        refine lV (Value.bool true) he73 rfl rfl (wanted_plain rfl _) (rn_pk rfl (he73.op rfl) (he73.op rfl) w44) ?_
                        intro a74 he74
                        clear he73 a73
                        refine wpList_nil ?_
                        refine then_ok ?_
                        refine wp_cond_true (he74.op rfl) ?_
                        refine wp_seq ?_
                        refine wp_region_lit ?_
                        refine lV (Value.bool false) he74 rfl rfl (wanted_plain rfl _) (rn_asg rfl (he74.op rfl) w44) ?_
                        intro a75 he75
                        clear he74 a74
                        refine wpList_nil ?_
                        refine then_ok ?_
                        refine wp_ret ?_
                        try simp only [Exit.then, Exit.inBlock, Exit.noGoto]
                        omega
                    · skip
                      refine lV (Value.bool false) he67 rfl rfl (he67.want rfl rfl rfl rfl rfl) (rn_lsI rfl (he67.op rfl) (he67.op rfl) (decide_eq_false hb9) w44) ?_
                      intro a68 he68
                      clear he67 a67
                      refine lV (Value.bool false) he68 rfl rfl (wanted_plain rfl _) (rn_pk rfl (he68.op rfl) (he68.op rfl) w44) ?_
                      intro a69 he69
                      clear he68 a68
                      refine lV (Value.bool false) he69 rfl rfl (wanted_plain rfl _) (rn_mv rfl (he69.op rfl) w44) ?_
                      intro a70 he70
                      clear he69 a69
                      refine lSkip he70 rfl rfl (he70.wantNot rfl rfl rfl rfl rfl rfl) ?_
                      intro a71 he71
                      clear he70 a70
                      refine lSkip he71 rfl rfl (he71.wantNot rfl rfl rfl rfl rfl rfl) ?_
                      intro a72 he72
                      clear he71 a71
                      refine lSkip he72 rfl rfl (he72.wantNot rfl rfl rfl rfl rfl rfl) ?_
                      intro a73 he73
                      clear he72 a72
                      refine lV (Value.bool false) he73 rfl rfl (wanted_plain rfl _) (rn_pk0 rfl (he73.op rfl) (he73.op rfl) w44) ?_
                      intro a74 he74
                      clear he73 a73
                      refine wpList_nil ?_
                      refine then_ok ?_
                      refine wp_cond_false (he74.op rfl) ?_
                      refine wp_skip ?_
                      refine then_ok ?_
                      exact ⟨he74.mem ⟨rfl, trivial⟩, hH44⟩
                  · skip
                    refine lV (Value.bool false) he61 rfl rfl (he61.want rfl rfl rfl rfl rfl) (rn_geI rfl (he61.op rfl) (he61.op rfl) (decide_eq_false hb8) w44) ?_
                    intro a62 he62
                    clear he61 a61
                    refine lV (Value.bool false) he62 rfl rfl (wanted_plain rfl _) (rn_pk rfl (he62.op rfl) (he62.op rfl) w44) ?_
                    intro a63 he63
                    clear he62 a62
                    refine lV (Value.bool false) he63 rfl rfl (wanted_plain rfl _) (rn_mv rfl (he63.op rfl) w44) ?_
                    intro a64 he64
                    clear he63 a63
                    refine lSkip he64 rfl rfl (he64.wantNot rfl rfl rfl rfl rfl rfl) ?_
                    intro a65 he65
                    clear he64 a64
                    refine lSkip he65 rfl rfl (he65.wantNot rfl rfl rfl rfl rfl rfl) ?_
                    intro a66 he66
                    clear he65 a65
                    refine lSkip he66 rfl rfl (he66.wantNot rfl rfl rfl rfl rfl rfl) ?_
                    intro a67 he67
                    clear he66 a66
                    refine lSkip he67 rfl rfl (he67.wantNot rfl rfl rfl rfl rfl rfl) ?_
                    intro a68 he68
                    clear he67 a67
                    refine lV (Value.bool false) he68 rfl rfl (wanted_plain rfl _) (rn_pk0 rfl (he68.op rfl) (he68.op rfl) w44) ?_
                    intro a69 he69
                    clear he68 a68
                    refine lV (Value.bool false) he69 rfl rfl (wanted_plain rfl _) (rn_mv rfl (he69.op rfl) w44) ?_
                    intro a70 he70
                    clear he69 a69
                    refine lSkip he70 rfl rfl (he70.wantNot rfl rfl rfl rfl rfl rfl) ?_
                    intro a71 he71
                    clear he70 a70
                    refine lSkip he71 rfl rfl (he71.wantNot rfl rfl rfl rfl rfl rfl) ?_
                    intro a72 he72
                    clear he71 a71
                    refine lSkip he72 rfl rfl (he72.wantNot rfl rfl rfl rfl rfl rfl) ?_
                    intro a73 he73
                    clear he72 a72
                    refine lV (Value.bool false) he73 rfl rfl (wanted_plain rfl _) (rn_pk0 rfl (he73.op rfl) (he73.op rfl) w44) ?_
                    intro a74 he74
                    clear he73 a73
                    refine wpList_nil ?_
                    refine then_ok ?_
                    refine wp_cond_false (he74.op rfl) ?_
                    refine wp_skip ?_
                    refine then_ok ?_
                    exact ⟨he74.mem ⟨rfl, trivial⟩, hH44⟩
                · skip
                  refine lV (Value.bool false) he56 rfl rfl (he56.want rfl rfl rfl rfl rfl) (rn_lsI rfl (he56.op rfl) (he56.op rfl) (decide_eq_false hb7) w44) ?_
                  intro a57 he57
                  clear he56 a56
                  refine lV (Value.bool false) he57 rfl rfl (wanted_plain rfl _) (rn_pk rfl (he57.op rfl) (he57.op rfl) w44) ?_
                  intro a58 he58
                  clear he57 a57
                  refine lV (Value.bool false) he58 rfl rfl (wanted_plain rfl _) (rn_mv rfl (he58.op rfl) w44) ?_
                  intro a59 he59
                  clear he58 a58
                  refine lSkip he59 rfl rfl (he59.wantNot rfl rfl rfl rfl rfl rfl) ?_
                  intro a60 he60
                  clear he59 a59
                  refine lSkip he60 rfl rfl (he60.wantNot rfl rfl rfl rfl rfl rfl) ?_
                  intro a61 he61
                  clear he60 a60
                  refine lSkip he61 rfl rfl (he61.wantNot rfl rfl rfl rfl rfl rfl) ?_
                  intro a62 he62
                  clear he61 a61
                  refine lV (Value.bool false) he62 rfl rfl (wanted_plain rfl _) (rn_pk0 rfl (he62.op rfl) (he62.op rfl) w44) ?_
                  intro a63 he63
                  clear he62 a62
                  refine lV (Value.bool false) he63 rfl rfl (wanted_plain rfl _) (rn_mv rfl (he63.op rfl) w44) ?_
                  intro a64 he64
                  clear he63 a63
                  refine lSkip he64 rfl rfl (he64.wantNot rfl rfl rfl rfl rfl rfl) ?_
                  intro a65 he65
                  clear he64 a64
                  refine lSkip he65 rfl rfl (he65.wantNot rfl rfl rfl rfl rfl rfl) ?_
                  intro a66 he66
                  clear he65 a65
                  refine lSkip he66 rfl rfl (he66.wantNot rfl rfl rfl rfl rfl rfl) ?_
                  intro a67 he67
                  clear he66 a66
                  refine lSkip he67 rfl rfl (he67.wantNot rfl rfl rfl rfl rfl rfl) ?_
                  intro a68 he68
                  clear he67 a67
                  refine lV (Value.bool false) he68 rfl rfl (wanted_plain rfl _) (rn_pk0 rfl (he68.op rfl) (he68.op rfl) w44) ?_
                  intro a69 he69
                  clear he68 a68
                  refine lV (Value.bool false) he69 rfl rfl (wanted_plain rfl _) (rn_mv rfl (he69.op rfl) w44) ?_
                  intro a70 he70
                  clear he69 a69
                  refine lSkip he70 rfl rfl (he70.wantNot rfl rfl rfl rfl rfl rfl) ?_
                  intro a71 he71
                  clear he70 a70
                  refine lSkip he71 rfl rfl (he71.wantNot rfl rfl rfl rfl rfl rfl) ?_
                  intro a72 he72
                  clear he71 a71
                  refine lSkip he72 rfl rfl (he72.wantNot rfl rfl rfl rfl rfl rfl) ?_
                  intro a73 he73
                  clear he72 a72
                  refine lV (Value.bool false) he73 rfl rfl (wanted_plain rfl _) (rn_pk0 rfl (he73.op rfl) (he73.op rfl) w44) ?_
                  intro a74 he74
                  clear he73 a73
                  refine wpList_nil ?_
                  refine then_ok ?_
                  refine wp_cond_false (he74.op rfl) ?_
                  refine wp_skip ?_
                  refine then_ok ?_
                  exact ⟨he74.mem ⟨rfl, trivial⟩, hH44⟩
              · skip
                refine lV (Value.bool false) he50 rfl rfl (he50.want rfl rfl rfl rfl rfl) (rn_geI rfl (he50.op rfl) (he50.op rfl) (decide_eq_false hb6) w44) ?_
                intro a51 he51
                clear he50 a50
                refine lV (Value.bool false) he51 rfl rfl (wanted_plain rfl _) (rn_pk rfl (he51.op rfl) (he51.op rfl) w44) ?_
                intro a52 he52
                clear he51 a51
                refine lV (Value.bool false) he52 rfl rfl (wanted_plain rfl _) (rn_mv rfl (he52.op rfl) w44) ?_
                intro a53 he53
                clear he52 a52
                refine lSkip he53 rfl rfl (he53.wantNot rfl rfl rfl rfl rfl rfl) ?_
                intro a54 he54
                clear he53 a53
                refine lSkip he54 rfl rfl (he54.wantNot rfl rfl rfl rfl rfl rfl) ?_
                intro a55 he55
                clear he54 a54
                refine lSkip he55 rfl rfl (he55.wantNot rfl rfl rfl rfl rfl rfl) ?_
                intro a56 he56
                clear he55 a55
                refine lSkip he56 rfl rfl (he56.wantNot rfl rfl rfl rfl rfl rfl) ?_
                intro a57 he57
                clear he56 a56
                refine lV (Value.bool false) he57 rfl rfl (wanted_plain rfl _) (rn_pk0 rfl (he57.op rfl) (he57.op rfl) w44) ?_
                intro a58 he58
                clear he57 a57
                refine lV (Value.bool false) he58 rfl rfl (wanted_plain rfl _) (rn_mv rfl (he58.op rfl) w44) ?_
                intro a59 he59
                clear he58 a58
                refine lSkip he59 rfl rfl (he59.wantNot rfl rfl rfl rfl rfl rfl) ?_
                intro a60 he60
                clear he59 a59
                refine lSkip he60 rfl rfl (he60.wantNot rfl rfl rfl rfl rfl rfl) ?_
                intro a61 he61
                clear he60 a60
                refine lSkip he61 rfl rfl (he61.wantNot rfl rfl rfl rfl rfl rfl) ?_
                intro a62 he62
                clear he61 a61
                refine lV (Value.bool false) he62 rfl rfl (wanted_plain rfl _) (rn_pk0 rfl (he62.op rfl) (he62.op rfl) w44) ?_
                intro a63 he63
                clear he62 a62
                refine lV (Value.bool false) he63 rfl rfl (wanted_plain rfl _) (rn_mv rfl (he63.op rfl) w44) ?_
                intro a64 he64
                clear he63 a63
                refine lSkip he64 rfl rfl (he64.wantNot rfl rfl rfl rfl rfl rfl) ?_
                intro a65 he65
                clear he64 a64
                refine lSkip he65 rfl rfl (he65.wantNot rfl rfl rfl rfl rfl rfl) ?_
                intro a66 he66
                clear he65 a65
                refine lSkip he66 rfl rfl (he66.wantNot rfl rfl rfl rfl rfl rfl) ?_
                intro a67 he67
                clear he66 a66
                refine lSkip he67 rfl rfl (he67.wantNot rfl rfl rfl rfl rfl rfl) ?_
                intro a68 he68
                clear he67 a67
                refine lV (Value.bool false) he68 rfl rfl (wanted_plain rfl _) (rn_pk0 rfl (he68.op rfl) (he68.op rfl) w44) ?_
                intro a69 he69
                clear he68 a68
                refine lV (Value.bool false) he69 rfl rfl (wanted_plain rfl _) (rn_mv rfl (he69.op rfl) w44) ?_
                intro a70 he70
                clear he69 a69
                refine lSkip he70 rfl rfl (he70.wantNot rfl rfl rfl rfl rfl rfl) ?_
                intro a71 he71
                clear he70 a70
                refine lSkip he71 rfl rfl (he71.wantNot rfl rfl rfl rfl rfl rfl) ?_
                intro a72 he72
                clear he71 a71
                refine lSkip he72 rfl rfl (he72.wantNot rfl rfl rfl rfl rfl rfl) ?_
                intro a73 he73
                clear he72 a72
                refine lV (Value.bool false) he73 rfl rfl (wanted_plain rfl _) (rn_pk0 rfl (he73.op rfl) (he73.op rfl) w44) ?_
                intro a74 he74
                clear he73 a73
                refine wpList_nil ?_
                refine then_ok ?_
                refine wp_cond_false (he74.op rfl) ?_
                refine wp_skip ?_
                refine then_ok ?_
                exact ⟨he74.mem ⟨rfl, trivial⟩, hH44⟩
            · skip
              refine lV (Value.bool false) he45 rfl rfl (wanted_plain rfl _) (rn_eqE rfl (he45.op rfl) (he45.op rfl) (beqF hb5) w44) ?_
              intro a46 he46
              clear he45 a45
              refine lV (Value.bool false) he46 rfl rfl (wanted_plain rfl _) (rn_mv rfl (he46.op rfl) w44) ?_
              intro a47 he47
              clear he46 a46
              refine lSkip he47 rfl rfl (he47.wantNot rfl rfl rfl rfl rfl rfl) ?_
              intro a48 he48
              clear he47 a47
              refine lSkip he48 rfl rfl (he48.wantNot rfl rfl rfl rfl rfl rfl) ?_
              intro a49 he49
              clear he48 a48
              refine lSkip he49 rfl rfl (he49.wantNot rfl rfl rfl rfl rfl rfl) ?_
              intro a50 he50
              clear he49 a49
              refine lSkip he50 rfl rfl (he50.wantNot rfl rfl rfl rfl rfl rfl) ?_
              intro a51 he51
              clear he50 a50
              refine lV (Value.bool false) he51 rfl rfl (wanted_plain rfl _) (rn_pk0 rfl (he51.op rfl) (he51.op rfl) w44) ?_
              intro a52 he52
              clear he51 a51
              refine lV (Value.bool false) he52 rfl rfl (wanted_plain rfl _) (rn_mv rfl (he52.op rfl) w44) ?_
              intro a53 he53
              clear he52 a52
              refine lSkip he53 rfl rfl (he53.wantNot rfl rfl rfl rfl rfl rfl) ?_
              intro a54 he54
              clear he53 a53
              refine lSkip he54 rfl rfl (he54.wantNot rfl rfl rfl rfl rfl rfl) ?_
              intro a55 he55
              clear he54 a54
              refine lSkip he55 rfl rfl (he55.wantNot rfl rfl rfl rfl rfl rfl) ?_
              intro a56 he56
              clear he55 a55
              refine lSkip he56 rfl rfl (he56.wantNot rfl rfl rfl rfl rfl rfl) ?_
              intro a57 he57
              clear he56 a56
              refine lV (Value.bool false) he57 rfl rfl (wanted_plain rfl _) (rn_pk0 rfl (he57.op rfl) (he57.op rfl) w44) ?_
              intro a58 he58
              clear he57 a57
              refine lV (Value.bool false) he58 rfl rfl (wanted_plain rfl _) (rn_mv rfl (he58.op rfl) w44) ?_
              intro a59 he59
              clear he58 a58
              refine lSkip he59 rfl rfl (he59.wantNot rfl rfl rfl rfl rfl rfl) ?_
              intro a60 he60
              clear he59 a59
              refine lSkip he60 rfl rfl (he60.wantNot rfl rfl rfl rfl rfl rfl) ?_
              intro a61 he61
              clear he60 a60
              refine lSkip he61 rfl rfl (he61.wantNot rfl rfl rfl rfl rfl rfl) ?_
              intro a62 he62
              clear he61 a61
              refine lV (Value.bool false) he62 rfl rfl (wanted_plain rfl _) (rn_pk0 rfl (he62.op rfl) (he62.op rfl) w44) ?_
              intro a63 he63
              clear he62 a62
              refine lV (Value.bool false) he63 rfl rfl (wanted_plain rfl _) (rn_mv rfl (he63.op rfl) w44) ?_
              intro a64 he64
              clear he63 a63
              refine lSkip he64 rfl rfl (he64.wantNot rfl rfl rfl rfl rfl rfl) ?_
              intro a65 he65
              clear he64 a64
              refine lSkip he65 rfl rfl (he65.wantNot rfl rfl rfl rfl rfl rfl) ?_
              intro a66 he66
              clear he65 a65
              refine lSkip he66 rfl rfl (he66.wantNot rfl rfl rfl rfl rfl rfl) ?_
              intro a67 he67
              clear he66 a66
              refine lSkip he67 rfl rfl (he67.wantNot rfl rfl rfl rfl rfl rfl) ?_
              intro a68 he68
              clear he67 a67
              refine lV (Value.bool false) he68 rfl rfl (wanted_plain rfl _) (rn_pk0 rfl (he68.op rfl) (he68.op rfl) w44) ?_
              intro a69 he69
              clear he68 a68
              refine lV (Value.bool false) he69 rfl rfl (wanted_plain rfl _) (rn_mv rfl (he69.op rfl) w44) ?_
              intro a70 he70
              clear he69 a69
              refine lSkip he70 rfl rfl (he70.wantNot rfl rfl rfl rfl rfl rfl) ?_
              intro a71 he71
              clear he70 a70
              refine lSkip he71 rfl rfl (he71.wantNot rfl rfl rfl rfl rfl rfl) ?_
              intro a72 he72
              clear he71 a71
              refine lSkip he72 rfl rfl (he72.wantNot rfl rfl rfl rfl rfl rfl) ?_
              intro a73 he73
              clear he72 a72
              refine lV (Value.bool false) he73 rfl rfl (wanted_plain rfl _) (rn_pk0 rfl (he73.op rfl) (he73.op rfl) w44) ?_
              intro a74 he74
              clear he73 a73
              refine wpList_nil ?_
              refine then_ok ?_
              refine wp_cond_false (he74.op rfl) ?_
              refine wp_skip ?_
              refine then_ok ?_
              exact ⟨he74.mem ⟨rfl, trivial⟩, hH44⟩
          · skip
            clear hH44 he44
            rintro a45 w45 ⟨he45, hH45⟩
            refine wp_seq ?_
            refine reg_cut (fun a w' => Env 233 [] a ∧ Hp w [⟨p39, 23, #[Value.int .i64 (clampP q ff nn cc).1.l, Value.int .i64 (clampP q ff nn cc).1.c]⟩, ⟨p25, 23, #[Value.int .i64 (clampP p ff nn cc).1.l, Value.int .i64 (clampP p ff nn cc).1.c]⟩, ⟨p5, 23, #[Value.int .i64 r.l, Value.int .i64 r.c]⟩, ⟨p3, 23, #[Value.int .i64 q.l, Value.int .i64 q.c]⟩, ⟨p1, 23, #[Value.int .i64 p.l, Value.int .i64 p.c]⟩] w') ?_ ?_
            · skip
              refine wp_seq ?_
              refine wp_region_lit ?_
              refine lV (Value.agg #[Value.int .i64 p.l, Value.int .i64 p.c]) he45 rfl rfl (wanted_plain rfl _) (rn_ldp [Value.int .i64 p.l, Value.int .i64 p.c] rfl (he45.op rfl) undZ rfl infoZ2 (hH45.at (i := 4) rfl) rfl) ?_
              intro a46 he46
              clear he45 a45
              by_cases hb6 : okP p
              · skip
                refine lC he46 rfl rfl Tryd.func28 (by kernel_rfl) rfl rfl (wanted_plain rfl _) rfl (Text_c p (textL p) 0 (if_pos hb6) w45 (hT.new hH45.new)) ?_
                intro w47 a48 hn he48
                have hH47 := hH45.call hn
                clear he46 a46 hH45 hn
                refine lV (Value.tuple #[Value.string (bs (textL p)), Value.int .i64 0]) he48 rfl rfl (wanted_plain rfl _) (rn_mv rfl (he48.op rfl) w47) ?_
                intro a49 he49
                clear he48 a48
                refine lV (Value.string (bs (textL p))) he49 rfl rfl (wanted_plain rfl _) (rn_ext rfl (he49.op rfl) rfl w47) ?_
                intro a50 he50
                clear he49 a49
                refine lV (Value.int .i64 0) he50 rfl rfl (wanted_plain rfl _) (rn_ext rfl (he50.op rfl) rfl w47) ?_
                intro a51 he51
                clear he50 a50
                refine lV (Value.string (bs (textL p))) he51 rfl rfl (wanted_plain rfl _) (rn_asg rfl (he51.op rfl) w47) ?_
                intro a52 he52
                clear he51 a51
                refine lV (Value.int .i64 0) he52 rfl rfl (wanted_plain rfl _) (rn_asg rfl (he52.op rfl) w47) ?_
                intro a53 he53
                clear he52 a52
                refine wpList_nil ?_
                refine then_ok ?_
                refine wp_seq ?_
                refine wp_region_lit ?_
                refine lV (Value.int .i64 0) he53 rfl rfl (wanted_plain rfl _) (rn_mv rfl (he53.op rfl) w47) ?_
                intro a54 he54
                clear he53 a53
                refine lV (Value.bool true) he54 rfl rfl (wanted_plain rfl _) (rn_eqE rfl (he54.op rfl) (he54.op rfl) (by decide) w47) ?_
                intro a55 he55
                clear he54 a54
                refine lV (Value.bool true) he55 rfl rfl (wanted_plain rfl _) (rn_mv rfl (he55.op rfl) w47) ?_
                intro a56 he56
                clear he55 a55
                refine lV (Value.string (bs (textL p))) he56 rfl rfl (he56.want rfl rfl rfl rfl rfl) (rn_mv rfl (he56.op rfl) w47) ?_
                intro a57 he57
                clear he56 a56
                refine lV (Value.agg #[Value.int .i64 p.l, Value.int .i64 p.c]) he57 rfl rfl (he57.want rfl rfl rfl rfl rfl) (rn_ldp [Value.int .i64 p.l, Value.int .i64 p.c] rfl (he57.op rfl) undZ rfl infoZ2 (hH47.at (i := 4) rfl) rfl) ?_
                intro a58 he58
                clear he57 a57
                refine lC he58 rfl rfl Tryd.func24 (by kernel_rfl) rfl rfl (he58.want rfl rfl rfl rfl rfl) rfl (parses_c (textL p) (by have := textL_len p (by assumption); omega) p 0 true (decide_eq_true (parseE_text p (by assumption))) w47 (hT.new hH47.new)) ?_
                intro w59 a60 hn he60
                have hH59 := hH47.call hn
                clear he58 a58 hH47 hn
                refine lV (Value.bool false) he60 rfl rfl (he60.want rfl rfl rfl rfl rfl) (rn_not (b := true) rfl (he60.op rfl) w59) ?_
                intro a61 he61
                clear he60 a60
                refine lV (Value.bool false) he61 rfl rfl (wanted_plain rfl _) (rn_pk rfl (he61.op rfl) (he61.op rfl) w59) ?_
                intro a62 he62
                clear he61 a61
                refine wpList_nil ?_
                refine then_ok ?_
                refine wp_cond_false (he62.op rfl) ?_
                refine wp_skip ?_
                refine then_ok ?_
                exact ⟨he62.mem trivial, hH59⟩
              · skip
                refine lC he46 rfl rfl Tryd.func28 (by kernel_rfl) rfl rfl (wanted_plain rfl _) rfl (Text_c p [] 2 (if_neg hb6) w45 (hT.new hH45.new)) ?_
                intro w47 a48 hn he48
                have hH47 := hH45.call hn
                clear he46 a46 hH45 hn
                refine lV (Value.tuple #[Value.string (bs []), Value.int .i64 2]) he48 rfl rfl (wanted_plain rfl _) (rn_mv rfl (he48.op rfl) w47) ?_
                intro a49 he49
                clear he48 a48
                refine lV (Value.string (bs [])) he49 rfl rfl (wanted_plain rfl _) (rn_ext rfl (he49.op rfl) rfl w47) ?_
                intro a50 he50
                clear he49 a49
                refine lV (Value.int .i64 2) he50 rfl rfl (wanted_plain rfl _) (rn_ext rfl (he50.op rfl) rfl w47) ?_
                intro a51 he51
                clear he50 a50
                refine lV (Value.string (bs [])) he51 rfl rfl (wanted_plain rfl _) (rn_asg rfl (he51.op rfl) w47) ?_
                intro a52 he52
                clear he51 a51
                refine lV (Value.int .i64 2) he52 rfl rfl (wanted_plain rfl _) (rn_asg rfl (he52.op rfl) w47) ?_
                intro a53 he53
                clear he52 a52
                refine wpList_nil ?_
                refine then_ok ?_
                refine wp_seq ?_
                refine wp_region_lit ?_
                refine lV (Value.int .i64 2) he53 rfl rfl (wanted_plain rfl _) (rn_mv rfl (he53.op rfl) w47) ?_
                intro a54 he54
                clear he53 a53
                refine lV (Value.bool false) he54 rfl rfl (wanted_plain rfl _) (rn_eqE rfl (he54.op rfl) (he54.op rfl) (by decide) w47) ?_
                intro a55 he55
                clear he54 a54
                refine lV (Value.bool false) he55 rfl rfl (wanted_plain rfl _) (rn_mv rfl (he55.op rfl) w47) ?_
                intro a56 he56
                clear he55 a55
                refine lSkip he56 rfl rfl (he56.wantNot rfl rfl rfl rfl rfl rfl) ?_
                intro a57 he57
                clear he56 a56
                refine lSkip he57 rfl rfl (he57.wantNot rfl rfl rfl rfl rfl rfl) ?_
                intro a58 he58
                clear he57 a57
                refine lSkip he58 rfl rfl (he58.wantNot rfl rfl rfl rfl rfl rfl) ?_
                intro a59 he59
                clear he58 a58
                refine lSkip he59 rfl rfl (he59.wantNot rfl rfl rfl rfl rfl rfl) ?_
                intro a60 he60
                clear he59 a59
                refine lV (Value.bool false) he60 rfl rfl (wanted_plain rfl _) (rn_pk0 rfl (he60.op rfl) (he60.op rfl) w47) ?_
                intro a61 he61
                clear he60 a60
                refine wpList_nil ?_
                refine then_ok ?_
                refine wp_cond_false (he61.op rfl) ?_
                refine wp_skip ?_
                refine then_ok ?_
                exact ⟨he61.mem trivial, hH47⟩
            · skip
              clear hH45 he45
              rintro a46 w46 ⟨he46, hH46⟩
              refine wp_seq ?_
              refine wp_region_lit ?_
              refine lC he46 rfl rfl Tryd.func14 (by kernel_rfl) rfl rfl (wanted_plain rfl _) rfl (known_c w46 (hT.new hH46.new)) ?_
              intro w47 a48 hn he48
              have hH47 := hH46.call hn
              clear he46 a46 hH46 hn
              refine lV (Value.bool true) he48 rfl rfl (wanted_plain rfl _) (rn_asg rfl (he48.op rfl) w47) ?_
              intro a49 he49
              clear he48 a48
              refine wpList_nil ?_
              refine then_ok ?_
              refine wp_ret ?_
              try simp only [Exit.then, Exit.inBlock, Exit.noGoto]
              exact ret_env rfl he49 rfl ⟨by first | rfl | (exfalso; omega), hH47.new⟩
end Go.Proofs.YtijaemfalljdoaaDoor
