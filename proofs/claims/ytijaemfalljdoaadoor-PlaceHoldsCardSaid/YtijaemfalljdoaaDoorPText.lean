/-
  The specification's steps; texts of places, and places with texts.
-/
import Derived.Test.YtijaemfalljdoaaDoorPPlace
namespace Go.Proofs.YtijaemfalljdoaaDoor
open Go.RowKit

theorem tq (n c : Int) (hn : I64 n) (hc : colP c) : ∃ t m, n.tdiv c = t ∧ n.tmod c = m ∧ n = t * c + m ∧ -c < m ∧ m < c ∧ -9223372036854775808 ≤ t ∧ t ≤ 9223372036854775807 ∧ (m < 0 → -9223372036854775808 < t) ∧ (0 < m → t < 9223372036854775807) := by
  obtain ⟨h0, h1⟩ := hn
  obtain ⟨c0, c1⟩ := hc
  have e := Int.tdiv_mul_add_tmod n c
  have hm := Int.tmod_lt_of_pos n (show 0 < c by omega)
  have hm2 : -c < n.tmod c := by
    have := Int.tmod_lt_of_pos (-n) (show 0 < c by omega)
    rw [Int.neg_tmod] at this
    omega
  refine ⟨n.tdiv c, n.tmod c, rfl, rfl, e.symm, hm2, hm, ?_⟩
  have s1 : 0 ≤ n → 0 ≤ n.tmod c := fun h => Int.tmod_nonneg _ h
  have s2 : n ≤ 0 → n.tmod c ≤ 0 := fun h => by
    have := Int.tmod_nonneg c (show 0 ≤ -n by omega)
    rw [Int.neg_tmod] at this
    omega
  generalize n.tdiv c = t at *
  generalize n.tmod c = m at *
  rcases Int.lt_or_le t 0 with ht | ht
  · have k : (-t) * 1 ≤ (-t) * c := Int.mul_le_mul_of_nonneg_left c0 (by omega)
    rw [Int.neg_mul, Int.neg_mul] at k
    refine ⟨by omega, by omega, fun hm0 => ?_, by omega⟩
    have k2 : (-t) * 2 ≤ (-t) * c := Int.mul_le_mul_of_nonneg_left (show 2 ≤ c by omega) (by omega)
    rw [Int.neg_mul, Int.neg_mul] at k2
    omega
  · have k : t * 1 ≤ t * c := Int.mul_le_mul_of_nonneg_left c0 ht
    refine ⟨by omega, by omega, by omega, fun hm0 => ?_⟩
    have k2 : t * 2 ≤ t * c := Int.mul_le_mul_of_nonneg_left (show 2 ≤ c by omega) ht
    omega
theorem stepP_q {p : Pl} {n c q r : Int} (hin : colP c ∧ inP p c) (hx : p.l * c + p.c + n = q * c + r) (h0 : 0 ≤ r) (h1 : r < c) : stepP p n c = if 0 ≤ q ∧ q ≤ 1099511627776 then (⟨q, r⟩, 0) else (zPl, 3) := by
  have e1 : (q * c + r) / c = q := by
    rw [Int.add_comm, Int.add_mul_ediv_right _ _ (by omega), Int.ediv_eq_zero_of_lt h0 h1]
    omega
  have e2 : (q * c + r) % c = r := by
    rw [Int.add_comm, Int.add_mul_emod_self_right, Int.emod_eq_of_lt h0 h1]
  obtain ⟨hc, hi⟩ := hin
  unfold stepP
  rw [if_neg (by omega)]
  show (if 0 ≤ p.l * c + p.c + n ∧ p.l * c + p.c + n ≤ 1099511627776 * c + (c - 1) then ((⟨(p.l * c + p.c + n) / c, (p.l * c + p.c + n) % c⟩ : Pl), (0 : Int)) else (zPl, 3)) = _
  rw [hx, e1, e2]
  have k : (0 ≤ q * c + r ∧ q * c + r ≤ 1099511627776 * c + (c - 1)) ↔ (0 ≤ q ∧ q ≤ 1099511627776) := by
    constructor
    · rintro ⟨a, b⟩
      refine ⟨Int.not_lt.1 fun h => ?_, Int.not_lt.1 fun h => ?_⟩
      · have : q * c ≤ (-1) * c := Int.mul_le_mul_of_nonneg_right (by omega) (by omega)
        omega
      · have : 1099511627777 * c ≤ q * c := Int.mul_le_mul_of_nonneg_right (by omega) (by omega)
        omega
    · rintro ⟨a, b⟩
      have k1 : 0 ≤ q * c := Int.mul_nonneg a (by omega)
      have k2 : q * c ≤ 1099511627776 * c := Int.mul_le_mul_of_nonneg_right b (by omega)
      omega
  by_cases h : 0 ≤ q ∧ q ≤ 1099511627776
  · rw [if_pos h, if_pos (k.2 h)]
  · rw [if_neg h, if_neg (fun h2 => h (k.1 h2))]
set_option linter.unusedSimpArgs false in
set_option maxRecDepth 100000 in
set_option maxHeartbeats 1600000 in
theorem RStep_c (p : Pl) (n c : Int) (hn : I64 n) (q : Pl) (er : Int) (h : stepP p n c = (q, er)) (w : World) : Calls Tryd.prog 17 #[.agg #[.int .i64 p.l, .int .i64 p.c], .int .i64 n, .int .i64 c] w fun e w' => e = .returned (.tuple #[q.v, .int .i64 er]) ∧ New w w' := by
  refine calls_args (vl := [Value.agg #[Value.int .i64 p.l, Value.int .i64 p.c], Value.int .i64 n, Value.int .i64 c]) 62 Tryd.func17 rfl Tryd.ntmps17 (by kernel_rfl) (fun a he => ?_)
  have he0 : Env 62 [(0, Value.agg #[Value.int .i64 p.l, Value.int .i64 p.c]), (1, Value.int .i64 n), (2, Value.int .i64 c)] a := he
  clear he
  have hH := Hp.start w
  refine wp_seq ?_
  refine wp_region_lit ?_
  refine lNewP (fun p => .pointer (some ⟨p, 0, none⟩)) he0 hH rfl rfl (wanted_plain rfl _) (rn_boxZ rfl (he0.op rfl) w) ?_
  intro p1 w1 a2 hp hn hH1 he2
  clear he0 a hH hn hp
  refine lNewP (fun p => .pointer (some ⟨p, 0, none⟩)) he2 hH1 rfl rfl (wanted_plain rfl _) (rn_allocZ rfl w1) ?_
  intro p3 w3 a4 hp hn hH3 he4
  clear he2 a2 hH1 hn hp
  refine lV (Value.int .i64 0) he4 rfl rfl (wanted_plain rfl _) (rn_asg rfl (he4.op rfl) w3) ?_
  intro a5 he5
  clear he4 a4
  refine wpList_nil ?_
  refine then_ok ?_
  refine wp_seq ?_
  refine wp_seq ?_
  refine wp_region_lit ?_
  refine lV (Value.agg #[Value.int .i64 p.l, Value.int .i64 p.c]) he5 rfl rfl (wanted_plain rfl _) (rn_ldp [Value.int .i64 p.l, Value.int .i64 p.c] rfl (he5.op rfl) undZ rfl infoZ2 (hH3.at (i := 1) rfl) rfl) ?_
  intro a6 he6
  clear he5 a5
  refine lV (Value.int .i64 c) he6 rfl rfl (wanted_plain rfl _) (rn_mv rfl (he6.op rfl) w3) ?_
  intro a7 he7
  clear he6 a6
  by_cases hb0 : colP c ∧ inP p c
  · skip
    refine lC he7 rfl rfl Tryd.func19 (by kernel_rfl) rfl rfl (wanted_plain rfl _) rfl (RIn_c p c true (decide_eq_true hb0) w3) ?_
    intro w8 a9 hn he9
    have hH8 := hH3.call hn
    clear he7 a7 hH3 hn
    refine lV (Value.bool false) he9 rfl rfl (wanted_plain rfl _) (rn_not (b := true) rfl (he9.op rfl) w8) ?_
    intro a10 he10
    clear he9 a9
    refine wpList_nil ?_
    refine then_ok ?_
    refine wp_cond_false (he10.op rfl) ?_
    refine wp_skip ?_
    refine then_ok ?_
    refine wp_seq ?_
    obtain ⟨t, m, ht, hm, hnt, hm0, hm1, ht0, ht1, ht2, ht3⟩ := tq n c hn (by omega)
    refine wp_region_lit ?_
    refine lV (Value.int .i64 n) he10 rfl rfl (wanted_plain rfl _) (rn_mv rfl (he10.op rfl) w8) ?_
    intro a11 he11
    clear he10 a10
    refine lV (Value.int .i64 c) he11 rfl rfl (wanted_plain rfl _) (rn_mv rfl (he11.op rfl) w8) ?_
    intro a12 he12
    clear he11 a11
    refine lV (Value.int .i64 t) he12 rfl rfl (wanted_plain rfl _) (rn_quoI rfl (he12.op rfl) (he12.op rfl) (by omega) (by rw [ht, i64w (by omega) (by omega)]) w8) ?_
    intro a13 he13
    clear he12 a12
    refine lV (Value.int .i64 t) he13 rfl rfl (wanted_plain rfl _) (rn_asg rfl (he13.op rfl) w8) ?_
    intro a14 he14
    clear he13 a13
    refine wpList_nil ?_
    refine then_ok ?_
    refine wp_seq ?_
    refine wp_region_split1 (S := Hp w [⟨p3, 23, #[Value.int .i64 0, Value.int .i64 0]⟩, ⟨p1, 23, #[Value.int .i64 p.l, Value.int .i64 p.c]⟩]) 7 1 (by kernel_rfl) (by kernel_rfl) (by kernel_rfl) ?_
    have hn : New w8 (World.drew w8) := (Fr.refl _ _).drew
    clear hn
    have hH15 := hH8.drew
    clear hH8
    generalize World.drew w8 = w15 at *
    refine hV (fuel := 6) (i := 0) (Value.pointer (some ⟨p1, 1, none⟩)) he14 rfl rfl rfl (by kernel_rfl) (by kernel_rfl) (by kernel_rfl) (fun _ _ _ h => h) (wanted_plain rfl _) (fun w' _ => rn_faZ1 rfl (he14.op rfl) rfl w') hH15 ?_
    intro a16 he16
    clear he14 a14
    refine hV (fuel := 5) (i := 1) (Value.int .i64 p.c) he16 rfl rfl rfl (by kernel_rfl) (by kernel_rfl) (by kernel_rfl) (fun _ _ _ h => h) (wanted_plain rfl _) (fun w' hw' => rn_ld1 rfl (he16.op rfl) Tryd.underlying3 (hw'.at (i := 1) rfl) rfl) hH15 ?_
    intro a17 he17
    clear he16 a16
    refine hV (fuel := 4) (i := 2) (Value.int .i64 n) he17 rfl rfl rfl (by kernel_rfl) (by kernel_rfl) (by kernel_rfl) (fun _ _ _ h => h) (wanted_plain rfl _) (fun w' _ => rn_mv rfl (he17.op rfl) w') hH15 ?_
    intro a18 he18
    clear he17 a17
    refine hV (fuel := 3) (i := 3) (Value.int .i64 c) he18 rfl rfl rfl (by kernel_rfl) (by kernel_rfl) (by kernel_rfl) (fun _ _ _ h => h) (wanted_plain rfl _) (fun w' _ => rn_mv rfl (he18.op rfl) w') hH15 ?_
    intro a19 he19
    clear he18 a18
    refine hV (fuel := 2) (i := 4) (Value.int .i64 m) he19 rfl rfl rfl (by kernel_rfl) (by kernel_rfl) (by kernel_rfl) (fun _ _ _ h => h) (wanted_plain rfl _) (fun w' _ => rn_remI rfl (he19.op rfl) (he19.op rfl) (by omega) hm w') hH15 ?_
    intro a20 he20
    clear he19 a19
    refine hV (fuel := 1) (i := 5) (Value.int .i64 (p.c + m)) he20 rfl rfl rfl (by kernel_rfl) (by kernel_rfl) (by kernel_rfl) (fun _ _ _ h => h) (wanted_plain rfl _) (fun w' _ => rn_addI rfl (he20.op rfl) (he20.op rfl) (i64w (by omega) (by omega)) w') hH15 ?_
    intro a21 he21
    clear he20 a20
    refine hV (fuel := 0) (i := 6) (Value.pointer (some ⟨p1, 1, none⟩)) he21 rfl rfl rfl (by kernel_rfl) (by kernel_rfl) (by kernel_rfl) (fun _ _ _ h => h) (wanted_plain rfl _) (fun w' _ => rn_faZ1 rfl (he21.op rfl) rfl w') hH15 ?_
    intro a22 he22
    clear he21 a21
    refine wpAnyH_done (by kernel_rfl) ?_ _
    refine head_done ?_
    refine hSetV (fuel := 0) (n := 7) 1 #[Value.int .i64 (p.c + m)] (cs := #[Value.int .i64 p.l, Value.int .i64 (p.c + m)]) he22 hH15 (by kernel_rfl) rfl rfl (wanted_plain rfl _) rfl rfl rfl rfl rfl (by kernel_rfl) (by kernel_rfl) (by kernel_rfl) rfl ?_
    intro w23 a24 hH23 hf he24
    replace hH23 : Hp w [⟨p3, 23, #[Value.int .i64 0, Value.int .i64 0]⟩, ⟨p1, 23, #[Value.int .i64 p.l, Value.int .i64 (p.c + m)]⟩] w23 := hH23
    refine ⟨trivial, ?_⟩
    clear hf
    clear he22 a22 hH15
    refine wpAnyH_done (by kernel_rfl) ?_ _
    refine then_ok ?_
    refine wp_seq ?_
    refine wp_seq ?_
    refine wp_region_lit ?_
    refine lV (Value.pointer (some ⟨p1, 1, none⟩)) he24 rfl rfl (wanted_plain rfl _) (rn_faZ1 rfl (he24.op rfl) rfl w23) ?_
    intro a25 he25
    clear he24 a24
    refine lV (Value.int .i64 (p.c + m)) he25 rfl rfl (wanted_plain rfl _) (rn_ld1 rfl (he25.op rfl) Tryd.underlying3 (hH23.at (i := 1) rfl) rfl) ?_
    intro a26 he26
    clear he25 a25
    by_cases hb1 : (p.c + m) < 0
    · skip
      refine lV (Value.bool true) he26 rfl rfl (wanted_plain rfl _) (rn_lsI rfl (he26.op rfl) (he26.op rfl) (decide_eq_true hb1) w23) ?_
      intro a27 he27
      clear he26 a26
      refine wpList_nil ?_
      refine then_ok ?_
      refine wp_cond_true (he27.op rfl) ?_
      refine wp_seq ?_
      refine wp_region_lit ?_
      refine lV (Value.pointer (some ⟨p1, 1, none⟩)) he27 rfl rfl (wanted_plain rfl _) (rn_faZ1 rfl (he27.op rfl) rfl w23) ?_
      intro a28 he28
      clear he27 a27
      refine lV (Value.int .i64 (p.c + m)) he28 rfl rfl (wanted_plain rfl _) (rn_ld1 rfl (he28.op rfl) Tryd.underlying3 (hH23.at (i := 1) rfl) rfl) ?_
      intro a29 he29
      clear he28 a28
      refine lV (Value.int .i64 c) he29 rfl rfl (wanted_plain rfl _) (rn_mv rfl (he29.op rfl) w23) ?_
      intro a30 he30
      clear he29 a29
      refine lV (Value.int .i64 ((p.c + m) + c)) he30 rfl rfl (wanted_plain rfl _) (rn_addI rfl (he30.op rfl) (he30.op rfl) (i64w (by omega) (by omega)) w23) ?_
      intro a31 he31
      clear he30 a30
      refine lV (Value.pointer (some ⟨p1, 1, none⟩)) he31 rfl rfl (wanted_plain rfl _) (rn_faZ1 rfl (he31.op rfl) rfl w23) ?_
      intro a32 he32
      clear he31 a31
      refine lSetF 1 #[Value.int .i64 ((p.c + m) + c)] (cs := #[Value.int .i64 p.l, Value.int .i64 ((p.c + m) + c)]) he32 hH23 rfl (wanted_plain rfl _) rfl rfl rfl rfl rfl (by kernel_rfl) (by kernel_rfl) (by kernel_rfl) rfl ?_
      intro w33 a34 hH33 hf he34
      replace hH33 : Hp w [⟨p3, 23, #[Value.int .i64 0, Value.int .i64 0]⟩, ⟨p1, 23, #[Value.int .i64 p.l, Value.int .i64 ((p.c + m) + c)]⟩] w33 := hH33
      clear hf
      clear he32 a32 hH23
      refine wpList_nil ?_
      refine then_ok ?_
      refine wp_region_lit ?_
      refine lV (Value.int .i64 t) he34 rfl rfl (wanted_plain rfl _) (rn_mv rfl (he34.op rfl) w33) ?_
      intro a35 he35
      clear he34 a34
      refine lV (Value.int .i64 (t - 1)) he35 rfl rfl (wanted_plain rfl _) (rn_subI rfl (he35.op rfl) (he35.op rfl) (i64w (by omega) (by omega)) w33) ?_
      intro a36 he36
      clear he35 a35
      refine lV (Value.int .i64 (t - 1)) he36 rfl rfl (wanted_plain rfl _) (rn_asg rfl (he36.op rfl) w33) ?_
      intro a37 he37
      clear he36 a36
      refine wpList_nil ?_
      refine then_ok ?_
      refine wp_seq ?_
      refine wp_seq ?_
      refine wp_region_lit ?_
      refine lV (Value.pointer (some ⟨p1, 1, none⟩)) he37 rfl rfl (wanted_plain rfl _) (rn_faZ1 rfl (he37.op rfl) rfl w33) ?_
      intro a38 he38
      clear he37 a37
      refine lV (Value.int .i64 ((p.c + m) + c)) he38 rfl rfl (wanted_plain rfl _) (rn_ld1 rfl (he38.op rfl) Tryd.underlying3 (hH33.at (i := 1) rfl) rfl) ?_
      intro a39 he39
      clear he38 a38
      refine lV (Value.int .i64 c) he39 rfl rfl (wanted_plain rfl _) (rn_mv rfl (he39.op rfl) w33) ?_
      intro a40 he40
      clear he39 a39
      by_cases hb2 : c ≤ ((p.c + m) + c)
      · skip
        refine lV (Value.bool true) he40 rfl rfl (wanted_plain rfl _) (rn_geI rfl (he40.op rfl) (he40.op rfl) (decide_eq_true hb2) w33) ?_
        intro a41 he41
        clear he40 a40
        refine wpList_nil ?_
        refine then_ok ?_
        refine wp_cond_true (he41.op rfl) ?_
        refine wp_seq ?_
        refine wp_region_lit ?_
        refine lV (Value.pointer (some ⟨p1, 1, none⟩)) he41 rfl rfl (wanted_plain rfl _) (rn_faZ1 rfl (he41.op rfl) rfl w33) ?_
        intro a42 he42
        clear he41 a41
        refine lV (Value.int .i64 ((p.c + m) + c)) he42 rfl rfl (wanted_plain rfl _) (rn_ld1 rfl (he42.op rfl) Tryd.underlying3 (hH33.at (i := 1) rfl) rfl) ?_
        intro a43 he43
        clear he42 a42
        refine lV (Value.int .i64 c) he43 rfl rfl (wanted_plain rfl _) (rn_mv rfl (he43.op rfl) w33) ?_
        intro a44 he44
        clear he43 a43
        refine lV (Value.int .i64 (((p.c + m) + c) - c)) he44 rfl rfl (wanted_plain rfl _) (rn_subI rfl (he44.op rfl) (he44.op rfl) (i64w (by omega) (by omega)) w33) ?_
        intro a45 he45
        clear he44 a44
        refine lV (Value.pointer (some ⟨p1, 1, none⟩)) he45 rfl rfl (wanted_plain rfl _) (rn_faZ1 rfl (he45.op rfl) rfl w33) ?_
        intro a46 he46
        clear he45 a45
        refine lSetF 1 #[Value.int .i64 (((p.c + m) + c) - c)] (cs := #[Value.int .i64 p.l, Value.int .i64 (((p.c + m) + c) - c)]) he46 hH33 rfl (wanted_plain rfl _) rfl rfl rfl rfl rfl (by kernel_rfl) (by kernel_rfl) (by kernel_rfl) rfl ?_
        intro w47 a48 hH47 hf he48
        replace hH47 : Hp w [⟨p3, 23, #[Value.int .i64 0, Value.int .i64 0]⟩, ⟨p1, 23, #[Value.int .i64 p.l, Value.int .i64 (((p.c + m) + c) - c)]⟩] w47 := hH47
        clear hf
        clear he46 a46 hH33
        refine wpList_nil ?_
        refine then_ok ?_
        refine wp_region_lit ?_
        refine lV (Value.int .i64 (t - 1)) he48 rfl rfl (wanted_plain rfl _) (rn_mv rfl (he48.op rfl) w47) ?_
        intro a49 he49
        clear he48 a48
        refine lV (Value.int .i64 ((t - 1) + 1)) he49 rfl rfl (wanted_plain rfl _) (rn_addI rfl (he49.op rfl) (he49.op rfl) (i64w (by omega) (by omega)) w47) ?_
        intro a50 he50
        clear he49 a49
        refine lV (Value.int .i64 ((t - 1) + 1)) he50 rfl rfl (wanted_plain rfl _) (rn_asg rfl (he50.op rfl) w47) ?_
        intro a51 he51
        clear he50 a50
        refine wpList_nil ?_
        refine then_ok ?_
        refine wp_seq ?_
        refine wp_seq ?_
        refine wp_region_lit ?_
        refine lV (Value.int .i64 ((t - 1) + 1)) he51 rfl rfl (wanted_plain rfl _) (rn_mv rfl (he51.op rfl) w47) ?_
        intro a52 he52
        clear he51 a51
        by_cases hb3 : ((t - 1) + 1) < (-1099511627777)
        · skip
          refine lV (Value.bool true) he52 rfl rfl (wanted_plain rfl _) (rn_lsI rfl (he52.op rfl) (he52.op rfl) (decide_eq_true hb3) w47) ?_
          intro a53 he53
          clear he52 a52
          refine lV (Value.bool true) he53 rfl rfl (wanted_plain rfl _) (rn_mv rfl (he53.op rfl) w47) ?_
          intro a54 he54
          clear he53 a53
          refine lSkip he54 rfl rfl (he54.wantNot rfl rfl rfl rfl rfl rfl) ?_
          intro a55 he55
          clear he54 a54
          refine lSkip he55 rfl rfl (he55.wantNot rfl rfl rfl rfl rfl rfl) ?_
          intro a56 he56
          clear he55 a55
          refine lV (Value.bool true) he56 rfl rfl (wanted_plain rfl _) (rn_pk rfl (he56.op rfl) (he56.op rfl) w47) ?_
          intro a57 he57
          clear he56 a56
          refine wpList_nil ?_
          refine then_ok ?_
          refine wp_cond_true (he57.op rfl) ?_
          refine wp_seq ?_
          refine wp_region_lit ?_
          refine lV (Value.agg #[Value.int .i64 0, Value.int .i64 0]) he57 rfl rfl (wanted_plain rfl _) (rn_bZ rfl  w47) ?_
          intro a58 he58
          clear he57 a57
          refine lSetF 0 #[Value.int .i64 0, Value.int .i64 0] (cs := #[Value.int .i64 0, Value.int .i64 0]) he58 hH47 rfl (wanted_plain rfl _) rfl rfl rfl rfl rfl (by kernel_rfl) (by kernel_rfl) (by kernel_rfl) rfl ?_
          intro w59 a60 hH59 hf he60
          replace hH59 : Hp w [⟨p3, 23, #[Value.int .i64 0, Value.int .i64 0]⟩, ⟨p1, 23, #[Value.int .i64 p.l, Value.int .i64 (((p.c + m) + c) - c)]⟩] w59 := hH59
          clear hf
          clear he58 a58 hH47
          refine lV (Value.int .i64 3) he60 rfl rfl (wanted_plain rfl _) (rn_asg rfl (he60.op rfl) w59) ?_
          intro a61 he61
          clear he60 a60
          refine wpList_nil ?_
          refine then_ok ?_
          refine wp_ret ?_
          try simp only [Exit.then, Exit.inBlock, Exit.noGoto]
          exact ret_rowt rfl he61 rfl rfl (hH59.at (i := 0) rfl) undZ rfl infoZ2 ⟨by first | (exfalso; omega) | (unfold stepP at h; rw [if_pos (by omega)] at h; obtain ⟨rfl, rfl⟩ := Prod.mk.inj h; rfl) | ((first | rw [stepP_q (q := p.l + t) (r := p.c + m) (by omega) (by rw [Int.add_mul]; omega) (by omega) (by omega)] at h | rw [stepP_q (q := p.l + (t - 1)) (r := p.c + m + c) (by omega) (by rw [Int.add_mul, Int.sub_mul]; omega) (by omega) (by omega)] at h | rw [stepP_q (q := p.l + (t + 1)) (r := p.c + m - c) (by omega) (by rw [Int.add_mul, Int.add_mul]; omega) (by omega) (by omega)] at h); (first | rw [if_pos (by omega)] at h | rw [if_neg (by omega)] at h); obtain ⟨rfl, rfl⟩ := Prod.mk.inj h; rfl), hH59.new⟩
        · skip
          refine lV (Value.bool false) he52 rfl rfl (wanted_plain rfl _) (rn_lsI rfl (he52.op rfl) (he52.op rfl) (decide_eq_false hb3) w47) ?_
          intro a53 he53
          clear he52 a52
          refine lV (Value.bool false) he53 rfl rfl (wanted_plain rfl _) (rn_mv rfl (he53.op rfl) w47) ?_
          intro a54 he54
          clear he53 a53
          refine lV (Value.int .i64 ((t - 1) + 1)) he54 rfl rfl (he54.want rfl rfl rfl rfl rfl) (rn_mv rfl (he54.op rfl) w47) ?_
          intro a55 he55
          clear he54 a54
          by_cases hb4 : 1099511627777 < ((t - 1) + 1)
          · skip
            refine lV (Value.bool true) he55 rfl rfl (he55.want rfl rfl rfl rfl rfl) (rn_gtI rfl (he55.op rfl) (he55.op rfl) (decide_eq_true hb4) w47) ?_
            intro a56 he56
            clear he55 a55
            refine lV (Value.bool true) he56 rfl rfl (wanted_plain rfl _) (rn_pk0 rfl (he56.op rfl) (he56.op rfl) w47) ?_
            intro a57 he57
            clear he56 a56
            refine wpList_nil ?_
            refine then_ok ?_
            refine wp_cond_true (he57.op rfl) ?_
            refine wp_seq ?_
            refine wp_region_lit ?_
            refine lV (Value.agg #[Value.int .i64 0, Value.int .i64 0]) he57 rfl rfl (wanted_plain rfl _) (rn_bZ rfl  w47) ?_
            intro a58 he58
            clear he57 a57
            refine lSetF 0 #[Value.int .i64 0, Value.int .i64 0] (cs := #[Value.int .i64 0, Value.int .i64 0]) he58 hH47 rfl (wanted_plain rfl _) rfl rfl rfl rfl rfl (by kernel_rfl) (by kernel_rfl) (by kernel_rfl) rfl ?_
            intro w59 a60 hH59 hf he60
            replace hH59 : Hp w [⟨p3, 23, #[Value.int .i64 0, Value.int .i64 0]⟩, ⟨p1, 23, #[Value.int .i64 p.l, Value.int .i64 (((p.c + m) + c) - c)]⟩] w59 := hH59
            clear hf
            clear he58 a58 hH47
            refine lV (Value.int .i64 3) he60 rfl rfl (wanted_plain rfl _) (rn_asg rfl (he60.op rfl) w59) ?_
            intro a61 he61
            clear he60 a60
            refine wpList_nil ?_
            refine then_ok ?_
            refine wp_ret ?_
            try simp only [Exit.then, Exit.inBlock, Exit.noGoto]
            exact ret_rowt rfl he61 rfl rfl (hH59.at (i := 0) rfl) undZ rfl infoZ2 ⟨by first | (exfalso; omega) | (unfold stepP at h; rw [if_pos (by omega)] at h; obtain ⟨rfl, rfl⟩ := Prod.mk.inj h; rfl) | ((first | rw [stepP_q (q := p.l + t) (r := p.c + m) (by omega) (by rw [Int.add_mul]; omega) (by omega) (by omega)] at h | rw [stepP_q (q := p.l + (t - 1)) (r := p.c + m + c) (by omega) (by rw [Int.add_mul, Int.sub_mul]; omega) (by omega) (by omega)] at h | rw [stepP_q (q := p.l + (t + 1)) (r := p.c + m - c) (by omega) (by rw [Int.add_mul, Int.add_mul]; omega) (by omega) (by omega)] at h); (first | rw [if_pos (by omega)] at h | rw [if_neg (by omega)] at h); obtain ⟨rfl, rfl⟩ := Prod.mk.inj h; rfl), hH59.new⟩
          · skip
            refine lV (Value.bool false) he55 rfl rfl (he55.want rfl rfl rfl rfl rfl) (rn_gtI rfl (he55.op rfl) (he55.op rfl) (decide_eq_false hb4) w47) ?_
            intro a56 he56
            clear he55 a55
            refine lV (Value.bool false) he56 rfl rfl (wanted_plain rfl _) (rn_pk0 rfl (he56.op rfl) (he56.op rfl) w47) ?_
            intro a57 he57
            clear he56 a56
            refine wpList_nil ?_
            refine then_ok ?_
            refine wp_cond_false (he57.op rfl) ?_
            refine wp_skip ?_
            refine then_ok ?_
            refine wp_seq ?_
            refine wp_region_lit ?_
            refine lV (Value.pointer (some ⟨p1, 0, none⟩)) he57 rfl rfl (wanted_plain rfl _) (rn_faZ0 rfl (he57.op rfl) rfl w47) ?_
            intro a58 he58
            clear he57 a57
            refine lV (Value.int .i64 p.l) he58 rfl rfl (wanted_plain rfl _) (rn_ld1 rfl (he58.op rfl) Tryd.underlying3 (hH47.at (i := 1) rfl) rfl) ?_
            intro a59 he59
            clear he58 a58
            refine lV (Value.int .i64 ((t - 1) + 1)) he59 rfl rfl (wanted_plain rfl _) (rn_mv rfl (he59.op rfl) w47) ?_
            intro a60 he60
            clear he59 a59
            refine lV (Value.int .i64 (p.l + ((t - 1) + 1))) he60 rfl rfl (wanted_plain rfl _) (rn_addI rfl (he60.op rfl) (he60.op rfl) (i64w (by omega) (by omega)) w47) ?_
            intro a61 he61
            clear he60 a60
            refine lV (Value.pointer (some ⟨p1, 0, none⟩)) he61 rfl rfl (wanted_plain rfl _) (rn_faZ0 rfl (he61.op rfl) rfl w47) ?_
            intro a62 he62
            clear he61 a61
            refine lSetF 1 #[Value.int .i64 (p.l + ((t - 1) + 1))] (cs := #[Value.int .i64 (p.l + ((t - 1) + 1)), Value.int .i64 (((p.c + m) + c) - c)]) he62 hH47 rfl (wanted_plain rfl _) rfl rfl rfl rfl rfl (by kernel_rfl) (by kernel_rfl) (by kernel_rfl) rfl ?_
            intro w63 a64 hH63 hf he64
            replace hH63 : Hp w [⟨p3, 23, #[Value.int .i64 0, Value.int .i64 0]⟩, ⟨p1, 23, #[Value.int .i64 (p.l + ((t - 1) + 1)), Value.int .i64 (((p.c + m) + c) - c)]⟩] w63 := hH63
            clear hf
            clear he62 a62 hH47
            refine wpList_nil ?_
            refine then_ok ?_
            refine wp_seq ?_
            refine wp_seq ?_
            refine wp_region_lit ?_
            refine lV (Value.agg #[Value.int .i64 (p.l + ((t - 1) + 1)), Value.int .i64 (((p.c + m) + c) - c)]) he64 rfl rfl (wanted_plain rfl _) (rn_ldp [Value.int .i64 (p.l + ((t - 1) + 1)), Value.int .i64 (((p.c + m) + c) - c)] rfl (he64.op rfl) undZ rfl infoZ2 (hH63.at (i := 1) rfl) rfl) ?_
            intro a65 he65
            clear he64 a64
            by_cases hb5 : okP (⟨(p.l + ((t - 1) + 1)), (((p.c + m) + c) - c)⟩ : Pl)
            · skip
              try dsimp only [okP, befP, colP, inP, argC, idxP] at hb5
              refine lC he65 rfl rfl Tryd.func10 (by kernel_rfl) rfl rfl (wanted_plain rfl _) rfl (RValid_c (⟨(p.l + ((t - 1) + 1)), (((p.c + m) + c) - c)⟩ : Pl) true (decide_eq_true hb5) w63) ?_
              intro w66 a67 hn he67
              have hH66 := hH63.call hn
              clear he65 a65 hH63 hn
              refine lV (Value.bool false) he67 rfl rfl (wanted_plain rfl _) (rn_not (b := true) rfl (he67.op rfl) w66) ?_
              intro a68 he68
              clear he67 a67
              refine wpList_nil ?_
              refine then_ok ?_
              refine wp_cond_false (he68.op rfl) ?_
              refine wp_skip ?_
              refine then_ok ?_
              refine wp_seq ?_
              refine wp_region_lit ?_
              refine lV (Value.agg #[Value.int .i64 (p.l + ((t - 1) + 1)), Value.int .i64 (((p.c + m) + c) - c)]) he68 rfl rfl (wanted_plain rfl _) (rn_ldp [Value.int .i64 (p.l + ((t - 1) + 1)), Value.int .i64 (((p.c + m) + c) - c)] rfl (he68.op rfl) undZ rfl infoZ2 (hH66.at (i := 1) rfl) rfl) ?_
              intro a69 he69
              clear he68 a68
              refine lSetF 0 #[Value.int .i64 (p.l + ((t - 1) + 1)), Value.int .i64 (((p.c + m) + c) - c)] (cs := #[Value.int .i64 (p.l + ((t - 1) + 1)), Value.int .i64 (((p.c + m) + c) - c)]) he69 hH66 rfl (wanted_plain rfl _) rfl rfl rfl rfl rfl (by kernel_rfl) (by kernel_rfl) (by kernel_rfl) rfl ?_
              intro w70 a71 hH70 hf he71
              replace hH70 : Hp w [⟨p3, 23, #[Value.int .i64 (p.l + ((t - 1) + 1)), Value.int .i64 (((p.c + m) + c) - c)]⟩, ⟨p1, 23, #[Value.int .i64 (p.l + ((t - 1) + 1)), Value.int .i64 (((p.c + m) + c) - c)]⟩] w70 := hH70
              clear hf
              clear he69 a69 hH66
              refine lV (Value.int .i64 0) he71 rfl rfl (wanted_plain rfl _) (rn_asg rfl (he71.op rfl) w70) ?_
              intro a72 he72
              clear he71 a71
              refine wpList_nil ?_
              refine then_ok ?_
              refine wp_ret ?_
              try simp only [Exit.then, Exit.inBlock, Exit.noGoto]
              exact ret_rowt rfl he72 rfl rfl (hH70.at (i := 0) rfl) undZ rfl infoZ2 ⟨by first | (exfalso; omega) | (unfold stepP at h; rw [if_pos (by omega)] at h; obtain ⟨rfl, rfl⟩ := Prod.mk.inj h; rfl) | ((first | rw [stepP_q (q := p.l + t) (r := p.c + m) (by omega) (by rw [Int.add_mul]; omega) (by omega) (by omega)] at h | rw [stepP_q (q := p.l + (t - 1)) (r := p.c + m + c) (by omega) (by rw [Int.add_mul, Int.sub_mul]; omega) (by omega) (by omega)] at h | rw [stepP_q (q := p.l + (t + 1)) (r := p.c + m - c) (by omega) (by rw [Int.add_mul, Int.add_mul]; omega) (by omega) (by omega)] at h); (first | rw [if_pos (by omega)] at h | rw [if_neg (by omega)] at h); obtain ⟨rfl, rfl⟩ := Prod.mk.inj h; rfl), hH70.new⟩
            · skip
              try dsimp only [okP, befP, colP, inP, argC, idxP] at hb5
              refine lC he65 rfl rfl Tryd.func10 (by kernel_rfl) rfl rfl (wanted_plain rfl _) rfl (RValid_c (⟨(p.l + ((t - 1) + 1)), (((p.c + m) + c) - c)⟩ : Pl) false (decide_eq_false hb5) w63) ?_
              intro w66 a67 hn he67
              have hH66 := hH63.call hn
              clear he65 a65 hH63 hn
              refine lV (Value.bool true) he67 rfl rfl (wanted_plain rfl _) (rn_not (b := false) rfl (he67.op rfl) w66) ?_
              intro a68 he68
              clear he67 a67
              refine wpList_nil ?_
              refine then_ok ?_
              refine wp_cond_true (he68.op rfl) ?_
              refine wp_seq ?_
              refine wp_region_lit ?_
              refine lV (Value.agg #[Value.int .i64 0, Value.int .i64 0]) he68 rfl rfl (wanted_plain rfl _) (rn_bZ rfl  w66) ?_
              intro a69 he69
              clear he68 a68
              refine lSetF 0 #[Value.int .i64 0, Value.int .i64 0] (cs := #[Value.int .i64 0, Value.int .i64 0]) he69 hH66 rfl (wanted_plain rfl _) rfl rfl rfl rfl rfl (by kernel_rfl) (by kernel_rfl) (by kernel_rfl) rfl ?_
              intro w70 a71 hH70 hf he71
              replace hH70 : Hp w [⟨p3, 23, #[Value.int .i64 0, Value.int .i64 0]⟩, ⟨p1, 23, #[Value.int .i64 (p.l + ((t - 1) + 1)), Value.int .i64 (((p.c + m) + c) - c)]⟩] w70 := hH70
              clear hf
              clear he69 a69 hH66
              refine lV (Value.int .i64 3) he71 rfl rfl (wanted_plain rfl _) (rn_asg rfl (he71.op rfl) w70) ?_
              intro a72 he72
              clear he71 a71
              refine wpList_nil ?_
              refine then_ok ?_
              refine wp_ret ?_
              try simp only [Exit.then, Exit.inBlock, Exit.noGoto]
              exact ret_rowt rfl he72 rfl rfl (hH70.at (i := 0) rfl) undZ rfl infoZ2 ⟨by first | (exfalso; omega) | (unfold stepP at h; rw [if_pos (by omega)] at h; obtain ⟨rfl, rfl⟩ := Prod.mk.inj h; rfl) | ((first | rw [stepP_q (q := p.l + t) (r := p.c + m) (by omega) (by rw [Int.add_mul]; omega) (by omega) (by omega)] at h | rw [stepP_q (q := p.l + (t - 1)) (r := p.c + m + c) (by omega) (by rw [Int.add_mul, Int.sub_mul]; omega) (by omega) (by omega)] at h | rw [stepP_q (q := p.l + (t + 1)) (r := p.c + m - c) (by omega) (by rw [Int.add_mul, Int.add_mul]; omega) (by omega) (by omega)] at h); (first | rw [if_pos (by omega)] at h | rw [if_neg (by omega)] at h); obtain ⟨rfl, rfl⟩ := Prod.mk.inj h; rfl), hH70.new⟩
      · skip
        refine lV (Value.bool false) he40 rfl rfl (wanted_plain rfl _) (rn_geI rfl (he40.op rfl) (he40.op rfl) (decide_eq_false hb2) w33) ?_
        intro a41 he41
        clear he40 a40
        refine wpList_nil ?_
        refine then_ok ?_
        refine wp_cond_false (he41.op rfl) ?_
        refine wp_skip ?_
        refine then_ok ?_
        refine wp_seq ?_
        refine wp_seq ?_
        refine wp_region_lit ?_
        refine lV (Value.int .i64 (t - 1)) he41 rfl rfl (wanted_plain rfl _) (rn_mv rfl (he41.op rfl) w33) ?_
        intro a42 he42
        clear he41 a41
        by_cases hb3 : (t - 1) < (-1099511627777)
        · skip
          refine lV (Value.bool true) he42 rfl rfl (wanted_plain rfl _) (rn_lsI rfl (he42.op rfl) (he42.op rfl) (decide_eq_true hb3) w33) ?_
          intro a43 he43
          clear he42 a42
          refine lV (Value.bool true) he43 rfl rfl (wanted_plain rfl _) (rn_mv rfl (he43.op rfl) w33) ?_
          intro a44 he44
          clear he43 a43
          refine lSkip he44 rfl rfl (he44.wantNot rfl rfl rfl rfl rfl rfl) ?_
          intro a45 he45
          clear he44 a44
          refine lSkip he45 rfl rfl (he45.wantNot rfl rfl rfl rfl rfl rfl) ?_
          intro a46 he46
          clear he45 a45
          refine lV (Value.bool true) he46 rfl rfl (wanted_plain rfl _) (rn_pk rfl (he46.op rfl) (he46.op rfl) w33) ?_
          intro a47 he47
          clear he46 a46
          refine wpList_nil ?_
          refine then_ok ?_
          refine wp_cond_true (he47.op rfl) ?_
          refine wp_seq ?_
          refine wp_region_lit ?_
          refine lV (Value.agg #[Value.int .i64 0, Value.int .i64 0]) he47 rfl rfl (wanted_plain rfl _) (rn_bZ rfl  w33) ?_
          intro a48 he48
          clear he47 a47
          refine lSetF 0 #[Value.int .i64 0, Value.int .i64 0] (cs := #[Value.int .i64 0, Value.int .i64 0]) he48 hH33 rfl (wanted_plain rfl _) rfl rfl rfl rfl rfl (by kernel_rfl) (by kernel_rfl) (by kernel_rfl) rfl ?_
          intro w49 a50 hH49 hf he50
          replace hH49 : Hp w [⟨p3, 23, #[Value.int .i64 0, Value.int .i64 0]⟩, ⟨p1, 23, #[Value.int .i64 p.l, Value.int .i64 ((p.c + m) + c)]⟩] w49 := hH49
          clear hf
          clear he48 a48 hH33
          refine lV (Value.int .i64 3) he50 rfl rfl (wanted_plain rfl _) (rn_asg rfl (he50.op rfl) w49) ?_
          intro a51 he51
          clear he50 a50
          refine wpList_nil ?_
          refine then_ok ?_
          refine wp_ret ?_
          try simp only [Exit.then, Exit.inBlock, Exit.noGoto]
          exact ret_rowt rfl he51 rfl rfl (hH49.at (i := 0) rfl) undZ rfl infoZ2 ⟨by first | (exfalso; omega) | (unfold stepP at h; rw [if_pos (by omega)] at h; obtain ⟨rfl, rfl⟩ := Prod.mk.inj h; rfl) | ((first | rw [stepP_q (q := p.l + t) (r := p.c + m) (by omega) (by rw [Int.add_mul]; omega) (by omega) (by omega)] at h | rw [stepP_q (q := p.l + (t - 1)) (r := p.c + m + c) (by omega) (by rw [Int.add_mul, Int.sub_mul]; omega) (by omega) (by omega)] at h | rw [stepP_q (q := p.l + (t + 1)) (r := p.c + m - c) (by omega) (by rw [Int.add_mul, Int.add_mul]; omega) (by omega) (by omega)] at h); (first | rw [if_pos (by omega)] at h | rw [if_neg (by omega)] at h); obtain ⟨rfl, rfl⟩ := Prod.mk.inj h; rfl), hH49.new⟩
        · skip
          refine lV (Value.bool false) he42 rfl rfl (wanted_plain rfl _) (rn_lsI rfl (he42.op rfl) (he42.op rfl) (decide_eq_false hb3) w33) ?_
          intro a43 he43
          clear he42 a42
          refine lV (Value.bool false) he43 rfl rfl (wanted_plain rfl _) (rn_mv rfl (he43.op rfl) w33) ?_
          intro a44 he44
          clear he43 a43
          refine lV (Value.int .i64 (t - 1)) he44 rfl rfl (he44.want rfl rfl rfl rfl rfl) (rn_mv rfl (he44.op rfl) w33) ?_
          intro a45 he45
          clear he44 a44
          by_cases hb4 : 1099511627777 < (t - 1)
          · skip
            refine lV (Value.bool true) he45 rfl rfl (he45.want rfl rfl rfl rfl rfl) (rn_gtI rfl (he45.op rfl) (he45.op rfl) (decide_eq_true hb4) w33) ?_
            intro a46 he46
            clear he45 a45
            refine lV (Value.bool true) he46 rfl rfl (wanted_plain rfl _) (rn_pk0 rfl (he46.op rfl) (he46.op rfl) w33) ?_
            intro a47 he47
            clear he46 a46
            refine wpList_nil ?_
            refine then_ok ?_
            refine wp_cond_true (he47.op rfl) ?_
            refine wp_seq ?_
            refine wp_region_lit ?_
            refine lV (Value.agg #[Value.int .i64 0, Value.int .i64 0]) he47 rfl rfl (wanted_plain rfl _) (rn_bZ rfl  w33) ?_
            intro a48 he48
            clear he47 a47
            refine lSetF 0 #[Value.int .i64 0, Value.int .i64 0] (cs := #[Value.int .i64 0, Value.int .i64 0]) he48 hH33 rfl (wanted_plain rfl _) rfl rfl rfl rfl rfl (by kernel_rfl) (by kernel_rfl) (by kernel_rfl) rfl ?_
            intro w49 a50 hH49 hf he50
            replace hH49 : Hp w [⟨p3, 23, #[Value.int .i64 0, Value.int .i64 0]⟩, ⟨p1, 23, #[Value.int .i64 p.l, Value.int .i64 ((p.c + m) + c)]⟩] w49 := hH49
            clear hf
            clear he48 a48 hH33
            refine lV (Value.int .i64 3) he50 rfl rfl (wanted_plain rfl _) (rn_asg rfl (he50.op rfl) w49) ?_
            intro a51 he51
            clear he50 a50
            refine wpList_nil ?_
            refine then_ok ?_
            refine wp_ret ?_
            try simp only [Exit.then, Exit.inBlock, Exit.noGoto]
            exact ret_rowt rfl he51 rfl rfl (hH49.at (i := 0) rfl) undZ rfl infoZ2 ⟨by first | (exfalso; omega) | (unfold stepP at h; rw [if_pos (by omega)] at h; obtain ⟨rfl, rfl⟩ := Prod.mk.inj h; rfl) | ((first | rw [stepP_q (q := p.l + t) (r := p.c + m) (by omega) (by rw [Int.add_mul]; omega) (by omega) (by omega)] at h | rw [stepP_q (q := p.l + (t - 1)) (r := p.c + m + c) (by omega) (by rw [Int.add_mul, Int.sub_mul]; omega) (by omega) (by omega)] at h | rw [stepP_q (q := p.l + (t + 1)) (r := p.c + m - c) (by omega) (by rw [Int.add_mul, Int.add_mul]; omega) (by omega) (by omega)] at h); (first | rw [if_pos (by omega)] at h | rw [if_neg (by omega)] at h); obtain ⟨rfl, rfl⟩ := Prod.mk.inj h; rfl), hH49.new⟩
          · skip
            refine lV (Value.bool false) he45 rfl rfl (he45.want rfl rfl rfl rfl rfl) (rn_gtI rfl (he45.op rfl) (he45.op rfl) (decide_eq_false hb4) w33) ?_
            intro a46 he46
            clear he45 a45
            refine lV (Value.bool false) he46 rfl rfl (wanted_plain rfl _) (rn_pk0 rfl (he46.op rfl) (he46.op rfl) w33) ?_
            intro a47 he47
            clear he46 a46
            refine wpList_nil ?_
            refine then_ok ?_
            refine wp_cond_false (he47.op rfl) ?_
            refine wp_skip ?_
            refine then_ok ?_
            refine wp_seq ?_
            refine wp_region_lit ?_
            refine lV (Value.pointer (some ⟨p1, 0, none⟩)) he47 rfl rfl (wanted_plain rfl _) (rn_faZ0 rfl (he47.op rfl) rfl w33) ?_
            intro a48 he48
            clear he47 a47
            refine lV (Value.int .i64 p.l) he48 rfl rfl (wanted_plain rfl _) (rn_ld1 rfl (he48.op rfl) Tryd.underlying3 (hH33.at (i := 1) rfl) rfl) ?_
            intro a49 he49
            clear he48 a48
            refine lV (Value.int .i64 (t - 1)) he49 rfl rfl (wanted_plain rfl _) (rn_mv rfl (he49.op rfl) w33) ?_
            intro a50 he50
            clear he49 a49
            refine lV (Value.int .i64 (p.l + (t - 1))) he50 rfl rfl (wanted_plain rfl _) (rn_addI rfl (he50.op rfl) (he50.op rfl) (i64w (by omega) (by omega)) w33) ?_
            intro a51 he51
            clear he50 a50
            refine lV (Value.pointer (some ⟨p1, 0, none⟩)) he51 rfl rfl (wanted_plain rfl _) (rn_faZ0 rfl (he51.op rfl) rfl w33) ?_
            intro a52 he52
            clear he51 a51
            refine lSetF 1 #[Value.int .i64 (p.l + (t - 1))] (cs := #[Value.int .i64 (p.l + (t - 1)), Value.int .i64 ((p.c + m) + c)]) he52 hH33 rfl (wanted_plain rfl _) rfl rfl rfl rfl rfl (by kernel_rfl) (by kernel_rfl) (by kernel_rfl) rfl ?_
            intro w53 a54 hH53 hf he54
            replace hH53 : Hp w [⟨p3, 23, #[Value.int .i64 0, Value.int .i64 0]⟩, ⟨p1, 23, #[Value.int .i64 (p.l + (t - 1)), Value.int .i64 ((p.c + m) + c)]⟩] w53 := hH53
            clear hf
            clear he52 a52 hH33
            refine wpList_nil ?_
            refine then_ok ?_
            refine wp_seq ?_
            refine wp_seq ?_
            refine wp_region_lit ?_
            refine lV (Value.agg #[Value.int .i64 (p.l + (t - 1)), Value.int .i64 ((p.c + m) + c)]) he54 rfl rfl (wanted_plain rfl _) (rn_ldp [Value.int .i64 (p.l + (t - 1)), Value.int .i64 ((p.c + m) + c)] rfl (he54.op rfl) undZ rfl infoZ2 (hH53.at (i := 1) rfl) rfl) ?_
            intro a55 he55
            clear he54 a54
            by_cases hb5 : okP (⟨(p.l + (t - 1)), ((p.c + m) + c)⟩ : Pl)
            · skip
              try dsimp only [okP, befP, colP, inP, argC, idxP] at hb5
              refine lC he55 rfl rfl Tryd.func10 (by kernel_rfl) rfl rfl (wanted_plain rfl _) rfl (RValid_c (⟨(p.l + (t - 1)), ((p.c + m) + c)⟩ : Pl) true (decide_eq_true hb5) w53) ?_
              intro w56 a57 hn he57
              have hH56 := hH53.call hn
              clear he55 a55 hH53 hn
              refine lV (Value.bool false) he57 rfl rfl (wanted_plain rfl _) (rn_not (b := true) rfl (he57.op rfl) w56) ?_
              intro a58 he58
              clear he57 a57
              refine wpList_nil ?_
              refine then_ok ?_
              refine wp_cond_false (he58.op rfl) ?_
              refine wp_skip ?_
              refine then_ok ?_
              refine wp_seq ?_
              refine wp_region_lit ?_
              refine lV (Value.agg #[Value.int .i64 (p.l + (t - 1)), Value.int .i64 ((p.c + m) + c)]) he58 rfl rfl (wanted_plain rfl _) (rn_ldp [Value.int .i64 (p.l + (t - 1)), Value.int .i64 ((p.c + m) + c)] rfl (he58.op rfl) undZ rfl infoZ2 (hH56.at (i := 1) rfl) rfl) ?_
              intro a59 he59
              clear he58 a58
              refine lSetF 0 #[Value.int .i64 (p.l + (t - 1)), Value.int .i64 ((p.c + m) + c)] (cs := #[Value.int .i64 (p.l + (t - 1)), Value.int .i64 ((p.c + m) + c)]) he59 hH56 rfl (wanted_plain rfl _) rfl rfl rfl rfl rfl (by kernel_rfl) (by kernel_rfl) (by kernel_rfl) rfl ?_
              intro w60 a61 hH60 hf he61
              replace hH60 : Hp w [⟨p3, 23, #[Value.int .i64 (p.l + (t - 1)), Value.int .i64 ((p.c + m) + c)]⟩, ⟨p1, 23, #[Value.int .i64 (p.l + (t - 1)), Value.int .i64 ((p.c + m) + c)]⟩] w60 := hH60
              clear hf
              clear he59 a59 hH56
              refine lV (Value.int .i64 0) he61 rfl rfl (wanted_plain rfl _) (rn_asg rfl (he61.op rfl) w60) ?_
              intro a62 he62
              clear he61 a61
              refine wpList_nil ?_
              refine then_ok ?_
              refine wp_ret ?_
              try simp only [Exit.then, Exit.inBlock, Exit.noGoto]
              exact ret_rowt rfl he62 rfl rfl (hH60.at (i := 0) rfl) undZ rfl infoZ2 ⟨by first | (exfalso; omega) | (unfold stepP at h; rw [if_pos (by omega)] at h; obtain ⟨rfl, rfl⟩ := Prod.mk.inj h; rfl) | ((first | rw [stepP_q (q := p.l + t) (r := p.c + m) (by omega) (by rw [Int.add_mul]; omega) (by omega) (by omega)] at h | rw [stepP_q (q := p.l + (t - 1)) (r := p.c + m + c) (by omega) (by rw [Int.add_mul, Int.sub_mul]; omega) (by omega) (by omega)] at h | rw [stepP_q (q := p.l + (t + 1)) (r := p.c + m - c) (by omega) (by rw [Int.add_mul, Int.add_mul]; omega) (by omega) (by omega)] at h); (first | rw [if_pos (by omega)] at h | rw [if_neg (by omega)] at h); obtain ⟨rfl, rfl⟩ := Prod.mk.inj h; rfl), hH60.new⟩
            · skip
              try dsimp only [okP, befP, colP, inP, argC, idxP] at hb5
              refine lC he55 rfl rfl Tryd.func10 (by kernel_rfl) rfl rfl (wanted_plain rfl _) rfl (RValid_c (⟨(p.l + (t - 1)), ((p.c + m) + c)⟩ : Pl) false (decide_eq_false hb5) w53) ?_
              intro w56 a57 hn he57
              have hH56 := hH53.call hn
              clear he55 a55 hH53 hn
              refine lV (Value.bool true) he57 rfl rfl (wanted_plain rfl _) (rn_not (b := false) rfl (he57.op rfl) w56) ?_
              intro a58 he58
              clear he57 a57
              refine wpList_nil ?_
              refine then_ok ?_
              refine wp_cond_true (he58.op rfl) ?_
              refine wp_seq ?_
              refine wp_region_lit ?_
              refine lV (Value.agg #[Value.int .i64 0, Value.int .i64 0]) he58 rfl rfl (wanted_plain rfl _) (rn_bZ rfl  w56) ?_
              intro a59 he59
              clear he58 a58
              refine lSetF 0 #[Value.int .i64 0, Value.int .i64 0] (cs := #[Value.int .i64 0, Value.int .i64 0]) he59 hH56 rfl (wanted_plain rfl _) rfl rfl rfl rfl rfl (by kernel_rfl) (by kernel_rfl) (by kernel_rfl) rfl ?_
              intro w60 a61 hH60 hf he61
              replace hH60 : Hp w [⟨p3, 23, #[Value.int .i64 0, Value.int .i64 0]⟩, ⟨p1, 23, #[Value.int .i64 (p.l + (t - 1)), Value.int .i64 ((p.c + m) + c)]⟩] w60 := hH60
              clear hf
              clear he59 a59 hH56
              refine lV (Value.int .i64 3) he61 rfl rfl (wanted_plain rfl _) (rn_asg rfl (he61.op rfl) w60) ?_
              intro a62 he62
              clear he61 a61
              refine wpList_nil ?_
              refine then_ok ?_
              refine wp_ret ?_
              try simp only [Exit.then, Exit.inBlock, Exit.noGoto]
              exact ret_rowt rfl he62 rfl rfl (hH60.at (i := 0) rfl) undZ rfl infoZ2 ⟨by first | (exfalso; omega) | (unfold stepP at h; rw [if_pos (by omega)] at h; obtain ⟨rfl, rfl⟩ := Prod.mk.inj h; rfl) | ((first | rw [stepP_q (q := p.l + t) (r := p.c + m) (by omega) (by rw [Int.add_mul]; omega) (by omega) (by omega)] at h | rw [stepP_q (q := p.l + (t - 1)) (r := p.c + m + c) (by omega) (by rw [Int.add_mul, Int.sub_mul]; omega) (by omega) (by omega)] at h | rw [stepP_q (q := p.l + (t + 1)) (r := p.c + m - c) (by omega) (by rw [Int.add_mul, Int.add_mul]; omega) (by omega) (by omega)] at h); (first | rw [if_pos (by omega)] at h | rw [if_neg (by omega)] at h); obtain ⟨rfl, rfl⟩ := Prod.mk.inj h; rfl), hH60.new⟩
    · skip
      refine lV (Value.bool false) he26 rfl rfl (wanted_plain rfl _) (rn_lsI rfl (he26.op rfl) (he26.op rfl) (decide_eq_false hb1) w23) ?_
      intro a27 he27
      clear he26 a26
      refine wpList_nil ?_
      refine then_ok ?_
      refine wp_cond_false (he27.op rfl) ?_
      refine wp_skip ?_
      refine then_ok ?_
      refine wp_seq ?_
      refine wp_seq ?_
      refine wp_region_lit ?_
      refine lV (Value.pointer (some ⟨p1, 1, none⟩)) he27 rfl rfl (wanted_plain rfl _) (rn_faZ1 rfl (he27.op rfl) rfl w23) ?_
      intro a28 he28
      clear he27 a27
      refine lV (Value.int .i64 (p.c + m)) he28 rfl rfl (wanted_plain rfl _) (rn_ld1 rfl (he28.op rfl) Tryd.underlying3 (hH23.at (i := 1) rfl) rfl) ?_
      intro a29 he29
      clear he28 a28
      refine lV (Value.int .i64 c) he29 rfl rfl (wanted_plain rfl _) (rn_mv rfl (he29.op rfl) w23) ?_
      intro a30 he30
      clear he29 a29
      by_cases hb2 : c ≤ (p.c + m)
      · skip
        refine lV (Value.bool true) he30 rfl rfl (wanted_plain rfl _) (rn_geI rfl (he30.op rfl) (he30.op rfl) (decide_eq_true hb2) w23) ?_
        intro a31 he31
        clear he30 a30
        refine wpList_nil ?_
        refine then_ok ?_
        refine wp_cond_true (he31.op rfl) ?_
        refine wp_seq ?_
        refine wp_region_lit ?_
        refine lV (Value.pointer (some ⟨p1, 1, none⟩)) he31 rfl rfl (wanted_plain rfl _) (rn_faZ1 rfl (he31.op rfl) rfl w23) ?_
        intro a32 he32
        clear he31 a31
        refine lV (Value.int .i64 (p.c + m)) he32 rfl rfl (wanted_plain rfl _) (rn_ld1 rfl (he32.op rfl) Tryd.underlying3 (hH23.at (i := 1) rfl) rfl) ?_
        intro a33 he33
        clear he32 a32
        refine lV (Value.int .i64 c) he33 rfl rfl (wanted_plain rfl _) (rn_mv rfl (he33.op rfl) w23) ?_
        intro a34 he34
        clear he33 a33
        refine lV (Value.int .i64 ((p.c + m) - c)) he34 rfl rfl (wanted_plain rfl _) (rn_subI rfl (he34.op rfl) (he34.op rfl) (i64w (by omega) (by omega)) w23) ?_
        intro a35 he35
        clear he34 a34
        refine lV (Value.pointer (some ⟨p1, 1, none⟩)) he35 rfl rfl (wanted_plain rfl _) (rn_faZ1 rfl (he35.op rfl) rfl w23) ?_
        intro a36 he36
        clear he35 a35
        refine lSetF 1 #[Value.int .i64 ((p.c + m) - c)] (cs := #[Value.int .i64 p.l, Value.int .i64 ((p.c + m) - c)]) he36 hH23 rfl (wanted_plain rfl _) rfl rfl rfl rfl rfl (by kernel_rfl) (by kernel_rfl) (by kernel_rfl) rfl ?_
        intro w37 a38 hH37 hf he38
        replace hH37 : Hp w [⟨p3, 23, #[Value.int .i64 0, Value.int .i64 0]⟩, ⟨p1, 23, #[Value.int .i64 p.l, Value.int .i64 ((p.c + m) - c)]⟩] w37 := hH37
        clear hf
        clear he36 a36 hH23
        refine wpList_nil ?_
        refine then_ok ?_
        refine wp_region_lit ?_
        refine lV (Value.int .i64 t) he38 rfl rfl (wanted_plain rfl _) (rn_mv rfl (he38.op rfl) w37) ?_
        intro a39 he39
        clear he38 a38
        refine lV (Value.int .i64 (t + 1)) he39 rfl rfl (wanted_plain rfl _) (rn_addI rfl (he39.op rfl) (he39.op rfl) (i64w (by omega) (by omega)) w37) ?_
        intro a40 he40
        clear he39 a39
        refine lV (Value.int .i64 (t + 1)) he40 rfl rfl (wanted_plain rfl _) (rn_asg rfl (he40.op rfl) w37) ?_
        intro a41 he41
        clear he40 a40
        refine wpList_nil ?_
        refine then_ok ?_
        refine wp_seq ?_
        refine wp_seq ?_
        refine wp_region_lit ?_
        refine lV (Value.int .i64 (t + 1)) he41 rfl rfl (wanted_plain rfl _) (rn_mv rfl (he41.op rfl) w37) ?_
        intro a42 he42
        clear he41 a41
        by_cases hb3 : (t + 1) < (-1099511627777)
        · skip
          refine lV (Value.bool true) he42 rfl rfl (wanted_plain rfl _) (rn_lsI rfl (he42.op rfl) (he42.op rfl) (decide_eq_true hb3) w37) ?_
          intro a43 he43
          clear he42 a42
          refine lV (Value.bool true) he43 rfl rfl (wanted_plain rfl _) (rn_mv rfl (he43.op rfl) w37) ?_
          intro a44 he44
          clear he43 a43
          refine lSkip he44 rfl rfl (he44.wantNot rfl rfl rfl rfl rfl rfl) ?_
          intro a45 he45
          clear he44 a44
          refine lSkip he45 rfl rfl (he45.wantNot rfl rfl rfl rfl rfl rfl) ?_
          intro a46 he46
          clear he45 a45
          refine lV (Value.bool true) he46 rfl rfl (wanted_plain rfl _) (rn_pk rfl (he46.op rfl) (he46.op rfl) w37) ?_
          intro a47 he47
          clear he46 a46
          refine wpList_nil ?_
          refine then_ok ?_
          refine wp_cond_true (he47.op rfl) ?_
          refine wp_seq ?_
          refine wp_region_lit ?_
          refine lV (Value.agg #[Value.int .i64 0, Value.int .i64 0]) he47 rfl rfl (wanted_plain rfl _) (rn_bZ rfl  w37) ?_
          intro a48 he48
          clear he47 a47
          refine lSetF 0 #[Value.int .i64 0, Value.int .i64 0] (cs := #[Value.int .i64 0, Value.int .i64 0]) he48 hH37 rfl (wanted_plain rfl _) rfl rfl rfl rfl rfl (by kernel_rfl) (by kernel_rfl) (by kernel_rfl) rfl ?_
          intro w49 a50 hH49 hf he50
          replace hH49 : Hp w [⟨p3, 23, #[Value.int .i64 0, Value.int .i64 0]⟩, ⟨p1, 23, #[Value.int .i64 p.l, Value.int .i64 ((p.c + m) - c)]⟩] w49 := hH49
          clear hf
          clear he48 a48 hH37
          refine lV (Value.int .i64 3) he50 rfl rfl (wanted_plain rfl _) (rn_asg rfl (he50.op rfl) w49) ?_
          intro a51 he51
          clear he50 a50
          refine wpList_nil ?_
          refine then_ok ?_
          refine wp_ret ?_
          try simp only [Exit.then, Exit.inBlock, Exit.noGoto]
          exact ret_rowt rfl he51 rfl rfl (hH49.at (i := 0) rfl) undZ rfl infoZ2 ⟨by first | (exfalso; omega) | (unfold stepP at h; rw [if_pos (by omega)] at h; obtain ⟨rfl, rfl⟩ := Prod.mk.inj h; rfl) | ((first | rw [stepP_q (q := p.l + t) (r := p.c + m) (by omega) (by rw [Int.add_mul]; omega) (by omega) (by omega)] at h | rw [stepP_q (q := p.l + (t - 1)) (r := p.c + m + c) (by omega) (by rw [Int.add_mul, Int.sub_mul]; omega) (by omega) (by omega)] at h | rw [stepP_q (q := p.l + (t + 1)) (r := p.c + m - c) (by omega) (by rw [Int.add_mul, Int.add_mul]; omega) (by omega) (by omega)] at h); (first | rw [if_pos (by omega)] at h | rw [if_neg (by omega)] at h); obtain ⟨rfl, rfl⟩ := Prod.mk.inj h; rfl), hH49.new⟩
        · skip
          refine lV (Value.bool false) he42 rfl rfl (wanted_plain rfl _) (rn_lsI rfl (he42.op rfl) (he42.op rfl) (decide_eq_false hb3) w37) ?_
          intro a43 he43
          clear he42 a42
          refine lV (Value.bool false) he43 rfl rfl (wanted_plain rfl _) (rn_mv rfl (he43.op rfl) w37) ?_
          intro a44 he44
          clear he43 a43
          refine lV (Value.int .i64 (t + 1)) he44 rfl rfl (he44.want rfl rfl rfl rfl rfl) (rn_mv rfl (he44.op rfl) w37) ?_
          intro a45 he45
          clear he44 a44
          by_cases hb4 : 1099511627777 < (t + 1)
          · skip
            refine lV (Value.bool true) he45 rfl rfl (he45.want rfl rfl rfl rfl rfl) (rn_gtI rfl (he45.op rfl) (he45.op rfl) (decide_eq_true hb4) w37) ?_
            intro a46 he46
            clear he45 a45
            refine lV (Value.bool true) he46 rfl rfl (wanted_plain rfl _) (rn_pk0 rfl (he46.op rfl) (he46.op rfl) w37) ?_
            intro a47 he47
            clear he46 a46
            refine wpList_nil ?_
            refine then_ok ?_
            refine wp_cond_true (he47.op rfl) ?_
            refine wp_seq ?_
            refine wp_region_lit ?_
            refine lV (Value.agg #[Value.int .i64 0, Value.int .i64 0]) he47 rfl rfl (wanted_plain rfl _) (rn_bZ rfl  w37) ?_
            intro a48 he48
            clear he47 a47
            refine lSetF 0 #[Value.int .i64 0, Value.int .i64 0] (cs := #[Value.int .i64 0, Value.int .i64 0]) he48 hH37 rfl (wanted_plain rfl _) rfl rfl rfl rfl rfl (by kernel_rfl) (by kernel_rfl) (by kernel_rfl) rfl ?_
            intro w49 a50 hH49 hf he50
            replace hH49 : Hp w [⟨p3, 23, #[Value.int .i64 0, Value.int .i64 0]⟩, ⟨p1, 23, #[Value.int .i64 p.l, Value.int .i64 ((p.c + m) - c)]⟩] w49 := hH49
            clear hf
            clear he48 a48 hH37
            refine lV (Value.int .i64 3) he50 rfl rfl (wanted_plain rfl _) (rn_asg rfl (he50.op rfl) w49) ?_
            intro a51 he51
            clear he50 a50
            refine wpList_nil ?_
            refine then_ok ?_
            refine wp_ret ?_
            try simp only [Exit.then, Exit.inBlock, Exit.noGoto]
            exact ret_rowt rfl he51 rfl rfl (hH49.at (i := 0) rfl) undZ rfl infoZ2 ⟨by first | (exfalso; omega) | (unfold stepP at h; rw [if_pos (by omega)] at h; obtain ⟨rfl, rfl⟩ := Prod.mk.inj h; rfl) | ((first | rw [stepP_q (q := p.l + t) (r := p.c + m) (by omega) (by rw [Int.add_mul]; omega) (by omega) (by omega)] at h | rw [stepP_q (q := p.l + (t - 1)) (r := p.c + m + c) (by omega) (by rw [Int.add_mul, Int.sub_mul]; omega) (by omega) (by omega)] at h | rw [stepP_q (q := p.l + (t + 1)) (r := p.c + m - c) (by omega) (by rw [Int.add_mul, Int.add_mul]; omega) (by omega) (by omega)] at h); (first | rw [if_pos (by omega)] at h | rw [if_neg (by omega)] at h); obtain ⟨rfl, rfl⟩ := Prod.mk.inj h; rfl), hH49.new⟩
          · skip
            refine lV (Value.bool false) he45 rfl rfl (he45.want rfl rfl rfl rfl rfl) (rn_gtI rfl (he45.op rfl) (he45.op rfl) (decide_eq_false hb4) w37) ?_
            intro a46 he46
            clear he45 a45
            refine lV (Value.bool false) he46 rfl rfl (wanted_plain rfl _) (rn_pk0 rfl (he46.op rfl) (he46.op rfl) w37) ?_
            intro a47 he47
            clear he46 a46
            refine wpList_nil ?_
            refine then_ok ?_
            refine wp_cond_false (he47.op rfl) ?_
            refine wp_skip ?_
            refine then_ok ?_
            refine wp_seq ?_
            refine wp_region_lit ?_
            refine lV (Value.pointer (some ⟨p1, 0, none⟩)) he47 rfl rfl (wanted_plain rfl _) (rn_faZ0 rfl (he47.op rfl) rfl w37) ?_
            intro a48 he48
            clear he47 a47
            refine lV (Value.int .i64 p.l) he48 rfl rfl (wanted_plain rfl _) (rn_ld1 rfl (he48.op rfl) Tryd.underlying3 (hH37.at (i := 1) rfl) rfl) ?_
            intro a49 he49
            clear he48 a48
            refine lV (Value.int .i64 (t + 1)) he49 rfl rfl (wanted_plain rfl _) (rn_mv rfl (he49.op rfl) w37) ?_
            intro a50 he50
            clear he49 a49
            refine lV (Value.int .i64 (p.l + (t + 1))) he50 rfl rfl (wanted_plain rfl _) (rn_addI rfl (he50.op rfl) (he50.op rfl) (i64w (by omega) (by omega)) w37) ?_
            intro a51 he51
            clear he50 a50
            refine lV (Value.pointer (some ⟨p1, 0, none⟩)) he51 rfl rfl (wanted_plain rfl _) (rn_faZ0 rfl (he51.op rfl) rfl w37) ?_
            intro a52 he52
            clear he51 a51
            refine lSetF 1 #[Value.int .i64 (p.l + (t + 1))] (cs := #[Value.int .i64 (p.l + (t + 1)), Value.int .i64 ((p.c + m) - c)]) he52 hH37 rfl (wanted_plain rfl _) rfl rfl rfl rfl rfl (by kernel_rfl) (by kernel_rfl) (by kernel_rfl) rfl ?_
            intro w53 a54 hH53 hf he54
            replace hH53 : Hp w [⟨p3, 23, #[Value.int .i64 0, Value.int .i64 0]⟩, ⟨p1, 23, #[Value.int .i64 (p.l + (t + 1)), Value.int .i64 ((p.c + m) - c)]⟩] w53 := hH53
            clear hf
            clear he52 a52 hH37
            refine wpList_nil ?_
            refine then_ok ?_
            refine wp_seq ?_
            refine wp_seq ?_
            refine wp_region_lit ?_
            refine lV (Value.agg #[Value.int .i64 (p.l + (t + 1)), Value.int .i64 ((p.c + m) - c)]) he54 rfl rfl (wanted_plain rfl _) (rn_ldp [Value.int .i64 (p.l + (t + 1)), Value.int .i64 ((p.c + m) - c)] rfl (he54.op rfl) undZ rfl infoZ2 (hH53.at (i := 1) rfl) rfl) ?_
            intro a55 he55
            clear he54 a54
            by_cases hb5 : okP (⟨(p.l + (t + 1)), ((p.c + m) - c)⟩ : Pl)
            · skip
              try dsimp only [okP, befP, colP, inP, argC, idxP] at hb5
              refine lC he55 rfl rfl Tryd.func10 (by kernel_rfl) rfl rfl (wanted_plain rfl _) rfl (RValid_c (⟨(p.l + (t + 1)), ((p.c + m) - c)⟩ : Pl) true (decide_eq_true hb5) w53) ?_
              intro w56 a57 hn he57
              have hH56 := hH53.call hn
              clear he55 a55 hH53 hn
              refine lV (Value.bool false) he57 rfl rfl (wanted_plain rfl _) (rn_not (b := true) rfl (he57.op rfl) w56) ?_
              intro a58 he58
              clear he57 a57
              refine wpList_nil ?_
              refine then_ok ?_
              refine wp_cond_false (he58.op rfl) ?_
              refine wp_skip ?_
              refine then_ok ?_
              refine wp_seq ?_
              refine wp_region_lit ?_
              refine lV (Value.agg #[Value.int .i64 (p.l + (t + 1)), Value.int .i64 ((p.c + m) - c)]) he58 rfl rfl (wanted_plain rfl _) (rn_ldp [Value.int .i64 (p.l + (t + 1)), Value.int .i64 ((p.c + m) - c)] rfl (he58.op rfl) undZ rfl infoZ2 (hH56.at (i := 1) rfl) rfl) ?_
              intro a59 he59
              clear he58 a58
              refine lSetF 0 #[Value.int .i64 (p.l + (t + 1)), Value.int .i64 ((p.c + m) - c)] (cs := #[Value.int .i64 (p.l + (t + 1)), Value.int .i64 ((p.c + m) - c)]) he59 hH56 rfl (wanted_plain rfl _) rfl rfl rfl rfl rfl (by kernel_rfl) (by kernel_rfl) (by kernel_rfl) rfl ?_
              intro w60 a61 hH60 hf he61
              replace hH60 : Hp w [⟨p3, 23, #[Value.int .i64 (p.l + (t + 1)), Value.int .i64 ((p.c + m) - c)]⟩, ⟨p1, 23, #[Value.int .i64 (p.l + (t + 1)), Value.int .i64 ((p.c + m) - c)]⟩] w60 := hH60
              clear hf
              clear he59 a59 hH56
              refine lV (Value.int .i64 0) he61 rfl rfl (wanted_plain rfl _) (rn_asg rfl (he61.op rfl) w60) ?_
              intro a62 he62
              clear he61 a61
              refine wpList_nil ?_
              refine then_ok ?_
              refine wp_ret ?_
              try simp only [Exit.then, Exit.inBlock, Exit.noGoto]
              exact ret_rowt rfl he62 rfl rfl (hH60.at (i := 0) rfl) undZ rfl infoZ2 ⟨by first | (exfalso; omega) | (unfold stepP at h; rw [if_pos (by omega)] at h; obtain ⟨rfl, rfl⟩ := Prod.mk.inj h; rfl) | ((first | rw [stepP_q (q := p.l + t) (r := p.c + m) (by omega) (by rw [Int.add_mul]; omega) (by omega) (by omega)] at h | rw [stepP_q (q := p.l + (t - 1)) (r := p.c + m + c) (by omega) (by rw [Int.add_mul, Int.sub_mul]; omega) (by omega) (by omega)] at h | rw [stepP_q (q := p.l + (t + 1)) (r := p.c + m - c) (by omega) (by rw [Int.add_mul, Int.add_mul]; omega) (by omega) (by omega)] at h); (first | rw [if_pos (by omega)] at h | rw [if_neg (by omega)] at h); obtain ⟨rfl, rfl⟩ := Prod.mk.inj h; rfl), hH60.new⟩
            · skip
              try dsimp only [okP, befP, colP, inP, argC, idxP] at hb5
              refine lC he55 rfl rfl Tryd.func10 (by kernel_rfl) rfl rfl (wanted_plain rfl _) rfl (RValid_c (⟨(p.l + (t + 1)), ((p.c + m) - c)⟩ : Pl) false (decide_eq_false hb5) w53) ?_
              intro w56 a57 hn he57
              have hH56 := hH53.call hn
              clear he55 a55 hH53 hn
              refine lV (Value.bool true) he57 rfl rfl (wanted_plain rfl _) (rn_not (b := false) rfl (he57.op rfl) w56) ?_
              intro a58 he58
              clear he57 a57
              refine wpList_nil ?_
              refine then_ok ?_
              refine wp_cond_true (he58.op rfl) ?_
              refine wp_seq ?_
              refine wp_region_lit ?_
              refine lV (Value.agg #[Value.int .i64 0, Value.int .i64 0]) he58 rfl rfl (wanted_plain rfl _) (rn_bZ rfl  w56) ?_
              intro a59 he59
              clear he58 a58
              refine lSetF 0 #[Value.int .i64 0, Value.int .i64 0] (cs := #[Value.int .i64 0, Value.int .i64 0]) he59 hH56 rfl (wanted_plain rfl _) rfl rfl rfl rfl rfl (by kernel_rfl) (by kernel_rfl) (by kernel_rfl) rfl ?_
              intro w60 a61 hH60 hf he61
              replace hH60 : Hp w [⟨p3, 23, #[Value.int .i64 0, Value.int .i64 0]⟩, ⟨p1, 23, #[Value.int .i64 (p.l + (t + 1)), Value.int .i64 ((p.c + m) - c)]⟩] w60 := hH60
              clear hf
              clear he59 a59 hH56
              refine lV (Value.int .i64 3) he61 rfl rfl (wanted_plain rfl _) (rn_asg rfl (he61.op rfl) w60) ?_
              intro a62 he62
              clear he61 a61
              refine wpList_nil ?_
              refine then_ok ?_
              refine wp_ret ?_
              try simp only [Exit.then, Exit.inBlock, Exit.noGoto]
              exact ret_rowt rfl he62 rfl rfl (hH60.at (i := 0) rfl) undZ rfl infoZ2 ⟨by first | (exfalso; omega) | (unfold stepP at h; rw [if_pos (by omega)] at h; obtain ⟨rfl, rfl⟩ := Prod.mk.inj h; rfl) | ((first | rw [stepP_q (q := p.l + t) (r := p.c + m) (by omega) (by rw [Int.add_mul]; omega) (by omega) (by omega)] at h | rw [stepP_q (q := p.l + (t - 1)) (r := p.c + m + c) (by omega) (by rw [Int.add_mul, Int.sub_mul]; omega) (by omega) (by omega)] at h | rw [stepP_q (q := p.l + (t + 1)) (r := p.c + m - c) (by omega) (by rw [Int.add_mul, Int.add_mul]; omega) (by omega) (by omega)] at h); (first | rw [if_pos (by omega)] at h | rw [if_neg (by omega)] at h); obtain ⟨rfl, rfl⟩ := Prod.mk.inj h; rfl), hH60.new⟩
      · skip
        refine lV (Value.bool false) he30 rfl rfl (wanted_plain rfl _) (rn_geI rfl (he30.op rfl) (he30.op rfl) (decide_eq_false hb2) w23) ?_
        intro a31 he31
        clear he30 a30
        refine wpList_nil ?_
        refine then_ok ?_
        refine wp_cond_false (he31.op rfl) ?_
        refine wp_skip ?_
        refine then_ok ?_
        refine wp_seq ?_
        refine wp_seq ?_
        refine wp_region_lit ?_
        refine lV (Value.int .i64 t) he31 rfl rfl (wanted_plain rfl _) (rn_mv rfl (he31.op rfl) w23) ?_
        intro a32 he32
        clear he31 a31
        by_cases hb3 : t < (-1099511627777)
        · skip
          refine lV (Value.bool true) he32 rfl rfl (wanted_plain rfl _) (rn_lsI rfl (he32.op rfl) (he32.op rfl) (decide_eq_true hb3) w23) ?_
          intro a33 he33
          clear he32 a32
          refine lV (Value.bool true) he33 rfl rfl (wanted_plain rfl _) (rn_mv rfl (he33.op rfl) w23) ?_
          intro a34 he34
          clear he33 a33
          refine lSkip he34 rfl rfl (he34.wantNot rfl rfl rfl rfl rfl rfl) ?_
          intro a35 he35
          clear he34 a34
          refine lSkip he35 rfl rfl (he35.wantNot rfl rfl rfl rfl rfl rfl) ?_
          intro a36 he36
          clear he35 a35
          refine lV (Value.bool true) he36 rfl rfl (wanted_plain rfl _) (rn_pk rfl (he36.op rfl) (he36.op rfl) w23) ?_
          intro a37 he37
          clear he36 a36
          refine wpList_nil ?_
          refine then_ok ?_
          refine wp_cond_true (he37.op rfl) ?_
          refine wp_seq ?_
          refine wp_region_lit ?_
          refine lV (Value.agg #[Value.int .i64 0, Value.int .i64 0]) he37 rfl rfl (wanted_plain rfl _) (rn_bZ rfl  w23) ?_
          intro a38 he38
          clear he37 a37
          refine lSetF 0 #[Value.int .i64 0, Value.int .i64 0] (cs := #[Value.int .i64 0, Value.int .i64 0]) he38 hH23 rfl (wanted_plain rfl _) rfl rfl rfl rfl rfl (by kernel_rfl) (by kernel_rfl) (by kernel_rfl) rfl ?_
          intro w39 a40 hH39 hf he40
          replace hH39 : Hp w [⟨p3, 23, #[Value.int .i64 0, Value.int .i64 0]⟩, ⟨p1, 23, #[Value.int .i64 p.l, Value.int .i64 (p.c + m)]⟩] w39 := hH39
          clear hf
          clear he38 a38 hH23
          refine lV (Value.int .i64 3) he40 rfl rfl (wanted_plain rfl _) (rn_asg rfl (he40.op rfl) w39) ?_
          intro a41 he41
          clear he40 a40
          refine wpList_nil ?_
          refine then_ok ?_
          refine wp_ret ?_
          try simp only [Exit.then, Exit.inBlock, Exit.noGoto]
          exact ret_rowt rfl he41 rfl rfl (hH39.at (i := 0) rfl) undZ rfl infoZ2 ⟨by first | (exfalso; omega) | (unfold stepP at h; rw [if_pos (by omega)] at h; obtain ⟨rfl, rfl⟩ := Prod.mk.inj h; rfl) | ((first | rw [stepP_q (q := p.l + t) (r := p.c + m) (by omega) (by rw [Int.add_mul]; omega) (by omega) (by omega)] at h | rw [stepP_q (q := p.l + (t - 1)) (r := p.c + m + c) (by omega) (by rw [Int.add_mul, Int.sub_mul]; omega) (by omega) (by omega)] at h | rw [stepP_q (q := p.l + (t + 1)) (r := p.c + m - c) (by omega) (by rw [Int.add_mul, Int.add_mul]; omega) (by omega) (by omega)] at h); (first | rw [if_pos (by omega)] at h | rw [if_neg (by omega)] at h); obtain ⟨rfl, rfl⟩ := Prod.mk.inj h; rfl), hH39.new⟩
        · skip
          refine lV (Value.bool false) he32 rfl rfl (wanted_plain rfl _) (rn_lsI rfl (he32.op rfl) (he32.op rfl) (decide_eq_false hb3) w23) ?_
          intro a33 he33
          clear he32 a32
          refine lV (Value.bool false) he33 rfl rfl (wanted_plain rfl _) (rn_mv rfl (he33.op rfl) w23) ?_
          intro a34 he34
          clear he33 a33
          refine lV (Value.int .i64 t) he34 rfl rfl (he34.want rfl rfl rfl rfl rfl) (rn_mv rfl (he34.op rfl) w23) ?_
          intro a35 he35
          clear he34 a34
          by_cases hb4 : 1099511627777 < t
          · skip
            refine lV (Value.bool true) he35 rfl rfl (he35.want rfl rfl rfl rfl rfl) (rn_gtI rfl (he35.op rfl) (he35.op rfl) (decide_eq_true hb4) w23) ?_
            intro a36 he36
            clear he35 a35
            refine lV (Value.bool true) he36 rfl rfl (wanted_plain rfl _) (rn_pk0 rfl (he36.op rfl) (he36.op rfl) w23) ?_
            intro a37 he37
            clear he36 a36
            refine wpList_nil ?_
            refine then_ok ?_
            refine wp_cond_true (he37.op rfl) ?_
            refine wp_seq ?_
            refine wp_region_lit ?_
            refine lV (Value.agg #[Value.int .i64 0, Value.int .i64 0]) he37 rfl rfl (wanted_plain rfl _) (rn_bZ rfl  w23) ?_
            intro a38 he38
            clear he37 a37
            refine lSetF 0 #[Value.int .i64 0, Value.int .i64 0] (cs := #[Value.int .i64 0, Value.int .i64 0]) he38 hH23 rfl (wanted_plain rfl _) rfl rfl rfl rfl rfl (by kernel_rfl) (by kernel_rfl) (by kernel_rfl) rfl ?_
            intro w39 a40 hH39 hf he40
            replace hH39 : Hp w [⟨p3, 23, #[Value.int .i64 0, Value.int .i64 0]⟩, ⟨p1, 23, #[Value.int .i64 p.l, Value.int .i64 (p.c + m)]⟩] w39 := hH39
            clear hf
            clear he38 a38 hH23
            refine lV (Value.int .i64 3) he40 rfl rfl (wanted_plain rfl _) (rn_asg rfl (he40.op rfl) w39) ?_
            intro a41 he41
            clear he40 a40
            refine wpList_nil ?_
            refine then_ok ?_
            refine wp_ret ?_
            try simp only [Exit.then, Exit.inBlock, Exit.noGoto]
            exact ret_rowt rfl he41 rfl rfl (hH39.at (i := 0) rfl) undZ rfl infoZ2 ⟨by first | (exfalso; omega) | (unfold stepP at h; rw [if_pos (by omega)] at h; obtain ⟨rfl, rfl⟩ := Prod.mk.inj h; rfl) | ((first | rw [stepP_q (q := p.l + t) (r := p.c + m) (by omega) (by rw [Int.add_mul]; omega) (by omega) (by omega)] at h | rw [stepP_q (q := p.l + (t - 1)) (r := p.c + m + c) (by omega) (by rw [Int.add_mul, Int.sub_mul]; omega) (by omega) (by omega)] at h | rw [stepP_q (q := p.l + (t + 1)) (r := p.c + m - c) (by omega) (by rw [Int.add_mul, Int.add_mul]; omega) (by omega) (by omega)] at h); (first | rw [if_pos (by omega)] at h | rw [if_neg (by omega)] at h); obtain ⟨rfl, rfl⟩ := Prod.mk.inj h; rfl), hH39.new⟩
          · skip
            refine lV (Value.bool false) he35 rfl rfl (he35.want rfl rfl rfl rfl rfl) (rn_gtI rfl (he35.op rfl) (he35.op rfl) (decide_eq_false hb4) w23) ?_
            intro a36 he36
            clear he35 a35
            refine lV (Value.bool false) he36 rfl rfl (wanted_plain rfl _) (rn_pk0 rfl (he36.op rfl) (he36.op rfl) w23) ?_
            intro a37 he37
            clear he36 a36
            refine wpList_nil ?_
            refine then_ok ?_
            refine wp_cond_false (he37.op rfl) ?_
            refine wp_skip ?_
            refine then_ok ?_
            refine wp_seq ?_
            refine wp_region_lit ?_
            refine lV (Value.pointer (some ⟨p1, 0, none⟩)) he37 rfl rfl (wanted_plain rfl _) (rn_faZ0 rfl (he37.op rfl) rfl w23) ?_
            intro a38 he38
            clear he37 a37
            refine lV (Value.int .i64 p.l) he38 rfl rfl (wanted_plain rfl _) (rn_ld1 rfl (he38.op rfl) Tryd.underlying3 (hH23.at (i := 1) rfl) rfl) ?_
            intro a39 he39
            clear he38 a38
            refine lV (Value.int .i64 t) he39 rfl rfl (wanted_plain rfl _) (rn_mv rfl (he39.op rfl) w23) ?_
            intro a40 he40
            clear he39 a39
            refine lV (Value.int .i64 (p.l + t)) he40 rfl rfl (wanted_plain rfl _) (rn_addI rfl (he40.op rfl) (he40.op rfl) (i64w (by omega) (by omega)) w23) ?_
            intro a41 he41
            clear he40 a40
            refine lV (Value.pointer (some ⟨p1, 0, none⟩)) he41 rfl rfl (wanted_plain rfl _) (rn_faZ0 rfl (he41.op rfl) rfl w23) ?_
            intro a42 he42
            clear he41 a41
            refine lSetF 1 #[Value.int .i64 (p.l + t)] (cs := #[Value.int .i64 (p.l + t), Value.int .i64 (p.c + m)]) he42 hH23 rfl (wanted_plain rfl _) rfl rfl rfl rfl rfl (by kernel_rfl) (by kernel_rfl) (by kernel_rfl) rfl ?_
            intro w43 a44 hH43 hf he44
            replace hH43 : Hp w [⟨p3, 23, #[Value.int .i64 0, Value.int .i64 0]⟩, ⟨p1, 23, #[Value.int .i64 (p.l + t), Value.int .i64 (p.c + m)]⟩] w43 := hH43
            clear hf
            clear he42 a42 hH23
            refine wpList_nil ?_
            refine then_ok ?_
            refine wp_seq ?_
            refine wp_seq ?_
            refine wp_region_lit ?_
            refine lV (Value.agg #[Value.int .i64 (p.l + t), Value.int .i64 (p.c + m)]) he44 rfl rfl (wanted_plain rfl _) (rn_ldp [Value.int .i64 (p.l + t), Value.int .i64 (p.c + m)] rfl (he44.op rfl) undZ rfl infoZ2 (hH43.at (i := 1) rfl) rfl) ?_
            intro a45 he45
            clear he44 a44
            by_cases hb5 : okP (⟨(p.l + t), (p.c + m)⟩ : Pl)
            · skip
              try dsimp only [okP, befP, colP, inP, argC, idxP] at hb5
              refine lC he45 rfl rfl Tryd.func10 (by kernel_rfl) rfl rfl (wanted_plain rfl _) rfl (RValid_c (⟨(p.l + t), (p.c + m)⟩ : Pl) true (decide_eq_true hb5) w43) ?_
              intro w46 a47 hn he47
              have hH46 := hH43.call hn
              clear he45 a45 hH43 hn
              refine lV (Value.bool false) he47 rfl rfl (wanted_plain rfl _) (rn_not (b := true) rfl (he47.op rfl) w46) ?_
              intro a48 he48
              clear he47 a47
              refine wpList_nil ?_
              refine then_ok ?_
              refine wp_cond_false (he48.op rfl) ?_
              refine wp_skip ?_
              refine then_ok ?_
              refine wp_seq ?_
              refine wp_region_lit ?_
              refine lV (Value.agg #[Value.int .i64 (p.l + t), Value.int .i64 (p.c + m)]) he48 rfl rfl (wanted_plain rfl _) (rn_ldp [Value.int .i64 (p.l + t), Value.int .i64 (p.c + m)] rfl (he48.op rfl) undZ rfl infoZ2 (hH46.at (i := 1) rfl) rfl) ?_
              intro a49 he49
              clear he48 a48
              refine lSetF 0 #[Value.int .i64 (p.l + t), Value.int .i64 (p.c + m)] (cs := #[Value.int .i64 (p.l + t), Value.int .i64 (p.c + m)]) he49 hH46 rfl (wanted_plain rfl _) rfl rfl rfl rfl rfl (by kernel_rfl) (by kernel_rfl) (by kernel_rfl) rfl ?_
              intro w50 a51 hH50 hf he51
              replace hH50 : Hp w [⟨p3, 23, #[Value.int .i64 (p.l + t), Value.int .i64 (p.c + m)]⟩, ⟨p1, 23, #[Value.int .i64 (p.l + t), Value.int .i64 (p.c + m)]⟩] w50 := hH50
              clear hf
              clear he49 a49 hH46
              refine lV (Value.int .i64 0) he51 rfl rfl (wanted_plain rfl _) (rn_asg rfl (he51.op rfl) w50) ?_
              intro a52 he52
              clear he51 a51
              refine wpList_nil ?_
              refine then_ok ?_
              refine wp_ret ?_
              try simp only [Exit.then, Exit.inBlock, Exit.noGoto]
              exact ret_rowt rfl he52 rfl rfl (hH50.at (i := 0) rfl) undZ rfl infoZ2 ⟨by first | (exfalso; omega) | (unfold stepP at h; rw [if_pos (by omega)] at h; obtain ⟨rfl, rfl⟩ := Prod.mk.inj h; rfl) | ((first | rw [stepP_q (q := p.l + t) (r := p.c + m) (by omega) (by rw [Int.add_mul]; omega) (by omega) (by omega)] at h | rw [stepP_q (q := p.l + (t - 1)) (r := p.c + m + c) (by omega) (by rw [Int.add_mul, Int.sub_mul]; omega) (by omega) (by omega)] at h | rw [stepP_q (q := p.l + (t + 1)) (r := p.c + m - c) (by omega) (by rw [Int.add_mul, Int.add_mul]; omega) (by omega) (by omega)] at h); (first | rw [if_pos (by omega)] at h | rw [if_neg (by omega)] at h); obtain ⟨rfl, rfl⟩ := Prod.mk.inj h; rfl), hH50.new⟩
            · skip
              try dsimp only [okP, befP, colP, inP, argC, idxP] at hb5
              refine lC he45 rfl rfl Tryd.func10 (by kernel_rfl) rfl rfl (wanted_plain rfl _) rfl (RValid_c (⟨(p.l + t), (p.c + m)⟩ : Pl) false (decide_eq_false hb5) w43) ?_
              intro w46 a47 hn he47
              have hH46 := hH43.call hn
              clear he45 a45 hH43 hn
              refine lV (Value.bool true) he47 rfl rfl (wanted_plain rfl _) (rn_not (b := false) rfl (he47.op rfl) w46) ?_
              intro a48 he48
              clear he47 a47
              refine wpList_nil ?_
              refine then_ok ?_
              refine wp_cond_true (he48.op rfl) ?_
              refine wp_seq ?_
              refine wp_region_lit ?_
              refine lV (Value.agg #[Value.int .i64 0, Value.int .i64 0]) he48 rfl rfl (wanted_plain rfl _) (rn_bZ rfl  w46) ?_
              intro a49 he49
              clear he48 a48
              refine lSetF 0 #[Value.int .i64 0, Value.int .i64 0] (cs := #[Value.int .i64 0, Value.int .i64 0]) he49 hH46 rfl (wanted_plain rfl _) rfl rfl rfl rfl rfl (by kernel_rfl) (by kernel_rfl) (by kernel_rfl) rfl ?_
              intro w50 a51 hH50 hf he51
              replace hH50 : Hp w [⟨p3, 23, #[Value.int .i64 0, Value.int .i64 0]⟩, ⟨p1, 23, #[Value.int .i64 (p.l + t), Value.int .i64 (p.c + m)]⟩] w50 := hH50
              clear hf
              clear he49 a49 hH46
              refine lV (Value.int .i64 3) he51 rfl rfl (wanted_plain rfl _) (rn_asg rfl (he51.op rfl) w50) ?_
              intro a52 he52
              clear he51 a51
              refine wpList_nil ?_
              refine then_ok ?_
              refine wp_ret ?_
              try simp only [Exit.then, Exit.inBlock, Exit.noGoto]
              exact ret_rowt rfl he52 rfl rfl (hH50.at (i := 0) rfl) undZ rfl infoZ2 ⟨by first | (exfalso; omega) | (unfold stepP at h; rw [if_pos (by omega)] at h; obtain ⟨rfl, rfl⟩ := Prod.mk.inj h; rfl) | ((first | rw [stepP_q (q := p.l + t) (r := p.c + m) (by omega) (by rw [Int.add_mul]; omega) (by omega) (by omega)] at h | rw [stepP_q (q := p.l + (t - 1)) (r := p.c + m + c) (by omega) (by rw [Int.add_mul, Int.sub_mul]; omega) (by omega) (by omega)] at h | rw [stepP_q (q := p.l + (t + 1)) (r := p.c + m - c) (by omega) (by rw [Int.add_mul, Int.add_mul]; omega) (by omega) (by omega)] at h); (first | rw [if_pos (by omega)] at h | rw [if_neg (by omega)] at h); obtain ⟨rfl, rfl⟩ := Prod.mk.inj h; rfl), hH50.new⟩
  · skip
    refine lC he7 rfl rfl Tryd.func19 (by kernel_rfl) rfl rfl (wanted_plain rfl _) rfl (RIn_c p c false (decide_eq_false hb0) w3) ?_
    intro w8 a9 hn he9
    have hH8 := hH3.call hn
    clear he7 a7 hH3 hn
    refine lV (Value.bool true) he9 rfl rfl (wanted_plain rfl _) (rn_not (b := false) rfl (he9.op rfl) w8) ?_
    intro a10 he10
    clear he9 a9
    refine wpList_nil ?_
    refine then_ok ?_
    refine wp_cond_true (he10.op rfl) ?_
    refine wp_seq ?_
    refine wp_region_lit ?_
    refine lV (Value.agg #[Value.int .i64 0, Value.int .i64 0]) he10 rfl rfl (wanted_plain rfl _) (rn_bZ rfl  w8) ?_
    intro a11 he11
    clear he10 a10
    refine lSetF 0 #[Value.int .i64 0, Value.int .i64 0] (cs := #[Value.int .i64 0, Value.int .i64 0]) he11 hH8 rfl (wanted_plain rfl _) rfl rfl rfl rfl rfl (by kernel_rfl) (by kernel_rfl) (by kernel_rfl) rfl ?_
    intro w12 a13 hH12 hf he13
    replace hH12 : Hp w [⟨p3, 23, #[Value.int .i64 0, Value.int .i64 0]⟩, ⟨p1, 23, #[Value.int .i64 p.l, Value.int .i64 p.c]⟩] w12 := hH12
    clear hf
    clear he11 a11 hH8
    refine lV (Value.int .i64 2) he13 rfl rfl (wanted_plain rfl _) (rn_asg rfl (he13.op rfl) w12) ?_
    intro a14 he14
    clear he13 a13
    refine wpList_nil ?_
    refine then_ok ?_
    refine wp_ret ?_
    try simp only [Exit.then, Exit.inBlock, Exit.noGoto]
    exact ret_rowt rfl he14 rfl rfl (hH12.at (i := 0) rfl) undZ rfl infoZ2 ⟨by first | (exfalso; omega) | (unfold stepP at h; rw [if_pos (by omega)] at h; obtain ⟨rfl, rfl⟩ := Prod.mk.inj h; rfl) | ((first | rw [stepP_q (q := p.l + t) (r := p.c + m) (by omega) (by rw [Int.add_mul]; omega) (by omega) (by omega)] at h | rw [stepP_q (q := p.l + (t - 1)) (r := p.c + m + c) (by omega) (by rw [Int.add_mul, Int.sub_mul]; omega) (by omega) (by omega)] at h | rw [stepP_q (q := p.l + (t + 1)) (r := p.c + m - c) (by omega) (by rw [Int.add_mul, Int.add_mul]; omega) (by omega) (by omega)] at h); (first | rw [if_pos (by omega)] at h | rw [if_neg (by omega)] at h); obtain ⟨rfl, rfl⟩ := Prod.mk.inj h; rfl), hH12.new⟩
set_option linter.unusedSimpArgs false in
set_option maxRecDepth 100000 in
set_option maxHeartbeats 1600000 in
theorem Text_c (p : Pl) (s : List UInt8) (er : Int) (h : textE p = (s, er)) (w : World) (hT : Tab w) : Calls Tryd.prog 28 #[.agg #[.int .i64 p.l, .int .i64 p.c]] w fun e w' => e = .returned (.tuple #[.string (bs s), .int .i64 er]) ∧ New w w' := by
  refine calls_args (vl := [Value.agg #[Value.int .i64 p.l, Value.int .i64 p.c]]) 15 Tryd.func28 rfl Tryd.ntmps28 (by kernel_rfl) (fun a he => ?_)
  have he0 : Env 15 [(0, Value.agg #[Value.int .i64 p.l, Value.int .i64 p.c])] a := he
  clear he
  have hH := Hp.start w
  refine wp_seq ?_
  refine wp_region_lit ?_
  refine lNewP (fun p => .pointer (some ⟨p, 0, none⟩)) he0 hH rfl rfl (wanted_plain rfl _) (rn_boxZ rfl (he0.op rfl) w) ?_
  intro p1 w1 a2 hp hn hH1 he2
  clear he0 a hH hn hp
  refine lV (Value.string { data := #[] }) he2 rfl rfl (wanted_plain rfl _) (rn_asg rfl (he2.op rfl) w1) ?_
  intro a3 he3
  clear he2 a2
  refine lV (Value.int .i64 0) he3 rfl rfl (wanted_plain rfl _) (rn_asg rfl (he3.op rfl) w1) ?_
  intro a4 he4
  clear he3 a3
  refine wpList_nil ?_
  refine then_ok ?_
  refine wp_seq ?_
  refine wp_seq ?_
  refine wp_region_lit ?_
  refine lV (Value.agg #[Value.int .i64 p.l, Value.int .i64 p.c]) he4 rfl rfl (wanted_plain rfl _) (rn_ldp [Value.int .i64 p.l, Value.int .i64 p.c] rfl (he4.op rfl) undZ rfl infoZ2 (hH1.at (i := 0) rfl) rfl) ?_
  intro a5 he5
  clear he4 a4
  by_cases hb0 : okP p
  · skip
    refine lC he5 rfl rfl Tryd.func9 (by kernel_rfl) rfl rfl (wanted_plain rfl _) rfl (Valid_c p true (decide_eq_true hb0) w1) ?_
    intro w6 a7 hn he7
    have hH6 := hH1.call hn
    clear he5 a5 hH1 hn
    refine lV (Value.bool false) he7 rfl rfl (wanted_plain rfl _) (rn_not (b := true) rfl (he7.op rfl) w6) ?_
    intro a8 he8
    clear he7 a7
    refine wpList_nil ?_
    refine then_ok ?_
    refine wp_cond_false (he8.op rfl) ?_
    refine wp_skip ?_
    refine then_ok ?_
    refine wp_seq ?_
    have hd1 := digits_len 12 p.l.toNat (by omega)
    have hd2 := digits_len 3 p.c.toNat (by omega)
    refine wp_region_held_drew (S := Hp w [⟨p1, 23, #[Value.int .i64 p.l, Value.int .i64 p.c]⟩]) (by kernel_rfl) (hH6.drew) (fun _ => ?_)
    have hn : New w6 (World.drew w6) := (Fr.refl _ _).drew
    clear hn
    have hH9 := hH6.drew
    clear hH6
    generalize World.drew w6 = w9 at *
    refine hV (fuel := 9) (i := 0) (Value.pointer (some ⟨p1, 0, none⟩)) he8 rfl rfl rfl (by kernel_rfl) (by kernel_rfl) (by kernel_rfl) (fun _ _ _ h => h) (wanted_plain rfl _) (fun w' _ => rn_faZ0 rfl (he8.op rfl) rfl w') hH9 ?_
    intro a10 he10
    clear he8 a8
    refine hV (fuel := 8) (i := 1) (Value.int .i64 p.l) he10 rfl rfl rfl (by kernel_rfl) (by kernel_rfl) (by kernel_rfl) (fun _ _ _ h => h) (wanted_plain rfl _) (fun w' hw' => rn_ld1 rfl (he10.op rfl) Tryd.underlying3 (hw'.at (i := 0) rfl) rfl) hH9 ?_
    intro a11 he11
    clear he10 a10
    refine hV (fuel := 7) (i := 4) (Value.pointer (some ⟨p1, 1, none⟩)) he11 rfl rfl rfl (by kernel_rfl) (by kernel_rfl) (by kernel_rfl) (fun _ _ _ h => h) (wanted_plain rfl _) (fun w' _ => rn_faZ1 rfl (he11.op rfl) rfl w') hH9 ?_
    intro a12 he12
    clear he11 a11
    refine hV (fuel := 6) (i := 5) (Value.int .i64 p.c) he12 rfl rfl rfl (by kernel_rfl) (by kernel_rfl) (by kernel_rfl) (fun _ _ _ h => h) (wanted_plain rfl _) (fun w' hw' => rn_ld1 rfl (he12.op rfl) Tryd.underlying3 (hw'.at (i := 0) rfl) rfl) hH9 ?_
    intro a13 he13
    clear he12 a12
    refine hC (fuel := 5) (i := 2) he13 (by kernel_rfl) rfl rfl rfl Tryd.func38 (by kernel_rfl) rfl rfl (wanted_plain rfl _) rfl (Itoa_c p.l (by omega) (by omega) w9 (hT.new hH9.new)) ?_
    rintro _ w14 ⟨rfl, hn⟩
    have hH14 := hH9.call hn
    refine ⟨_, rfl, hH14, ?_⟩
    intro a15 he15
    clear he13 a13 hH9 hn
    refine hV (fuel := 4) (i := 3) (Value.string (bs ((Lib.decDigits (Int.toNat p.l)) ++ ([58] : List UInt8)))) he15 rfl rfl rfl (by kernel_rfl) (by kernel_rfl) (by kernel_rfl) (fun _ _ _ h => h) (wanted_plain rfl _) (fun w' _ => rn_addS (a := (Lib.decDigits (Int.toNat p.l))) (c := ([58] : List UInt8)) rfl (he15.op rfl) (he15.op rfl) (by first | omega | (simp only [List.length_append, List.length_cons, List.length_nil]; omega)) rfl w') hH14 ?_
    intro a16 he16
    clear he15 a15
    refine hC (fuel := 3) (i := 6) he16 (by kernel_rfl) rfl rfl rfl Tryd.func38 (by kernel_rfl) rfl rfl (wanted_plain rfl _) rfl (Itoa_c p.c (by omega) (by omega) w14 (hT.new hH14.new)) ?_
    rintro _ w17 ⟨rfl, hn⟩
    have hH17 := hH14.call hn
    refine ⟨_, rfl, hH17, ?_⟩
    intro a18 he18
    clear he16 a16 hH14 hn
    refine hV (fuel := 2) (i := 7) (Value.string (bs (((Lib.decDigits (Int.toNat p.l)) ++ ([58] : List UInt8)) ++ (Lib.decDigits (Int.toNat p.c))))) he18 rfl rfl rfl (by kernel_rfl) (by kernel_rfl) (by kernel_rfl) (fun _ _ _ h => h) (wanted_plain rfl _) (fun w' _ => rn_addS (a := ((Lib.decDigits (Int.toNat p.l)) ++ ([58] : List UInt8))) (c := (Lib.decDigits (Int.toNat p.c))) rfl (he18.op rfl) (he18.op rfl) (by first | omega | (simp only [List.length_append, List.length_cons, List.length_nil]; omega)) rfl w') hH17 ?_
    intro a19 he19
    clear he18 a18
    refine hV (fuel := 1) (i := 8) (Value.string (bs (((Lib.decDigits (Int.toNat p.l)) ++ ([58] : List UInt8)) ++ (Lib.decDigits (Int.toNat p.c))))) he19 rfl rfl rfl (by kernel_rfl) (by kernel_rfl) (by kernel_rfl) (fun _ _ _ h => h) (wanted_plain rfl _) (fun w' _ => rn_asg rfl (he19.op rfl) w') hH17 ?_
    intro a20 he20
    clear he19 a19
    refine hV (fuel := 0) (i := 9) (Value.int .i64 0) he20 rfl rfl rfl (by kernel_rfl) (by kernel_rfl) (by kernel_rfl) (fun _ _ _ h => h) (wanted_plain rfl _) (fun w' _ => rn_asg rfl (he20.op rfl) w') hH17 ?_
    intro a21 he21
    clear he20 a20
    refine wpAnyH_done (by kernel_rfl) ?_ _
    refine then_ok ?_
    refine wp_ret ?_
    try simp only [Exit.then, Exit.inBlock, Exit.noGoto]
    exact ret_tt rfl he21 rfl rfl ⟨by ((unfold textE at h; first | rw [if_pos (by omega)] at h | rw [if_neg (by omega)] at h); obtain ⟨rfl, rfl⟩ := Prod.mk.inj h; first | rfl | simp [textL]), hH17.new⟩
  · skip
    refine lC he5 rfl rfl Tryd.func9 (by kernel_rfl) rfl rfl (wanted_plain rfl _) rfl (Valid_c p false (decide_eq_false hb0) w1) ?_
    intro w6 a7 hn he7
    have hH6 := hH1.call hn
    clear he5 a5 hH1 hn
    refine lV (Value.bool true) he7 rfl rfl (wanted_plain rfl _) (rn_not (b := false) rfl (he7.op rfl) w6) ?_
    intro a8 he8
    clear he7 a7
    refine wpList_nil ?_
    refine then_ok ?_
    refine wp_cond_true (he8.op rfl) ?_
    refine wp_seq ?_
    refine wp_region_lit ?_
    refine lV (Value.string { data := #[] }) he8 rfl rfl (wanted_plain rfl _) (rn_asg rfl (he8.op rfl) w6) ?_
    intro a9 he9
    clear he8 a8
    refine lV (Value.int .i64 2) he9 rfl rfl (wanted_plain rfl _) (rn_asg rfl (he9.op rfl) w6) ?_
    intro a10 he10
    clear he9 a9
    refine wpList_nil ?_
    refine then_ok ?_
    refine wp_ret ?_
    try simp only [Exit.then, Exit.inBlock, Exit.noGoto]
    exact ret_tt rfl he10 rfl rfl ⟨by ((unfold textE at h; first | rw [if_pos (by omega)] at h | rw [if_neg (by omega)] at h); obtain ⟨rfl, rfl⟩ := Prod.mk.inj h; first | rfl | simp [textL]), hH6.new⟩
def parseE (l : List UInt8) : Pl × Int := match parseS l with
  | some p => (p, 0)
  | none => (zPl, 6)
theorem parseE_a {l : List UInt8} (h : ¬ ∃ v, Lib.atoiAll (Lib.cut l [58]).1 = .ok v) : parseE l = (zPl, 6) := by
  have e : parseS l = none := by
    unfold parseS
    split
    · rename_i a b h1 _
      exact absurd ⟨a, h1⟩ h
    · rfl
  unfold parseE
  rw [e]
theorem parseE_b {l : List UInt8} (h : ¬ ∃ v, Lib.atoiAll (Lib.cut l [58]).2.1 = .ok v) : parseE l = (zPl, 6) := by
  have e : parseS l = none := by
    unfold parseS
    split
    · rename_i a b _ h1
      exact absurd ⟨b, h1⟩ h
    · rfl
  unfold parseE
  rw [e]
theorem parseE_c {l : List UInt8} {a b : Int} (h1 : Lib.atoiAll (Lib.cut l [58]).1 = .ok a) (h2 : Lib.atoiAll (Lib.cut l [58]).2.1 = .ok b) : parseE l = if okP ⟨a, b⟩ ∧ textL ⟨a, b⟩ = l then (⟨a, b⟩, 0) else (zPl, 6) := by
  unfold parseE parseS
  rw [h1, h2]
  simp only
  by_cases h : okP ⟨a, b⟩ ∧ textL ⟨a, b⟩ = l
  · rw [if_pos h, if_pos h]
  · rw [if_neg h, if_neg h]
theorem parseE_text (p : Pl) (h : okP p) : parseE (textL p) = (p, 0) := by unfold parseE; rw [parseS_text p h]
set_option linter.unusedSimpArgs false in
set_option maxRecDepth 100000 in
set_option maxHeartbeats 1600000 in
theorem Parse_c (l : List UInt8) (hl : l.length ≤ 1000) (q : Pl) (er : Int) (h : parseE l = (q, er)) (w : World) (hT : Tab w) : Calls Tryd.prog 37 #[.string (bs l)] w fun e w' => e = .returned (.tuple #[q.v, .int .i64 er]) ∧ New w w' := by
  refine calls_args (vl := [Value.string (bs l)]) 54 Tryd.func37 rfl Tryd.ntmps37 (by kernel_rfl) (fun a he => ?_)
  have he0 : Env 54 [(0, Value.string (bs l))] a := he
  clear he
  have hH := Hp.start w
  refine wp_seq ?_
  refine wp_region_lit ?_
  refine lNewP (fun p => .pointer (some ⟨p, 0, none⟩)) he0 hH rfl rfl (wanted_plain rfl _) (rn_allocZ rfl w) ?_
  intro p1 w1 a2 hp hn hH1 he2
  clear he0 a hH hn hp
  refine lV (Value.int .i64 0) he2 rfl rfl (wanted_plain rfl _) (rn_asg rfl (he2.op rfl) w1) ?_
  intro a3 he3
  clear he2 a2
  refine wpList_nil ?_
  refine then_ok ?_
  refine wp_seq ?_
  refine wp_region_lit ?_
  refine lV (Value.string (bs l)) he3 rfl rfl (wanted_plain rfl _) (rn_mv rfl (he3.op rfl) w1) ?_
  intro a4 he4
  clear he3 a3
  refine lC he4 rfl rfl Tryd.func40 (by kernel_rfl) rfl rfl (wanted_plain rfl _) rfl (Cut_c l (by omega) w1 (hT.new hH1.new)) ?_
  intro w5 a6 hn he6
  have hH5 := hH1.call hn
  clear he4 a4 hH1 hn
  refine lV (Value.tuple #[Value.string (bs (Lib.cut l [58]).1), Value.string (bs (Lib.cut l [58]).2.1), Value.bool (Lib.cut l [58]).2.2]) he6 rfl rfl (wanted_plain rfl _) (rn_mv rfl (he6.op rfl) w5) ?_
  intro a7 he7
  clear he6 a6
  refine lV (Value.string (bs (Lib.cut l [58]).1)) he7 rfl rfl (wanted_plain rfl _) (rn_ext rfl (he7.op rfl) rfl w5) ?_
  intro a8 he8
  clear he7 a7
  refine lV (Value.string (bs (Lib.cut l [58]).2.1)) he8 rfl rfl (wanted_plain rfl _) (rn_ext rfl (he8.op rfl) rfl w5) ?_
  intro a9 he9
  clear he8 a8
  refine lV (Value.bool (Lib.cut l [58]).2.2) he9 rfl rfl (wanted_plain rfl _) (rn_ext rfl (he9.op rfl) rfl w5) ?_
  intro a10 he10
  clear he9 a9
  refine lV (Value.string (bs (Lib.cut l [58]).1)) he10 rfl rfl (wanted_plain rfl _) (rn_asg rfl (he10.op rfl) w5) ?_
  intro a11 he11
  clear he10 a10
  refine lV (Value.string (bs (Lib.cut l [58]).2.1)) he11 rfl rfl (wanted_plain rfl _) (rn_asg rfl (he11.op rfl) w5) ?_
  intro a12 he12
  clear he11 a11
  refine lV (Value.bool (Lib.cut l [58]).2.2) he12 rfl rfl (wanted_plain rfl _) (rn_asg rfl (he12.op rfl) w5) ?_
  intro a13 he13
  clear he12 a12
  refine wpList_nil ?_
  refine then_ok ?_
  refine wp_seq ?_
  refine wp_region_lit ?_
  refine lV (Value.string (bs (Lib.cut l [58]).1)) he13 rfl rfl (wanted_plain rfl _) (rn_mv rfl (he13.op rfl) w5) ?_
  intro a14 he14
  clear he13 a13
  by_cases hb0 : ∃ v, Lib.atoiAll ((Lib.cut l [58]).1) = .ok v
  · skip
    obtain ⟨v15, hv15⟩ := id hb0
    refine lC he14 rfl rfl Tryd.func41 (by kernel_rfl) rfl rfl (wanted_plain rfl _) rfl (Atoi_yes ((Lib.cut l [58]).1) (by have := cut_len l; omega) v15 hv15 w5) ?_
    intro w16 a17 hn he17
    have hH16 := hH5.call hn
    clear he14 a14 hH5 hn
    refine lV (Value.tuple #[Value.int .i64 v15, Value.nilIface]) he17 rfl rfl (wanted_plain rfl _) (rn_mv rfl (he17.op rfl) w16) ?_
    intro a18 he18
    clear he17 a17
    refine lV (Value.int .i64 v15) he18 rfl rfl (wanted_plain rfl _) (rn_ext rfl (he18.op rfl) rfl w16) ?_
    intro a19 he19
    clear he18 a18
    refine lV (Value.nilIface) he19 rfl rfl (wanted_plain rfl _) (rn_ext rfl (he19.op rfl) rfl w16) ?_
    intro a20 he20
    clear he19 a19
    refine lV (Value.int .i64 v15) he20 rfl rfl (wanted_plain rfl _) (rn_asg rfl (he20.op rfl) w16) ?_
    intro a21 he21
    clear he20 a20
    refine lV (Value.nilIface) he21 rfl rfl (wanted_plain rfl _) (rn_asg rfl (he21.op rfl) w16) ?_
    intro a22 he22
    clear he21 a21
    refine wpList_nil ?_
    refine then_ok ?_
    refine wp_seq ?_
    refine wp_region_lit ?_
    refine lV (Value.string (bs (Lib.cut l [58]).2.1)) he22 rfl rfl (wanted_plain rfl _) (rn_mv rfl (he22.op rfl) w16) ?_
    intro a23 he23
    clear he22 a22
    by_cases hb1 : ∃ v, Lib.atoiAll ((Lib.cut l [58]).2.1) = .ok v
    · skip
      obtain ⟨v24, hv24⟩ := id hb1
      refine lC he23 rfl rfl Tryd.func41 (by kernel_rfl) rfl rfl (wanted_plain rfl _) rfl (Atoi_yes ((Lib.cut l [58]).2.1) (by have := cut_len l; omega) v24 hv24 w16) ?_
      intro w25 a26 hn he26
      have hH25 := hH16.call hn
      clear he23 a23 hH16 hn
      refine lV (Value.tuple #[Value.int .i64 v24, Value.nilIface]) he26 rfl rfl (wanted_plain rfl _) (rn_mv rfl (he26.op rfl) w25) ?_
      intro a27 he27
      clear he26 a26
      refine lV (Value.int .i64 v24) he27 rfl rfl (wanted_plain rfl _) (rn_ext rfl (he27.op rfl) rfl w25) ?_
      intro a28 he28
      clear he27 a27
      refine lV (Value.nilIface) he28 rfl rfl (wanted_plain rfl _) (rn_ext rfl (he28.op rfl) rfl w25) ?_
      intro a29 he29
      clear he28 a28
      refine lV (Value.int .i64 v24) he29 rfl rfl (wanted_plain rfl _) (rn_asg rfl (he29.op rfl) w25) ?_
      intro a30 he30
      clear he29 a29
      refine lV (Value.nilIface) he30 rfl rfl (wanted_plain rfl _) (rn_asg rfl (he30.op rfl) w25) ?_
      intro a31 he31
      clear he30 a30
      refine wpList_nil ?_
      refine then_ok ?_
      refine wp_seq ?_
      refine wp_seq ?_
      refine wp_region_lit ?_
      refine lV (Value.nilIface) he31 rfl rfl (wanted_plain rfl _) (rn_mv rfl (he31.op rfl) w25) ?_
      intro a32 he32
      clear he31 a31
      refine lV (Value.bool false) he32 rfl rfl (wanted_plain rfl _) (rn_neErr0 rfl (he32.op rfl) (fun _ => rfl) w25) ?_
      intro a33 he33
      clear he32 a32
      refine lV (Value.bool false) he33 rfl rfl (wanted_plain rfl _) (rn_mv rfl (he33.op rfl) w25) ?_
      intro a34 he34
      clear he33 a33
      refine lV (Value.nilIface) he34 rfl rfl (he34.want rfl rfl rfl rfl rfl) (rn_mv rfl (he34.op rfl) w25) ?_
      intro a35 he35
      clear he34 a34
      refine lV (Value.bool false) he35 rfl rfl (he35.want rfl rfl rfl rfl rfl) (rn_neErr0 rfl (he35.op rfl) (fun _ => rfl) w25) ?_
      intro a36 he36
      clear he35 a35
      refine lV (Value.bool false) he36 rfl rfl (wanted_plain rfl _) (rn_pk0 rfl (he36.op rfl) (he36.op rfl) w25) ?_
      intro a37 he37
      clear he36 a36
      refine wpList_nil ?_
      refine then_ok ?_
      refine wp_cond_false (he37.op rfl) ?_
      refine wp_skip ?_
      refine then_ok ?_
      refine wp_seq ?_
      refine wp_region_lit ?_
      refine lV (Value.int .i64 v15) he37 rfl rfl (wanted_plain rfl _) (rn_mv rfl (he37.op rfl) w25) ?_
      intro a38 he38
      clear he37 a37
      refine lV (Value.int .i64 v24) he38 rfl rfl (wanted_plain rfl _) (rn_mv rfl (he38.op rfl) w25) ?_
      intro a39 he39
      clear he38 a38
      refine lV (Value.agg #[Value.int .i64 v15, Value.int .i64 v24]) he39 rfl rfl (wanted_plain rfl _) (rn_bZ01 rfl (he39.op rfl) (he39.op rfl) w25) ?_
      intro a40 he40
      clear he39 a39
      refine lNewP (fun p => .pointer (some ⟨p, 0, none⟩)) he40 hH25 rfl rfl (wanted_plain rfl _) (rn_allocZ rfl w25) ?_
      intro p41 w41 a42 hp hn hH41 he42
      clear he40 a40 hH25 hn hp
      refine lSetF 0 #[Value.int .i64 v15, Value.int .i64 v24] (cs := #[Value.int .i64 v15, Value.int .i64 v24]) he42 hH41 rfl (wanted_plain rfl _) rfl rfl rfl rfl rfl (by kernel_rfl) (by kernel_rfl) (by kernel_rfl) rfl ?_
      intro w43 a44 hH43 hf he44
      replace hH43 : Hp w [⟨p41, 23, #[Value.int .i64 v15, Value.int .i64 v24]⟩, ⟨p1, 23, #[Value.int .i64 0, Value.int .i64 0]⟩] w43 := hH43
      clear hf
      clear he42 a42 hH41
      refine wpList_nil ?_
      refine then_ok ?_
      refine wp_seq ?_
      refine wp_seq ?_
      refine wp_region_lit ?_
      refine lV (Value.agg #[Value.int .i64 v15, Value.int .i64 v24]) he44 rfl rfl (wanted_plain rfl _) (rn_ldp [Value.int .i64 v15, Value.int .i64 v24] rfl (he44.op rfl) undZ rfl infoZ2 (hH43.at (i := 0) rfl) rfl) ?_
      intro a45 he45
      clear he44 a44
      by_cases hb2 : okP (⟨v15, v24⟩ : Pl)
      · skip
        try dsimp only [okP, befP, colP, inP, argC, idxP] at hb2
        refine lC he45 rfl rfl Tryd.func28 (by kernel_rfl) rfl rfl (wanted_plain rfl _) rfl (Text_c (⟨v15, v24⟩ : Pl) (textL (⟨v15, v24⟩ : Pl)) 0 (if_pos hb2) w43 (hT.new hH43.new)) ?_
        intro w46 a47 hn he47
        have hH46 := hH43.call hn
        clear he45 a45 hH43 hn
        refine lV (Value.tuple #[Value.string (bs (textL (⟨v15, v24⟩ : Pl))), Value.int .i64 0]) he47 rfl rfl (wanted_plain rfl _) (rn_mv rfl (he47.op rfl) w46) ?_
        intro a48 he48
        clear he47 a47
        refine lV (Value.string (bs (textL (⟨v15, v24⟩ : Pl)))) he48 rfl rfl (wanted_plain rfl _) (rn_ext rfl (he48.op rfl) rfl w46) ?_
        intro a49 he49
        clear he48 a48
        refine lV (Value.int .i64 0) he49 rfl rfl (wanted_plain rfl _) (rn_ext rfl (he49.op rfl) rfl w46) ?_
        intro a50 he50
        clear he49 a49
        refine lV (Value.string (bs (textL (⟨v15, v24⟩ : Pl)))) he50 rfl rfl (wanted_plain rfl _) (rn_asg rfl (he50.op rfl) w46) ?_
        intro a51 he51
        clear he50 a50
        refine lV (Value.int .i64 0) he51 rfl rfl (wanted_plain rfl _) (rn_asg rfl (he51.op rfl) w46) ?_
        intro a52 he52
        clear he51 a51
        refine wpList_nil ?_
        refine then_ok ?_
        refine wp_seq ?_
        refine wp_region_lit ?_
        refine lV (Value.int .i64 0) he52 rfl rfl (wanted_plain rfl _) (rn_mv rfl (he52.op rfl) w46) ?_
        intro a53 he53
        clear he52 a52
        refine lV (Value.bool false) he53 rfl rfl (wanted_plain rfl _) (rn_neE rfl (he53.op rfl) (he53.op rfl) (by decide) w46) ?_
        intro a54 he54
        clear he53 a53
        refine lV (Value.bool false) he54 rfl rfl (wanted_plain rfl _) (rn_mv rfl (he54.op rfl) w46) ?_
        intro a55 he55
        clear he54 a54
        refine lV (Value.string (bs (textL (⟨v15, v24⟩ : Pl)))) he55 rfl rfl (he55.want rfl rfl rfl rfl rfl) (rn_mv rfl (he55.op rfl) w46) ?_
        intro a56 he56
        clear he55 a55
        refine lV (Value.string (bs l)) he56 rfl rfl (he56.want rfl rfl rfl rfl rfl) (rn_mv rfl (he56.op rfl) w46) ?_
        intro a57 he57
        clear he56 a56
        by_cases hb3 : (textL (⟨v15, v24⟩ : Pl)) = l
        · skip
          try dsimp only [okP, befP, colP, inP, argC, idxP] at hb3
          refine lV (Value.bool false) he57 rfl rfl (he57.want rfl rfl rfl rfl rfl) (rn_neS (a := (textL (⟨v15, v24⟩ : Pl))) (c := l) rfl (he57.op rfl) (he57.op rfl) (ndT hb3) w46) ?_
          intro a58 he58
          clear he57 a57
          refine lV (Value.bool false) he58 rfl rfl (wanted_plain rfl _) (rn_pk0 rfl (he58.op rfl) (he58.op rfl) w46) ?_
          intro a59 he59
          clear he58 a58
          refine wpList_nil ?_
          refine then_ok ?_
          refine wp_cond_false (he59.op rfl) ?_
          refine wp_skip ?_
          refine then_ok ?_
          refine wp_seq ?_
          refine wp_region_lit ?_
          refine lV (Value.agg #[Value.int .i64 v15, Value.int .i64 v24]) he59 rfl rfl (wanted_plain rfl _) (rn_ldp [Value.int .i64 v15, Value.int .i64 v24] rfl (he59.op rfl) undZ rfl infoZ2 (hH46.at (i := 0) rfl) rfl) ?_
          intro a60 he60
          clear he59 a59
          refine lSetF 1 #[Value.int .i64 v15, Value.int .i64 v24] (cs := #[Value.int .i64 v15, Value.int .i64 v24]) he60 hH46 rfl (wanted_plain rfl _) rfl rfl rfl rfl rfl (by kernel_rfl) (by kernel_rfl) (by kernel_rfl) rfl ?_
          intro w61 a62 hH61 hf he62
          replace hH61 : Hp w [⟨p41, 23, #[Value.int .i64 v15, Value.int .i64 v24]⟩, ⟨p1, 23, #[Value.int .i64 v15, Value.int .i64 v24]⟩] w61 := hH61
          clear hf
          clear he60 a60 hH46
          refine lV (Value.int .i64 0) he62 rfl rfl (wanted_plain rfl _) (rn_asg rfl (he62.op rfl) w61) ?_
          intro a63 he63
          clear he62 a62
          refine wpList_nil ?_
          refine then_ok ?_
          refine wp_ret ?_
          try simp only [Exit.then, Exit.inBlock, Exit.noGoto]
          exact ret_rowt rfl he63 rfl rfl (hH61.at (i := 1) rfl) undZ rfl infoZ2 ⟨by ((first | rw [parseE_a (by assumption)] at h | rw [parseE_b (by assumption)] at h | (rw [parseE_c (by assumption) (by assumption)] at h; first | rw [if_pos ⟨by assumption, by assumption⟩] at h | rw [if_neg (fun hh => absurd hh.1 (by assumption))] at h | rw [if_neg (fun hh => absurd hh.2 (by assumption))] at h)); obtain ⟨rfl, rfl⟩ := Prod.mk.inj h; rfl), hH61.new⟩
        · skip
          try dsimp only [okP, befP, colP, inP, argC, idxP] at hb3
          refine lV (Value.bool true) he57 rfl rfl (he57.want rfl rfl rfl rfl rfl) (rn_neS (a := (textL (⟨v15, v24⟩ : Pl))) (c := l) rfl (he57.op rfl) (he57.op rfl) (ndF hb3) w46) ?_
          intro a58 he58
          clear he57 a57
          refine lV (Value.bool true) he58 rfl rfl (wanted_plain rfl _) (rn_pk0 rfl (he58.op rfl) (he58.op rfl) w46) ?_
          intro a59 he59
          clear he58 a58
          refine wpList_nil ?_
          refine then_ok ?_
          refine wp_cond_true (he59.op rfl) ?_
          refine wp_seq ?_
          refine wp_region_lit ?_
          refine lV (Value.agg #[Value.int .i64 0, Value.int .i64 0]) he59 rfl rfl (wanted_plain rfl _) (rn_bZ rfl  w46) ?_
          intro a60 he60
          clear he59 a59
          refine lSetF 1 #[Value.int .i64 0, Value.int .i64 0] (cs := #[Value.int .i64 0, Value.int .i64 0]) he60 hH46 rfl (wanted_plain rfl _) rfl rfl rfl rfl rfl (by kernel_rfl) (by kernel_rfl) (by kernel_rfl) rfl ?_
          intro w61 a62 hH61 hf he62
          replace hH61 : Hp w [⟨p41, 23, #[Value.int .i64 v15, Value.int .i64 v24]⟩, ⟨p1, 23, #[Value.int .i64 0, Value.int .i64 0]⟩] w61 := hH61
          clear hf
          clear he60 a60 hH46
          refine lV (Value.int .i64 6) he62 rfl rfl (wanted_plain rfl _) (rn_asg rfl (he62.op rfl) w61) ?_
          intro a63 he63
          clear he62 a62
          refine wpList_nil ?_
          refine then_ok ?_
          refine wp_ret ?_
          try simp only [Exit.then, Exit.inBlock, Exit.noGoto]
          exact ret_rowt rfl he63 rfl rfl (hH61.at (i := 1) rfl) undZ rfl infoZ2 ⟨by ((first | rw [parseE_a (by assumption)] at h | rw [parseE_b (by assumption)] at h | (rw [parseE_c (by assumption) (by assumption)] at h; first | rw [if_pos ⟨by assumption, by assumption⟩] at h | rw [if_neg (fun hh => absurd hh.1 (by assumption))] at h | rw [if_neg (fun hh => absurd hh.2 (by assumption))] at h)); obtain ⟨rfl, rfl⟩ := Prod.mk.inj h; rfl), hH61.new⟩
      · skip
        try dsimp only [okP, befP, colP, inP, argC, idxP] at hb2
        refine lC he45 rfl rfl Tryd.func28 (by kernel_rfl) rfl rfl (wanted_plain rfl _) rfl (Text_c (⟨v15, v24⟩ : Pl) [] 2 (if_neg hb2) w43 (hT.new hH43.new)) ?_
        intro w46 a47 hn he47
        have hH46 := hH43.call hn
        clear he45 a45 hH43 hn
        refine lV (Value.tuple #[Value.string (bs []), Value.int .i64 2]) he47 rfl rfl (wanted_plain rfl _) (rn_mv rfl (he47.op rfl) w46) ?_
        intro a48 he48
        clear he47 a47
        refine lV (Value.string (bs [])) he48 rfl rfl (wanted_plain rfl _) (rn_ext rfl (he48.op rfl) rfl w46) ?_
        intro a49 he49
        clear he48 a48
        refine lV (Value.int .i64 2) he49 rfl rfl (wanted_plain rfl _) (rn_ext rfl (he49.op rfl) rfl w46) ?_
        intro a50 he50
        clear he49 a49
        refine lV (Value.string (bs [])) he50 rfl rfl (wanted_plain rfl _) (rn_asg rfl (he50.op rfl) w46) ?_
        intro a51 he51
        clear he50 a50
        refine lV (Value.int .i64 2) he51 rfl rfl (wanted_plain rfl _) (rn_asg rfl (he51.op rfl) w46) ?_
        intro a52 he52
        clear he51 a51
        refine wpList_nil ?_
        refine then_ok ?_
        refine wp_seq ?_
        refine wp_region_lit ?_
        refine lV (Value.int .i64 2) he52 rfl rfl (wanted_plain rfl _) (rn_mv rfl (he52.op rfl) w46) ?_
        intro a53 he53
        clear he52 a52
        refine lV (Value.bool true) he53 rfl rfl (wanted_plain rfl _) (rn_neE rfl (he53.op rfl) (he53.op rfl) (by decide) w46) ?_
        intro a54 he54
        clear he53 a53
        refine lV (Value.bool true) he54 rfl rfl (wanted_plain rfl _) (rn_mv rfl (he54.op rfl) w46) ?_
        intro a55 he55
        clear he54 a54
        refine lSkip he55 rfl rfl (he55.wantNot rfl rfl rfl rfl rfl rfl) ?_
        intro a56 he56
        clear he55 a55
        refine lSkip he56 rfl rfl (he56.wantNot rfl rfl rfl rfl rfl rfl) ?_
        intro a57 he57
        clear he56 a56
        refine lSkip he57 rfl rfl (he57.wantNot rfl rfl rfl rfl rfl rfl) ?_
        intro a58 he58
        clear he57 a57
        refine lV (Value.bool true) he58 rfl rfl (wanted_plain rfl _) (rn_pk rfl (he58.op rfl) (he58.op rfl) w46) ?_
        intro a59 he59
        clear he58 a58
        refine wpList_nil ?_
        refine then_ok ?_
        refine wp_cond_true (he59.op rfl) ?_
        refine wp_seq ?_
        refine wp_region_lit ?_
        refine lV (Value.agg #[Value.int .i64 0, Value.int .i64 0]) he59 rfl rfl (wanted_plain rfl _) (rn_bZ rfl  w46) ?_
        intro a60 he60
        clear he59 a59
        refine lSetF 1 #[Value.int .i64 0, Value.int .i64 0] (cs := #[Value.int .i64 0, Value.int .i64 0]) he60 hH46 rfl (wanted_plain rfl _) rfl rfl rfl rfl rfl (by kernel_rfl) (by kernel_rfl) (by kernel_rfl) rfl ?_
        intro w61 a62 hH61 hf he62
        replace hH61 : Hp w [⟨p41, 23, #[Value.int .i64 v15, Value.int .i64 v24]⟩, ⟨p1, 23, #[Value.int .i64 0, Value.int .i64 0]⟩] w61 := hH61
        clear hf
        clear he60 a60 hH46
        refine lV (Value.int .i64 6) he62 rfl rfl (wanted_plain rfl _) (rn_asg rfl (he62.op rfl) w61) ?_
        intro a63 he63
        clear he62 a62
        refine wpList_nil ?_
        refine then_ok ?_
        refine wp_ret ?_
        try simp only [Exit.then, Exit.inBlock, Exit.noGoto]
        exact ret_rowt rfl he63 rfl rfl (hH61.at (i := 1) rfl) undZ rfl infoZ2 ⟨by ((first | rw [parseE_a (by assumption)] at h | rw [parseE_b (by assumption)] at h | (rw [parseE_c (by assumption) (by assumption)] at h; first | rw [if_pos ⟨by assumption, by assumption⟩] at h | rw [if_neg (fun hh => absurd hh.1 (by assumption))] at h | rw [if_neg (fun hh => absurd hh.2 (by assumption))] at h)); obtain ⟨rfl, rfl⟩ := Prod.mk.inj h; rfl), hH61.new⟩
    · skip
      refine lCx he23 rfl rfl Tryd.func41 (by kernel_rfl) rfl rfl (wanted_plain rfl _) rfl (Atoi_no ((Lib.cut l [58]).2.1) (by have := cut_len l; omega) hb1 w16 (hT.new hH16.new)) ?_
      rintro _ w25 ⟨x24, N24, rfl, hn⟩
      refine ⟨_, rfl, ?_⟩
      intro a26 he26
      have hH25 := hH16.call hn
      clear he23 a23 hH16
      refine lV (Value.tuple #[Value.int .i64 x24, Value.iface 77 (Value.pointer (some ⟨N24, 0, none⟩))]) he26 rfl rfl (wanted_plain rfl _) (rn_mv rfl (he26.op rfl) w25) ?_
      intro a27 he27
      clear he26 a26
      refine lV (Value.int .i64 x24) he27 rfl rfl (wanted_plain rfl _) (rn_ext rfl (he27.op rfl) rfl w25) ?_
      intro a28 he28
      clear he27 a27
      refine lV (Value.iface 77 (Value.pointer (some ⟨N24, 0, none⟩))) he28 rfl rfl (wanted_plain rfl _) (rn_ext rfl (he28.op rfl) rfl w25) ?_
      intro a29 he29
      clear he28 a28
      refine lV (Value.int .i64 x24) he29 rfl rfl (wanted_plain rfl _) (rn_asg rfl (he29.op rfl) w25) ?_
      intro a30 he30
      clear he29 a29
      refine lV (Value.iface 77 (Value.pointer (some ⟨N24, 0, none⟩))) he30 rfl rfl (wanted_plain rfl _) (rn_asg rfl (he30.op rfl) w25) ?_
      intro a31 he31
      clear he30 a30
      refine wpList_nil ?_
      refine then_ok ?_
      refine wp_seq ?_
      refine wp_seq ?_
      refine wp_region_lit ?_
      refine lV (Value.nilIface) he31 rfl rfl (wanted_plain rfl _) (rn_mv rfl (he31.op rfl) w25) ?_
      intro a32 he32
      clear he31 a31
      refine lV (Value.bool false) he32 rfl rfl (wanted_plain rfl _) (rn_neErr0 rfl (he32.op rfl) (fun _ => rfl) w25) ?_
      intro a33 he33
      clear he32 a32
      refine lV (Value.bool false) he33 rfl rfl (wanted_plain rfl _) (rn_mv rfl (he33.op rfl) w25) ?_
      intro a34 he34
      clear he33 a33
      refine lV (Value.iface 77 (Value.pointer (some ⟨N24, 0, none⟩))) he34 rfl rfl (he34.want rfl rfl rfl rfl rfl) (rn_mv rfl (he34.op rfl) w25) ?_
      intro a35 he35
      clear he34 a34
      refine lV (Value.bool true) he35 rfl rfl (he35.want rfl rfl rfl rfl rfl) (rn_neErr1 rfl (he35.op rfl) (fun _ => rfl) w25) ?_
      intro a36 he36
      clear he35 a35
      refine lV (Value.bool true) he36 rfl rfl (wanted_plain rfl _) (rn_pk0 rfl (he36.op rfl) (he36.op rfl) w25) ?_
      intro a37 he37
      clear he36 a36
      refine wpList_nil ?_
      refine then_ok ?_
      refine wp_cond_true (he37.op rfl) ?_
      refine wp_seq ?_
      refine wp_region_lit ?_
      refine lV (Value.agg #[Value.int .i64 0, Value.int .i64 0]) he37 rfl rfl (wanted_plain rfl _) (rn_bZ rfl  w25) ?_
      intro a38 he38
      clear he37 a37
      refine lSetF 0 #[Value.int .i64 0, Value.int .i64 0] (cs := #[Value.int .i64 0, Value.int .i64 0]) he38 hH25 rfl (wanted_plain rfl _) rfl rfl rfl rfl rfl (by kernel_rfl) (by kernel_rfl) (by kernel_rfl) rfl ?_
      intro w39 a40 hH39 hf he40
      replace hH39 : Hp w [⟨p1, 23, #[Value.int .i64 0, Value.int .i64 0]⟩] w39 := hH39
      clear hf
      clear he38 a38 hH25
      refine lV (Value.int .i64 6) he40 rfl rfl (wanted_plain rfl _) (rn_asg rfl (he40.op rfl) w39) ?_
      intro a41 he41
      clear he40 a40
      refine wpList_nil ?_
      refine then_ok ?_
      refine wp_ret ?_
      try simp only [Exit.then, Exit.inBlock, Exit.noGoto]
      exact ret_rowt rfl he41 rfl rfl (hH39.at (i := 0) rfl) undZ rfl infoZ2 ⟨by ((first | rw [parseE_a (by assumption)] at h | rw [parseE_b (by assumption)] at h | (rw [parseE_c (by assumption) (by assumption)] at h; first | rw [if_pos ⟨by assumption, by assumption⟩] at h | rw [if_neg (fun hh => absurd hh.1 (by assumption))] at h | rw [if_neg (fun hh => absurd hh.2 (by assumption))] at h)); obtain ⟨rfl, rfl⟩ := Prod.mk.inj h; rfl), hH39.new⟩
  · skip
    refine lCx he14 rfl rfl Tryd.func41 (by kernel_rfl) rfl rfl (wanted_plain rfl _) rfl (Atoi_no ((Lib.cut l [58]).1) (by have := cut_len l; omega) hb0 w5 (hT.new hH5.new)) ?_
    rintro _ w16 ⟨x15, N15, rfl, hn⟩
    refine ⟨_, rfl, ?_⟩
    intro a17 he17
    have hH16 := hH5.call hn
    clear he14 a14 hH5
    refine lV (Value.tuple #[Value.int .i64 x15, Value.iface 77 (Value.pointer (some ⟨N15, 0, none⟩))]) he17 rfl rfl (wanted_plain rfl _) (rn_mv rfl (he17.op rfl) w16) ?_
    intro a18 he18
    clear he17 a17
    refine lV (Value.int .i64 x15) he18 rfl rfl (wanted_plain rfl _) (rn_ext rfl (he18.op rfl) rfl w16) ?_
    intro a19 he19
    clear he18 a18
    refine lV (Value.iface 77 (Value.pointer (some ⟨N15, 0, none⟩))) he19 rfl rfl (wanted_plain rfl _) (rn_ext rfl (he19.op rfl) rfl w16) ?_
    intro a20 he20
    clear he19 a19
    refine lV (Value.int .i64 x15) he20 rfl rfl (wanted_plain rfl _) (rn_asg rfl (he20.op rfl) w16) ?_
    intro a21 he21
    clear he20 a20
    refine lV (Value.iface 77 (Value.pointer (some ⟨N15, 0, none⟩))) he21 rfl rfl (wanted_plain rfl _) (rn_asg rfl (he21.op rfl) w16) ?_
    intro a22 he22
    clear he21 a21
    refine wpList_nil ?_
    refine then_ok ?_
    refine wp_seq ?_
    refine wp_region_lit ?_
    refine lV (Value.string (bs (Lib.cut l [58]).2.1)) he22 rfl rfl (wanted_plain rfl _) (rn_mv rfl (he22.op rfl) w16) ?_
    intro a23 he23
    clear he22 a22
    by_cases hb1 : ∃ v, Lib.atoiAll ((Lib.cut l [58]).2.1) = .ok v
    · skip
      obtain ⟨v24, hv24⟩ := id hb1
      refine lC he23 rfl rfl Tryd.func41 (by kernel_rfl) rfl rfl (wanted_plain rfl _) rfl (Atoi_yes ((Lib.cut l [58]).2.1) (by have := cut_len l; omega) v24 hv24 w16) ?_
      intro w25 a26 hn he26
      have hH25 := hH16.call hn
      clear he23 a23 hH16 hn
      refine lV (Value.tuple #[Value.int .i64 v24, Value.nilIface]) he26 rfl rfl (wanted_plain rfl _) (rn_mv rfl (he26.op rfl) w25) ?_
      intro a27 he27
      clear he26 a26
      refine lV (Value.int .i64 v24) he27 rfl rfl (wanted_plain rfl _) (rn_ext rfl (he27.op rfl) rfl w25) ?_
      intro a28 he28
      clear he27 a27
      refine lV (Value.nilIface) he28 rfl rfl (wanted_plain rfl _) (rn_ext rfl (he28.op rfl) rfl w25) ?_
      intro a29 he29
      clear he28 a28
      refine lV (Value.int .i64 v24) he29 rfl rfl (wanted_plain rfl _) (rn_asg rfl (he29.op rfl) w25) ?_
      intro a30 he30
      clear he29 a29
      refine lV (Value.nilIface) he30 rfl rfl (wanted_plain rfl _) (rn_asg rfl (he30.op rfl) w25) ?_
      intro a31 he31
      clear he30 a30
      refine wpList_nil ?_
      refine then_ok ?_
      refine wp_seq ?_
      refine wp_seq ?_
      refine wp_region_lit ?_
      refine lV (Value.iface 77 (Value.pointer (some ⟨N15, 0, none⟩))) he31 rfl rfl (wanted_plain rfl _) (rn_mv rfl (he31.op rfl) w25) ?_
      intro a32 he32
      clear he31 a31
      refine lV (Value.bool true) he32 rfl rfl (wanted_plain rfl _) (rn_neErr1 rfl (he32.op rfl) (fun _ => rfl) w25) ?_
      intro a33 he33
      clear he32 a32
      refine lV (Value.bool true) he33 rfl rfl (wanted_plain rfl _) (rn_mv rfl (he33.op rfl) w25) ?_
      intro a34 he34
      clear he33 a33
      refine lSkip he34 rfl rfl (he34.wantNot rfl rfl rfl rfl rfl rfl) ?_
      intro a35 he35
      clear he34 a34
      refine lSkip he35 rfl rfl (he35.wantNot rfl rfl rfl rfl rfl rfl) ?_
      intro a36 he36
      clear he35 a35
      refine lV (Value.bool true) he36 rfl rfl (wanted_plain rfl _) (rn_pk rfl (he36.op rfl) (he36.op rfl) w25) ?_
      intro a37 he37
      clear he36 a36
      refine wpList_nil ?_
      refine then_ok ?_
      refine wp_cond_true (he37.op rfl) ?_
      refine wp_seq ?_
      refine wp_region_lit ?_
      refine lV (Value.agg #[Value.int .i64 0, Value.int .i64 0]) he37 rfl rfl (wanted_plain rfl _) (rn_bZ rfl  w25) ?_
      intro a38 he38
      clear he37 a37
      refine lSetF 0 #[Value.int .i64 0, Value.int .i64 0] (cs := #[Value.int .i64 0, Value.int .i64 0]) he38 hH25 rfl (wanted_plain rfl _) rfl rfl rfl rfl rfl (by kernel_rfl) (by kernel_rfl) (by kernel_rfl) rfl ?_
      intro w39 a40 hH39 hf he40
      replace hH39 : Hp w [⟨p1, 23, #[Value.int .i64 0, Value.int .i64 0]⟩] w39 := hH39
      clear hf
      clear he38 a38 hH25
      refine lV (Value.int .i64 6) he40 rfl rfl (wanted_plain rfl _) (rn_asg rfl (he40.op rfl) w39) ?_
      intro a41 he41
      clear he40 a40
      refine wpList_nil ?_
      refine then_ok ?_
      refine wp_ret ?_
      try simp only [Exit.then, Exit.inBlock, Exit.noGoto]
      exact ret_rowt rfl he41 rfl rfl (hH39.at (i := 0) rfl) undZ rfl infoZ2 ⟨by ((first | rw [parseE_a (by assumption)] at h | rw [parseE_b (by assumption)] at h | (rw [parseE_c (by assumption) (by assumption)] at h; first | rw [if_pos ⟨by assumption, by assumption⟩] at h | rw [if_neg (fun hh => absurd hh.1 (by assumption))] at h | rw [if_neg (fun hh => absurd hh.2 (by assumption))] at h)); obtain ⟨rfl, rfl⟩ := Prod.mk.inj h; rfl), hH39.new⟩
    · skip
      refine lCx he23 rfl rfl Tryd.func41 (by kernel_rfl) rfl rfl (wanted_plain rfl _) rfl (Atoi_no ((Lib.cut l [58]).2.1) (by have := cut_len l; omega) hb1 w16 (hT.new hH16.new)) ?_
      rintro _ w25 ⟨x24, N24, rfl, hn⟩
      refine ⟨_, rfl, ?_⟩
      intro a26 he26
      have hH25 := hH16.call hn
      clear he23 a23 hH16
      refine lV (Value.tuple #[Value.int .i64 x24, Value.iface 77 (Value.pointer (some ⟨N24, 0, none⟩))]) he26 rfl rfl (wanted_plain rfl _) (rn_mv rfl (he26.op rfl) w25) ?_
      intro a27 he27
      clear he26 a26
      refine lV (Value.int .i64 x24) he27 rfl rfl (wanted_plain rfl _) (rn_ext rfl (he27.op rfl) rfl w25) ?_
      intro a28 he28
      clear he27 a27
      refine lV (Value.iface 77 (Value.pointer (some ⟨N24, 0, none⟩))) he28 rfl rfl (wanted_plain rfl _) (rn_ext rfl (he28.op rfl) rfl w25) ?_
      intro a29 he29
      clear he28 a28
      refine lV (Value.int .i64 x24) he29 rfl rfl (wanted_plain rfl _) (rn_asg rfl (he29.op rfl) w25) ?_
      intro a30 he30
      clear he29 a29
      refine lV (Value.iface 77 (Value.pointer (some ⟨N24, 0, none⟩))) he30 rfl rfl (wanted_plain rfl _) (rn_asg rfl (he30.op rfl) w25) ?_
      intro a31 he31
      clear he30 a30
      refine wpList_nil ?_
      refine then_ok ?_
      refine wp_seq ?_
      refine wp_seq ?_
      refine wp_region_lit ?_
      refine lV (Value.iface 77 (Value.pointer (some ⟨N15, 0, none⟩))) he31 rfl rfl (wanted_plain rfl _) (rn_mv rfl (he31.op rfl) w25) ?_
      intro a32 he32
      clear he31 a31
      refine lV (Value.bool true) he32 rfl rfl (wanted_plain rfl _) (rn_neErr1 rfl (he32.op rfl) (fun _ => rfl) w25) ?_
      intro a33 he33
      clear he32 a32
      refine lV (Value.bool true) he33 rfl rfl (wanted_plain rfl _) (rn_mv rfl (he33.op rfl) w25) ?_
      intro a34 he34
      clear he33 a33
      refine lSkip he34 rfl rfl (he34.wantNot rfl rfl rfl rfl rfl rfl) ?_
      intro a35 he35
      clear he34 a34
      refine lSkip he35 rfl rfl (he35.wantNot rfl rfl rfl rfl rfl rfl) ?_
      intro a36 he36
      clear he35 a35
      refine lV (Value.bool true) he36 rfl rfl (wanted_plain rfl _) (rn_pk rfl (he36.op rfl) (he36.op rfl) w25) ?_
      intro a37 he37
      clear he36 a36
      refine wpList_nil ?_
      refine then_ok ?_
      refine wp_cond_true (he37.op rfl) ?_
      refine wp_seq ?_
      refine wp_region_lit ?_
      refine lV (Value.agg #[Value.int .i64 0, Value.int .i64 0]) he37 rfl rfl (wanted_plain rfl _) (rn_bZ rfl  w25) ?_
      intro a38 he38
      clear he37 a37
      refine lSetF 0 #[Value.int .i64 0, Value.int .i64 0] (cs := #[Value.int .i64 0, Value.int .i64 0]) he38 hH25 rfl (wanted_plain rfl _) rfl rfl rfl rfl rfl (by kernel_rfl) (by kernel_rfl) (by kernel_rfl) rfl ?_
      intro w39 a40 hH39 hf he40
      replace hH39 : Hp w [⟨p1, 23, #[Value.int .i64 0, Value.int .i64 0]⟩] w39 := hH39
      clear hf
      clear he38 a38 hH25
      refine lV (Value.int .i64 6) he40 rfl rfl (wanted_plain rfl _) (rn_asg rfl (he40.op rfl) w39) ?_
      intro a41 he41
      clear he40 a40
      refine wpList_nil ?_
      refine then_ok ?_
      refine wp_ret ?_
      try simp only [Exit.then, Exit.inBlock, Exit.noGoto]
      exact ret_rowt rfl he41 rfl rfl (hH39.at (i := 0) rfl) undZ rfl infoZ2 ⟨by ((first | rw [parseE_a (by assumption)] at h | rw [parseE_b (by assumption)] at h | (rw [parseE_c (by assumption) (by assumption)] at h; first | rw [if_pos ⟨by assumption, by assumption⟩] at h | rw [if_neg (fun hh => absurd hh.1 (by assumption))] at h | rw [if_neg (fun hh => absurd hh.2 (by assumption))] at h)); obtain ⟨rfl, rfl⟩ := Prod.mk.inj h; rfl), hH39.new⟩
end Go.Proofs.YtijaemfalljdoaaDoor
