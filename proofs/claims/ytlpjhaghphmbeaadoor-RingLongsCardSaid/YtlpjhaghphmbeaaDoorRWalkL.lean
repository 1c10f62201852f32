/-
  RingLongs.
-/
import Derived.Test.YtlpjhaghphmbeaaDoorRKnown
namespace Go.Proofs.YtlpjhaghphmbeaaDoor
open Go.RowKit

theorem rn_maxI {ρ : Operand → Value} {o : Oper} {x : Operand} {i r : Int} (h : o.op = .call { callee := .builtin .max, args := #[.const (.int .i64 0), x], argTypes := #[3, 3] }) (hx : ρ x = .int .i64 i) (hc : ∀ v, ρ (.const v) = v) (hr : (if 0 < i then i else 0) = r) (w : World) : (execOp ρ o).run Tryd.prog w = .ok (.value (.int .i64 r)) w := by
  subst hr
  have h0 : ρ (.const (.int .i64 0)) = .int .i64 0 := hc _
  obtain ⟨dst, op, ty, pos, after, guard⟩ := o
  simp only at h
  subst h
  go_simp
/-- The line number i. -/
abbrev lnA (i : Nat) : Ln := ([tc (97 + (i : Int) % 26)], false)
theorem ok_lnA (i : Nat) : okL (lnA i).1 = true := by
  have h : ∀ j : Nat, j < 26 → okL [tc (97 + (j : Int))] = true := by decide +kernel
  have := h (i % 26) (Nat.mod_lt _ (by decide))
  rwa [Int.natCast_emod] at this
def fullL (k : Nat) : List Ln := (List.range k).map lnA
theorem fullL_len (k : Nat) : (fullL k).length = k := by simp [fullL]
theorem fullL_succ (k : Nat) : fullL (k + 1) = fullL k ++ [lnA k] := by simp [fullL, List.range_succ]
theorem fullL_at {k i : Nat} (h : i < k) : (fullL k)[i]? = some (lnA i) := by simp [fullL, h]
theorem mod_small (k : Nat) : ((k : Int).tmod 26) = (k : Int) % 26 := Int.tmod_eq_emod_of_nonneg (by omega)
/-- After k pushes. -/
structure LongI (mo pl k : Nat) (R : RS) : Prop where
  hmo : R.mo = mo
  hpl : R.pl = pl
  hfi : R.fi = k - mo
  hl : R.L = (fullL k).drop (k - mo)
theorem long_zero (mo pl : Nat) : LongI mo pl 0 ⟨mo, pl, 0, []⟩ := ⟨rfl, rfl, by show 0 = 0 - mo; omega, by rw [Nat.zero_sub]; rfl⟩
section
variable {mo pl k : Nat} {R : RS}
theorem LongI.len (h : LongI mo pl k R) : R.L.length = k - (k - mo) := by rw [h.hl, List.length_drop, fullL_len]
theorem LongI.nx (h : LongI mo pl k R) : R.nx = k := by unfold RS.nx; rw [h.len, h.hfi]; omega
theorem LongI.step (h : LongI mo pl k R) (hg : RgOk R) : LongI mo pl (k + 1) (pushR R (lnA k)).1 := by
  rw [push_t (ok_lnA k)]
  show LongI mo pl (k + 1) (evR (adR R (lnA k)))
  obtain ⟨_, h2, h3⟩ := evR_ok (R := adR R (lnA k)) (addP_ok hg.pl1 hg.pg)
  obtain ⟨h4, h5⟩ := evR_keep (adR R (lnA k))
  have hl : (adR R (lnA k)).L = (fullL (k + 1)).drop (k - mo) := by
    rw [adR_L, h.hl, fullL_succ, List.drop_append_of_le_length (by rw [fullL_len]; omega)]
  have hm : (adR R (lnA k)).mo = mo := h.hmo
  have hf : (adR R (lnA k)).fi = k - mo := h.hfi
  have hn : (adR R (lnA k)).L.length = k + 1 - (k - mo) := by rw [hl, List.length_drop, fullL_len]
  refine ⟨h4.trans hm, h5.trans h.hpl, ?_, ?_⟩
  · rw [h3, hn, hm, hf]
    omega
  · rw [h2, hn, hm, hl, List.drop_drop]
    congr 1
    omega
theorem LongI.at (h : LongI mo pl k R) {j : Nat} (hj : j < R.L.length) : R.L[j]? = some (lnA (k - mo + j)) := by
  have := h.len
  rw [h.hl, List.getElem?_drop, fullL_at (by omega)]
theorem LongI.gone (_ : LongI mo pl k R) {i : Int} (h0 : 0 ≤ i) (h1 : i < R.fi) : getR R i = (zLn, 14) := by
  have hm : missR R i = 14 := by
    unfold missR
    rw [if_neg (by unfold RS.nx; omega), if_pos h1]
  unfold getR
  rw [hm, if_neg (by decide)]
end
set_option linter.unusedSimpArgs false in
set_option maxRecDepth 100000 in
set_option maxHeartbeats 1600000 in
theorem ringLongs_walk (n mo pg : Int) (hn0 : 0 ≤ n) (hn9 : n ≤ 65535) (hm0 : 0 ≤ mo) (hm9 : mo ≤ 65535) (hp0 : 0 ≤ pg) (hp9 : pg ≤ 65535) (w : World) (hT : Tab w) :
    Calls Tryd.prog 4 #[.int .u16 n, .int .u16 mo, .int .u16 pg] w fun e w' => e = .returned (.bool true) ∧ Below w.heap.size w w' := by
  refine calls_args (vl := [.int .u16 n, .int .u16 mo, .int .u16 pg]) 135 Tryd.func4 rfl Tryd.ntmps4 (by kernel_rfl) (fun a he => ?_)
  have he0 : Env 135 [(0, .int .u16 n), (1, .int .u16 mo), (2, .int .u16 pg)] a := he
  clear he
  have hH := Hp.start w
  have hD := Dt.start hT
  refine wp_seq (wp_region_lit ?_)
  refine lW (.bool false) he0 rfl (rn_asg rfl (he0.op rfl) w) ?_
  intro a1 he1
  clear he0 a
  refine wpList_nil (then_ok ?_)
  by_cases h0 : 3000 < n
  · skip
    refine wp_seq ?_
    refine wp_seq (wp_region_lit ?_)
    refine lW (.int .u16 n) he1 rfl (rn_mv rfl (he1.op rfl) w) ?_
    intro a2 he2
    clear he1 a1
    refine lW (.bool true) he2 rfl (rn_gt16 rfl (he2.op rfl) (he2.op rfl) (decide_eq_true h0) w) ?_
    intro a3 he3
    clear he2 a2
    refine lW (.bool true) he3 rfl (rn_mv rfl (he3.op rfl) w) ?_
    intro a4 he4
    clear he3 a3
    refine lSkip he4 rfl rfl (he4.wantNot rfl rfl rfl rfl rfl rfl) ?_
    intro a5 he5
    clear he4 a4
    refine lSkip he5 rfl rfl (he5.wantNot rfl rfl rfl rfl rfl rfl) ?_
    intro a6 he6
    clear he5 a5
    refine lW (.bool true) he6 rfl (rn_pk rfl (he6.op rfl) (he6.op rfl) w) ?_
    intro a7 he7
    clear he6 a6
    refine lW (.bool true) he7 rfl (rn_mv rfl (he7.op rfl) w) ?_
    intro a8 he8
    clear he7 a7
    refine lSkip he8 rfl rfl (he8.wantNot rfl rfl rfl rfl rfl rfl) ?_
    intro a9 he9
    clear he8 a8
    refine lSkip he9 rfl rfl (he9.wantNot rfl rfl rfl rfl rfl rfl) ?_
    intro a10 he10
    clear he9 a9
    refine lW (.bool true) he10 rfl (rn_pk rfl (he10.op rfl) (he10.op rfl) w) ?_
    intro a11 he11
    clear he10 a10
    refine lW (.bool true) he11 rfl (rn_mv rfl (he11.op rfl) w) ?_
    intro a12 he12
    clear he11 a11
    refine lSkip he12 rfl rfl (he12.wantNot rfl rfl rfl rfl rfl rfl) ?_
    intro a13 he13
    clear he12 a12
    refine lSkip he13 rfl rfl (he13.wantNot rfl rfl rfl rfl rfl rfl) ?_
    intro a14 he14
    clear he13 a13
    refine lW (.bool true) he14 rfl (rn_pk rfl (he14.op rfl) (he14.op rfl) w) ?_
    intro a15 he15
    clear he14 a14
    refine wpList_nil (then_ok ?_)
    refine wp_cond_true (he15.op rfl) ?_
    refine wp_seq (wp_region_lit ?_)
    refine lC he15 rfl rfl Tryd.func8 (by kernel_rfl) rfl rfl (wanted_plain rfl _) rfl (known_any w hD.tab) ?_
    intro w16 a17 hn he17
    have hH16 := hH.call hn
    replace hD := (hD).new hn
    clear he15 a15 hH hn
    refine lW (.bool true) he17 rfl (rn_asg rfl (he17.op rfl) w16) ?_
    intro a18 he18
    clear he17 a17
    refine wpList_nil (then_ok ?_)
    refine wp_ret ?_
    try simp only [Exit.then, Exit.inBlock]
    exact ret_env rfl he18 rfl ⟨rfl, hD.fr.new_below⟩
  by_cases h1 : 2000 < mo
  · skip
    refine wp_seq ?_
    refine wp_seq (wp_region_lit ?_)
    refine lW (.int .u16 n) he1 rfl (rn_mv rfl (he1.op rfl) w) ?_
    intro a19 he19
    clear he1 a1
    refine lW (.bool false) he19 rfl (rn_gt16 rfl (he19.op rfl) (he19.op rfl) (decide_eq_false h0) w) ?_
    intro a20 he20
    clear he19 a19
    refine lW (.bool false) he20 rfl (rn_mv rfl (he20.op rfl) w) ?_
    intro a21 he21
    clear he20 a20
    refine lV (.int .u16 mo) he21 rfl rfl (he21.want rfl rfl rfl rfl rfl) (rn_mv rfl (he21.op rfl) w) ?_
    intro a22 he22
    clear he21 a21
    refine lV (.bool true) he22 rfl rfl (he22.want rfl rfl rfl rfl rfl) (rn_gt16 rfl (he22.op rfl) (he22.op rfl) (decide_eq_true h1) w) ?_
    intro a23 he23
    clear he22 a22
    refine lW (.bool true) he23 rfl (rn_pk0 rfl (he23.op rfl) (he23.op rfl) w) ?_
    intro a24 he24
    clear he23 a23
    refine lW (.bool true) he24 rfl (rn_mv rfl (he24.op rfl) w) ?_
    intro a25 he25
    clear he24 a24
    refine lSkip he25 rfl rfl (he25.wantNot rfl rfl rfl rfl rfl rfl) ?_
    intro a26 he26
    clear he25 a25
    refine lSkip he26 rfl rfl (he26.wantNot rfl rfl rfl rfl rfl rfl) ?_
    intro a27 he27
    clear he26 a26
    refine lW (.bool true) he27 rfl (rn_pk rfl (he27.op rfl) (he27.op rfl) w) ?_
    intro a28 he28
    clear he27 a27
    refine lW (.bool true) he28 rfl (rn_mv rfl (he28.op rfl) w) ?_
    intro a29 he29
    clear he28 a28
    refine lSkip he29 rfl rfl (he29.wantNot rfl rfl rfl rfl rfl rfl) ?_
    intro a30 he30
    clear he29 a29
    refine lSkip he30 rfl rfl (he30.wantNot rfl rfl rfl rfl rfl rfl) ?_
    intro a31 he31
    clear he30 a30
    refine lW (.bool true) he31 rfl (rn_pk rfl (he31.op rfl) (he31.op rfl) w) ?_
    intro a32 he32
    clear he31 a31
    refine wpList_nil (then_ok ?_)
    refine wp_cond_true (he32.op rfl) ?_
    refine wp_seq (wp_region_lit ?_)
    refine lC he32 rfl rfl Tryd.func8 (by kernel_rfl) rfl rfl (wanted_plain rfl _) rfl (known_any w hD.tab) ?_
    intro w33 a34 hn he34
    have hH33 := hH.call hn
    replace hD := (hD).new hn
    clear he32 a32 hH hn
    refine lW (.bool true) he34 rfl (rn_asg rfl (he34.op rfl) w33) ?_
    intro a35 he35
    clear he34 a34
    refine wpList_nil (then_ok ?_)
    refine wp_ret ?_
    try simp only [Exit.then, Exit.inBlock]
    exact ret_env rfl he35 rfl ⟨rfl, hD.fr.new_below⟩
  by_cases h2 : pg < 1
  · skip
    refine wp_seq ?_
    refine wp_seq (wp_region_lit ?_)
    refine lW (.int .u16 n) he1 rfl (rn_mv rfl (he1.op rfl) w) ?_
    intro a36 he36
    clear he1 a1
    refine lW (.bool false) he36 rfl (rn_gt16 rfl (he36.op rfl) (he36.op rfl) (decide_eq_false h0) w) ?_
    intro a37 he37
    clear he36 a36
    refine lW (.bool false) he37 rfl (rn_mv rfl (he37.op rfl) w) ?_
    intro a38 he38
    clear he37 a37
    refine lV (.int .u16 mo) he38 rfl rfl (he38.want rfl rfl rfl rfl rfl) (rn_mv rfl (he38.op rfl) w) ?_
    intro a39 he39
    clear he38 a38
    refine lV (.bool false) he39 rfl rfl (he39.want rfl rfl rfl rfl rfl) (rn_gt16 rfl (he39.op rfl) (he39.op rfl) (decide_eq_false h1) w) ?_
    intro a40 he40
    clear he39 a39
    refine lW (.bool false) he40 rfl (rn_pk0 rfl (he40.op rfl) (he40.op rfl) w) ?_
    intro a41 he41
    clear he40 a40
    refine lW (.bool false) he41 rfl (rn_mv rfl (he41.op rfl) w) ?_
    intro a42 he42
    clear he41 a41
    refine lV (.int .u16 pg) he42 rfl rfl (he42.want rfl rfl rfl rfl rfl) (rn_mv rfl (he42.op rfl) w) ?_
    intro a43 he43
    clear he42 a42
    refine lV (.bool true) he43 rfl rfl (he43.want rfl rfl rfl rfl rfl) (rn_ls16 rfl (he43.op rfl) (he43.op rfl) (decide_eq_true h2) w) ?_
    intro a44 he44
    clear he43 a43
    refine lW (.bool true) he44 rfl (rn_pk0 rfl (he44.op rfl) (he44.op rfl) w) ?_
    intro a45 he45
    clear he44 a44
    refine lW (.bool true) he45 rfl (rn_mv rfl (he45.op rfl) w) ?_
    intro a46 he46
    clear he45 a45
    refine lSkip he46 rfl rfl (he46.wantNot rfl rfl rfl rfl rfl rfl) ?_
    intro a47 he47
    clear he46 a46
    refine lSkip he47 rfl rfl (he47.wantNot rfl rfl rfl rfl rfl rfl) ?_
    intro a48 he48
    clear he47 a47
    refine lW (.bool true) he48 rfl (rn_pk rfl (he48.op rfl) (he48.op rfl) w) ?_
    intro a49 he49
    clear he48 a48
    refine wpList_nil (then_ok ?_)
    refine wp_cond_true (he49.op rfl) ?_
    refine wp_seq (wp_region_lit ?_)
    refine lC he49 rfl rfl Tryd.func8 (by kernel_rfl) rfl rfl (wanted_plain rfl _) rfl (known_any w hD.tab) ?_
    intro w50 a51 hn he51
    have hH50 := hH.call hn
    replace hD := (hD).new hn
    clear he49 a49 hH hn
    refine lW (.bool true) he51 rfl (rn_asg rfl (he51.op rfl) w50) ?_
    intro a52 he52
    clear he51 a51
    refine wpList_nil (then_ok ?_)
    refine wp_ret ?_
    try simp only [Exit.then, Exit.inBlock]
    exact ret_env rfl he52 rfl ⟨rfl, hD.fr.new_below⟩
  by_cases h3 : 1024 < pg
  · skip
    refine wp_seq ?_
    refine wp_seq (wp_region_lit ?_)
    refine lW (.int .u16 n) he1 rfl (rn_mv rfl (he1.op rfl) w) ?_
    intro a53 he53
    clear he1 a1
    refine lW (.bool false) he53 rfl (rn_gt16 rfl (he53.op rfl) (he53.op rfl) (decide_eq_false h0) w) ?_
    intro a54 he54
    clear he53 a53
    refine lW (.bool false) he54 rfl (rn_mv rfl (he54.op rfl) w) ?_
    intro a55 he55
    clear he54 a54
    refine lV (.int .u16 mo) he55 rfl rfl (he55.want rfl rfl rfl rfl rfl) (rn_mv rfl (he55.op rfl) w) ?_
    intro a56 he56
    clear he55 a55
    refine lV (.bool false) he56 rfl rfl (he56.want rfl rfl rfl rfl rfl) (rn_gt16 rfl (he56.op rfl) (he56.op rfl) (decide_eq_false h1) w) ?_
    intro a57 he57
    clear he56 a56
    refine lW (.bool false) he57 rfl (rn_pk0 rfl (he57.op rfl) (he57.op rfl) w) ?_
    intro a58 he58
    clear he57 a57
    refine lW (.bool false) he58 rfl (rn_mv rfl (he58.op rfl) w) ?_
    intro a59 he59
    clear he58 a58
    refine lV (.int .u16 pg) he59 rfl rfl (he59.want rfl rfl rfl rfl rfl) (rn_mv rfl (he59.op rfl) w) ?_
    intro a60 he60
    clear he59 a59
    refine lV (.bool false) he60 rfl rfl (he60.want rfl rfl rfl rfl rfl) (rn_ls16 rfl (he60.op rfl) (he60.op rfl) (decide_eq_false h2) w) ?_
    intro a61 he61
    clear he60 a60
    refine lW (.bool false) he61 rfl (rn_pk0 rfl (he61.op rfl) (he61.op rfl) w) ?_
    intro a62 he62
    clear he61 a61
    refine lW (.bool false) he62 rfl (rn_mv rfl (he62.op rfl) w) ?_
    intro a63 he63
    clear he62 a62
    refine lV (.int .u16 pg) he63 rfl rfl (he63.want rfl rfl rfl rfl rfl) (rn_mv rfl (he63.op rfl) w) ?_
    intro a64 he64
    clear he63 a63
    refine lV (.bool true) he64 rfl rfl (he64.want rfl rfl rfl rfl rfl) (rn_gt16 rfl (he64.op rfl) (he64.op rfl) (decide_eq_true h3) w) ?_
    intro a65 he65
    clear he64 a64
    refine lW (.bool true) he65 rfl (rn_pk0 rfl (he65.op rfl) (he65.op rfl) w) ?_
    intro a66 he66
    clear he65 a65
    refine wpList_nil (then_ok ?_)
    refine wp_cond_true (he66.op rfl) ?_
    refine wp_seq (wp_region_lit ?_)
    refine lC he66 rfl rfl Tryd.func8 (by kernel_rfl) rfl rfl (wanted_plain rfl _) rfl (known_any w hD.tab) ?_
    intro w67 a68 hn he68
    have hH67 := hH.call hn
    replace hD := (hD).new hn
    clear he66 a66 hH hn
    refine lW (.bool true) he68 rfl (rn_asg rfl (he68.op rfl) w67) ?_
    intro a69 he69
    clear he68 a68
    refine wpList_nil (then_ok ?_)
    refine wp_ret ?_
    try simp only [Exit.then, Exit.inBlock]
    exact ret_env rfl he69 rfl ⟨rfl, hD.fr.new_below⟩
  refine wp_seq ?_
  refine wp_seq (wp_region_lit ?_)
  refine lW (.int .u16 n) he1 rfl (rn_mv rfl (he1.op rfl) w) ?_
  intro a70 he70
  clear he1 a1
  refine lW (.bool false) he70 rfl (rn_gt16 rfl (he70.op rfl) (he70.op rfl) (decide_eq_false h0) w) ?_
  intro a71 he71
  clear he70 a70
  refine lW (.bool false) he71 rfl (rn_mv rfl (he71.op rfl) w) ?_
  intro a72 he72
  clear he71 a71
  refine lV (.int .u16 mo) he72 rfl rfl (he72.want rfl rfl rfl rfl rfl) (rn_mv rfl (he72.op rfl) w) ?_
  intro a73 he73
  clear he72 a72
  refine lV (.bool false) he73 rfl rfl (he73.want rfl rfl rfl rfl rfl) (rn_gt16 rfl (he73.op rfl) (he73.op rfl) (decide_eq_false h1) w) ?_
  intro a74 he74
  clear he73 a73
  refine lW (.bool false) he74 rfl (rn_pk0 rfl (he74.op rfl) (he74.op rfl) w) ?_
  intro a75 he75
  clear he74 a74
  refine lW (.bool false) he75 rfl (rn_mv rfl (he75.op rfl) w) ?_
  intro a76 he76
  clear he75 a75
  refine lV (.int .u16 pg) he76 rfl rfl (he76.want rfl rfl rfl rfl rfl) (rn_mv rfl (he76.op rfl) w) ?_
  intro a77 he77
  clear he76 a76
  refine lV (.bool false) he77 rfl rfl (he77.want rfl rfl rfl rfl rfl) (rn_ls16 rfl (he77.op rfl) (he77.op rfl) (decide_eq_false h2) w) ?_
  intro a78 he78
  clear he77 a77
  refine lW (.bool false) he78 rfl (rn_pk0 rfl (he78.op rfl) (he78.op rfl) w) ?_
  intro a79 he79
  clear he78 a78
  refine lW (.bool false) he79 rfl (rn_mv rfl (he79.op rfl) w) ?_
  intro a80 he80
  clear he79 a79
  refine lV (.int .u16 pg) he80 rfl rfl (he80.want rfl rfl rfl rfl rfl) (rn_mv rfl (he80.op rfl) w) ?_
  intro a81 he81
  clear he80 a80
  refine lV (.bool false) he81 rfl rfl (he81.want rfl rfl rfl rfl rfl) (rn_gt16 rfl (he81.op rfl) (he81.op rfl) (decide_eq_false h3) w) ?_
  intro a82 he82
  clear he81 a81
  refine lW (.bool false) he82 rfl (rn_pk0 rfl (he82.op rfl) (he82.op rfl) w) ?_
  intro a83 he83
  clear he82 a82
  refine wpList_nil (then_ok ?_)
  refine wp_cond_false (he83.op rfl) ?_
  refine wp_skip ?_
  refine then_ok ?_
  obtain ⟨N, rfl⟩ : ∃ m : Nat, n = m := ⟨n.toNat, by omega⟩
  obtain ⟨M, rfl⟩ : ∃ m : Nat, mo = m := ⟨mo.toNat, by omega⟩
  obtain ⟨K, rfl⟩ : ∃ m : Nat, pg = m := ⟨pg.toNat, by omega⟩
  refine wp_seq (wp_region_lit ?_)
  refine lW (.int .u16 M) he83 rfl (rn_mv rfl (he83.op rfl) w) ?_
  intro a84 he84
  clear he83 a83
  refine lW (.int .i64 M) he84 rfl (rn_cv16I rfl (he84.op rfl) (IntWalk.i64_in _ ⟨by omega, by omega⟩) w) ?_
  intro a85 he85
  clear he84 a84
  refine lW (.int .u16 K) he85 rfl (rn_mv rfl (he85.op rfl) w) ?_
  intro a86 he86
  clear he85 a85
  refine lW (.int .i64 K) he86 rfl (rn_cv16I rfl (he86.op rfl) (IntWalk.i64_in _ ⟨by omega, by omega⟩) w) ?_
  intro a87 he87
  clear he86 a86
  refine lCx he87 rfl rfl Tryd.func9 (by kernel_rfl) rfl rfl (wanted_plain rfl _) rfl (rNew_ok M K (by omega) (by omega) (by omega) w hD.tab) ?_
  rintro _ w88 ⟨ps, rfl, ht⟩
  have hD2 := hD.made ht
  have hH88 := hH.call ht.new
  replace hD := hD2
  clear hD2 ht
  refine ⟨_, rfl, ?_⟩
  intro a89 he89
  clear he87 a87 hH
  refine lW (.tuple #[.pointer (some ⟨ps, 0, none⟩), .int .i64 0]) he89 rfl (rn_mv rfl (he89.op rfl) w88) ?_
  intro a90 he90
  clear he89 a89
  refine lW (.pointer (some ⟨ps, 0, none⟩)) he90 rfl (rn_ext rfl (he90.op rfl) rfl w88) ?_
  intro a91 he91
  clear he90 a90
  refine lW (.int .i64 0) he91 rfl (rn_ext rfl (he91.op rfl) rfl w88) ?_
  intro a92 he92
  clear he91 a91
  refine lW (.pointer (some ⟨ps, 0, none⟩)) he92 rfl (rn_asg rfl (he92.op rfl) w88) ?_
  intro a93 he93
  clear he92 a92
  refine lW (.int .i64 0) he93 rfl (rn_asg rfl (he93.op rfl) w88) ?_
  intro a94 he94
  clear he93 a93
  refine wpList_nil (then_ok ?_)
  refine wp_seq ?_
  refine wp_seq (wp_region_lit ?_)
  refine lW (.pointer (some ⟨ps, 0, none⟩)) he94 rfl (rn_mv rfl (he94.op rfl) w88) ?_
  intro a95 he95
  clear he94 a94
  refine lW (.bool false) he95 rfl (rn_eqPr1 rfl (he95.op rfl) (fun _ => rfl) w88) ?_
  intro a96 he96
  clear he95 a95
  refine lW (.bool false) he96 rfl (rn_mv rfl (he96.op rfl) w88) ?_
  intro a97 he97
  clear he96 a96
  refine lV (.int .i64 0) he97 rfl rfl (he97.want rfl rfl rfl rfl rfl) (rn_mv rfl (he97.op rfl) w88) ?_
  intro a98 he98
  clear he97 a97
  refine lV (.bool false) he98 rfl rfl (he98.want rfl rfl rfl rfl rfl) (rn_neE rfl (he98.op rfl) (he98.op rfl) (by simp) w88) ?_
  intro a99 he99
  clear he98 a98
  refine lW (.bool false) he99 rfl (rn_pk0 rfl (he99.op rfl) (he99.op rfl) w88) ?_
  intro a100 he100
  clear he99 a99
  refine wpList_nil (then_ok ?_)
  refine wp_cond_false (he100.op rfl) ?_
  refine wp_skip ?_
  refine then_ok ?_
  have he101 : Env 135 [(7, .pointer (some ⟨ps, 0, none⟩)), (0, .int .u16 N), (1, .int .u16 M), (2, .int .u16 K)] a100 := he100.mem ⟨rfl, rfl, rfl, rfl, trivial⟩
  clear he100
  as_aux_lemma =>
    refine wp_seq ?_
    refine wp_seq (wp_region_lit ?_)
    refine lW (.int .i64 0) he101 rfl (rn_asg rfl (he101.op rfl) w88) ?_
    intro a102 he102
    clear he101 a100
    refine wpList_nil (then_ok ?_)
    refine wp_block ?_
    refine loop_nat (fun q a w' => ∃ (k : Nat) (R : RS), q = N - k ∧ k ≤ N ∧ LongI M K k R ∧ Env 135 [(0, .int .u16 N), (1, .int .u16 M), (2, .int .u16 K), (7, .pointer (some ⟨ps, 0, none⟩)), (9, .int .i64 k)] a ∧ Hp w [] w' ∧ Dt w w (fun _ => False) 0 [] [ringD ps R] w') N ⟨0, ⟨M, K, 0, []⟩, by omega, by omega, long_zero M K, he102.mem ⟨rfl, rfl, rfl, rfl, rfl, trivial⟩, hH88, hD⟩ ?_
    clear he102 hH88
    rintro q a103 w103 ⟨k, R, rfl, hk, hI, he103, hH103, hD⟩
    have hg := hD.ring_ok
    by_cases hkm : k < N
    · skip
      refine wp_seq ?_
      refine wp_seq (wp_region_lit ?_)
      refine lW (.int .i64 k) he103 rfl (rn_mv rfl (he103.op rfl) w103) ?_
      intro a104 he104
      clear he103 a103
      refine lW (.int .u16 N) he104 rfl (rn_mv rfl (he104.op rfl) w103) ?_
      intro a105 he105
      clear he104 a104
      refine lW (.int .i64 N) he105 rfl (rn_cv16I rfl (he105.op rfl) (IntWalk.i64_in _ ⟨by omega, by omega⟩) w103) ?_
      intro a106 he106
      clear he105 a105
      refine lW (.bool true) he106 rfl (rn_lss rfl (he106.op rfl) (he106.op rfl) (decide_eq_true (by omega)) w103) ?_
      intro a107 he107
      clear he106 a106
      refine wpList_nil (then_ok ?_)
      refine wp_cond_true (he107.op rfl) ?_
      refine wp_skip ?_
      refine then_ok ?_
      refine wp_seq ?_
      refine wp_block ?_
      refine wp_seq (wp_region_lit ?_)
      refine lW (.pointer (some ⟨ps, 0, none⟩)) he107 rfl (rn_mv rfl (he107.op rfl) w103) ?_
      intro a108 he108
      clear he107 a107
      refine lW (.int .i64 k) he108 rfl (rn_mv rfl (he108.op rfl) w103) ?_
      intro a109 he109
      clear he108 a108
      refine lW (.int .i64 ((k : Int) % 26)) he109 rfl (rn_remI rfl (he109.op rfl) (he109.op rfl) (by decide) (mod_small _) w103) ?_
      intro a110 he110
      clear he109 a109
      refine lW (.int .i64 (97 + (k : Int) % 26)) he110 rfl (rn_add1 rfl (he110.op rfl) (he110.op rfl) (by rw [IntWalk.i64_in _ ⟨by omega, by omega⟩]) w103) ?_
      intro a111 he111
      clear he110 a110
      refine lW (.int .i32 (97 + (k : Int) % 26)) he111 rfl (rn_cvI32 rfl (he111.op rfl) (IntWalk.i32_in _ ⟨by omega, by omega⟩) w103) ?_
      intro a112 he112
      clear he111 a111
      refine lCx he112 rfl rfl Tryd.func18 (by kernel_rfl) rfl rfl (wanted_plain rfl _) rfl (text_b (97 + (k : Int) % 26) w103) ?_
      rintro _ w113 ⟨At, ct, rfl, ht⟩
      have hD2 := hD.made ht
      have hH113 := hH103.call ht.new
      replace hD := hD2
      clear hD2 ht
      refine ⟨_, rfl, ?_⟩
      intro a114 he114
      clear he112 a112 hH103
      refine lW (.int .i64 k) he114 rfl (rn_mv rfl (he114.op rfl) w113) ?_
      intro a115 he115
      clear he114 a114
      have hpv : (pushR R (lnA k)).2 = ((k : Int), 0) := by rw [push_t (ok_lnA k)]; show ((R.nx : Int), (0 : Int)) = _; rw [hI.nx]
      replace hD := hD.pick 1 rfl
      obtain ⟨F_, G_, hsep, hrd_, hdj, hF, hstep⟩ := Dt.stepR (A := [ringD ps R]) (d := cellsD (.slice At 1 ct) [tc (97 + (k : Int) % 26)]) (D := []) hD
      refine lCx he115 rfl rfl Tryd.func17 (by kernel_rfl) rfl rfl (wanted_plain rfl _) rfl (pushes_b ps R _ (lnA k).1 (lnA k).2 k 0 F_ G_ w113 hsep.the (by rw [hI.nx]; unfold bigN; omega) hpv (cells_f hrd_) hdj hF hD.tab) ?_
      rintro _ w116 ⟨rfl, ht⟩
      obtain ⟨hD2, hHs⟩ := hstep _ _ ht
      have hH116 := hHs _ rfl hH113
      clear hHs hstep hsep hF hrd_ hdj
      replace hD := hD2
      clear hD2 ht
      refine ⟨_, rfl, ?_⟩
      intro a117 he117
      clear he115 a115 hH113
      refine lW (.bool false) he117 rfl (rn_not (b := true) rfl (he117.op rfl) w116) ?_
      intro a118 he118
      clear he117 a117
      refine wpList_nil (then_ok ?_)
      refine wp_cond_false (he118.op rfl) ?_
      refine wp_skip ?_
      refine block_ok ?_
      refine then_ok ?_
      refine wp_region_lit ?_
      refine lW (.int .i64 k) he118 rfl (rn_mv rfl (he118.op rfl) w116) ?_
      intro a119 he119
      clear he118 a118
      refine lW (.int .i64 ((k + 1 : Nat) : Int)) he119 rfl (rn_add1 rfl (he119.op rfl) (he119.op rfl) (by rw [IntWalk.i64_in _ ⟨by omega, by omega⟩]; omega) w116) ?_
      intro a120 he120
      clear he119 a119
      refine lW (.int .i64 ((k + 1 : Nat) : Int)) he120 rfl (rn_asg rfl (he120.op rfl) w116) ?_
      intro a121 he121
      clear he120 a120
      refine wpList_nil (then_ok ?_)
      exact ⟨N - (k + 1), by omega, k + 1, (pushR R (lnA k)).1, rfl, by omega, hI.step hg, he121.mem ⟨rfl, rfl, rfl, rfl, rfl, trivial⟩, hH116, Dt.first (A := [ringD ps (pushR R (lnA k)).1]) hD⟩
    refine wp_seq ?_
    refine wp_seq (wp_region_lit ?_)
    refine lW (.int .i64 k) he103 rfl (rn_mv rfl (he103.op rfl) w103) ?_
    intro a122 he122
    clear he103 a103
    refine lW (.int .u16 N) he122 rfl (rn_mv rfl (he122.op rfl) w103) ?_
    intro a123 he123
    clear he122 a122
    refine lW (.int .i64 N) he123 rfl (rn_cv16I rfl (he123.op rfl) (IntWalk.i64_in _ ⟨by omega, by omega⟩) w103) ?_
    intro a124 he124
    clear he123 a123
    refine lW (.bool false) he124 rfl (rn_lss rfl (he124.op rfl) (he124.op rfl) (decide_eq_false (by omega)) w103) ?_
    intro a125 he125
    clear he124 a124
    refine wpList_nil (then_ok ?_)
    refine wp_cond_false (he125.op rfl) ?_
    refine wp_exit ?_
    simp only [Exit.then, Exit.inBlock, if_true]
    obtain rfl : k = N := by omega
    refine wp_seq (wp_region_lit ?_)
    refine lW (.int .u16 k) he125 rfl (rn_mv rfl (he125.op rfl) w103) ?_
    intro a126 he126
    clear he125 a125
    refine lW (.int .i64 k) he126 rfl (rn_cv16I rfl (he126.op rfl) (IntWalk.i64_in _ ⟨by omega, by omega⟩) w103) ?_
    intro a127 he127
    clear he126 a126
    refine lW (.int .u16 M) he127 rfl (rn_mv rfl (he127.op rfl) w103) ?_
    intro a128 he128
    clear he127 a127
    refine lW (.int .i64 M) he128 rfl (rn_cv16I rfl (he128.op rfl) (IntWalk.i64_in _ ⟨by omega, by omega⟩) w103) ?_
    intro a129 he129
    clear he128 a128
    refine lW (.int .i64 ((k : Int) - M)) he129 rfl (rn_subI rfl (he129.op rfl) (he129.op rfl) (by rw [IntWalk.i64_in _ ⟨by omega, by omega⟩]) w103) ?_
    intro a130 he130
    clear he129 a129
    refine lW (.int .i64 ((k - M : Nat) : Int)) he130 rfl (rn_maxI rfl (he130.op rfl) (fun _ => rfl) (by split <;> omega) w103) ?_
    intro a131 he131
    clear he130 a130
    refine lW (.int .i64 ((k - M : Nat) : Int)) he131 rfl (rn_asg rfl (he131.op rfl) w103) ?_
    intro a132 he132
    clear he131 a131
    refine wpList_nil (then_ok ?_)
    have he133 : Env 135 [(10, .int .i64 ((k - M : Nat) : Int)), (0, .int .u16 k), (1, .int .u16 M), (2, .int .u16 K), (7, .pointer (some ⟨ps, 0, none⟩))] a132 := he132.mem ⟨rfl, rfl, rfl, rfl, rfl, trivial⟩
    clear he132
    as_aux_lemma =>
      obtain ⟨qq, hqq⟩ : ∃ q, M / K = q := ⟨_, rfl⟩
      have hq9 : qq ≤ M := hqq ▸ Nat.div_le_self M K
      have hpg : R.P.length ≤ qq + 2 := by have h_ := pages_le hg; rwa [hI.hmo, hI.hpl, hqq] at h_
      refine wp_seq ?_
      refine wp_seq ?_
      refine wp_region_held_drew (S := Hp w []) (by kernel_rfl) (hH103.drew) (fun _ => ?_)
      have hn : New w103 (World.drew w103) := (Fr.refl _ _).drew
      replace hD := (hD).new hn
      clear hn
      have hH134 := hH103.drew
      clear hH103
      generalize World.drew w103 = w134 at *
      refine hW (fuel := 21) (i := 0) (.pointer (some ⟨ps, 0, none⟩)) he133 rfl (by kernel_rfl) (fun _ _ _ h => h) (fun w' _ => rn_mv rfl (he133.op rfl) w') hH134 ?_
      intro a135 he135
      clear he133 a132
      refine hW (fuel := 20) (i := 2) (.int .i64 ((k - M : Nat) : Int)) he135 rfl (by kernel_rfl) (fun _ _ _ h => h) (fun w' _ => rn_mv rfl (he135.op rfl) w') hH134 ?_
      intro a136 he136
      clear he135 a135
      obtain ⟨Fs_, hs_⟩ := hD.get (i := 0) rfl
      refine hC (fuel := 19) (i := 1) he136 (by kernel_rfl) rfl rfl rfl Tryd.func19 (by kernel_rfl) rfl rfl (wanted_plain rfl _) rfl (rFirst_d (R := R) hs_ hD.tab) ?_
      rintro _ w137 ⟨rfl, hn⟩
      have hH137 := hH134.call hn
      replace hD := (hD).new hn
      refine ⟨_, rfl, hH137, ?_⟩
      intro a138 he138
      clear he136 a136 hH134 hn
      clear hs_ Fs_
      refine hW (fuel := 18) (i := 3) (.bool false) he138 rfl (by kernel_rfl) (fun _ _ _ h => h) (fun w' _ => rn_neI rfl (he138.op rfl) (he138.op rfl) (by rw [hI.hfi]; simp) w') hH137 ?_
      intro a139 he139
      clear he138 a138
      refine hW (fuel := 17) (i := 4) (.bool false) he139 rfl (by kernel_rfl) (fun _ _ _ h => h) (fun w' _ => rn_mv rfl (he139.op rfl) w') hH137 ?_
      intro a140 he140
      clear he139 a139
      refine hV (fuel := 16) (i := 5) (.pointer (some ⟨ps, 0, none⟩)) he140 rfl rfl rfl (by kernel_rfl) (by kernel_rfl) (by kernel_rfl) (fun _ _ _ h => h) (he140.want rfl rfl rfl rfl rfl) (fun w' _ => rn_mv rfl (he140.op rfl) w') hH137 ?_
      intro a141 he141
      clear he140 a140
      refine hV (fuel := 15) (i := 7) (.int .u16 k) he141 rfl rfl rfl (by kernel_rfl) (by kernel_rfl) (by kernel_rfl) (fun _ _ _ h => h) (he141.want rfl rfl rfl rfl rfl) (fun w' _ => rn_mv rfl (he141.op rfl) w') hH137 ?_
      intro a142 he142
      clear he141 a141
      refine hV (fuel := 14) (i := 8) (.int .i64 k) he142 rfl rfl rfl (by kernel_rfl) (by kernel_rfl) (by kernel_rfl) (fun _ _ _ h => h) (he142.want rfl rfl rfl rfl rfl) (fun w' _ => rn_cv16I rfl (he142.op rfl) (IntWalk.i64_in _ ⟨by omega, by omega⟩) w') hH137 ?_
      intro a143 he143
      clear he142 a142
      obtain ⟨Fs_, hs_⟩ := hD.get (i := 0) rfl
      refine hC (fuel := 13) (i := 6) he143 (by kernel_rfl) rfl rfl rfl Tryd.func20 (by kernel_rfl) rfl rfl (he143.want rfl rfl rfl rfl rfl) rfl (rNext_d (R := R) hs_ hD.tab) ?_
      rintro _ w144 ⟨rfl, hn⟩
      have hH144 := hH137.call hn
      replace hD := (hD).new hn
      refine ⟨_, rfl, hH144, ?_⟩
      intro a145 he145
      clear he143 a143 hH137 hn
      clear hs_ Fs_
      refine hV (fuel := 12) (i := 9) (.bool false) he145 rfl rfl rfl (by kernel_rfl) (by kernel_rfl) (by kernel_rfl) (fun _ _ _ h => h) (he145.want rfl rfl rfl rfl rfl) (fun w' _ => rn_neI rfl (he145.op rfl) (he145.op rfl) (by rw [hI.nx]; simp) w') hH144 ?_
      intro a146 he146
      clear he145 a145
      refine hW (fuel := 11) (i := 10) (.bool false) he146 rfl (by kernel_rfl) (fun _ _ _ h => h) (fun w' _ => rn_pk0 rfl (he146.op rfl) (he146.op rfl) w') hH144 ?_
      intro a147 he147
      clear he146 a146
      refine hW (fuel := 10) (i := 11) (.bool false) he147 rfl (by kernel_rfl) (fun _ _ _ h => h) (fun w' _ => rn_mv rfl (he147.op rfl) w') hH144 ?_
      intro a148 he148
      clear he147 a147
      refine hV (fuel := 9) (i := 12) (.pointer (some ⟨ps, 0, none⟩)) he148 rfl rfl rfl (by kernel_rfl) (by kernel_rfl) (by kernel_rfl) (fun _ _ _ h => h) (he148.want rfl rfl rfl rfl rfl) (fun w' _ => rn_mv rfl (he148.op rfl) w') hH144 ?_
      intro a149 he149
      clear he148 a148
      refine hV (fuel := 8) (i := 14) (.int .u16 M) he149 rfl rfl rfl (by kernel_rfl) (by kernel_rfl) (by kernel_rfl) (fun _ _ _ h => h) (he149.want rfl rfl rfl rfl rfl) (fun w' _ => rn_mv rfl (he149.op rfl) w') hH144 ?_
      intro a150 he150
      clear he149 a149
      refine hV (fuel := 7) (i := 15) (.int .i64 M) he150 rfl rfl rfl (by kernel_rfl) (by kernel_rfl) (by kernel_rfl) (fun _ _ _ h => h) (he150.want rfl rfl rfl rfl rfl) (fun w' _ => rn_cv16I rfl (he150.op rfl) (IntWalk.i64_in _ ⟨by omega, by omega⟩) w') hH144 ?_
      intro a151 he151
      clear he150 a150
      refine hV (fuel := 6) (i := 16) (.int .u16 K) he151 rfl rfl rfl (by kernel_rfl) (by kernel_rfl) (by kernel_rfl) (fun _ _ _ h => h) (he151.want rfl rfl rfl rfl rfl) (fun w' _ => rn_mv rfl (he151.op rfl) w') hH144 ?_
      intro a152 he152
      clear he151 a151
      refine hV (fuel := 5) (i := 17) (.int .i64 K) he152 rfl rfl rfl (by kernel_rfl) (by kernel_rfl) (by kernel_rfl) (fun _ _ _ h => h) (he152.want rfl rfl rfl rfl rfl) (fun w' _ => rn_cv16I rfl (he152.op rfl) (IntWalk.i64_in _ ⟨by omega, by omega⟩) w') hH144 ?_
      intro a153 he153
      clear he152 a152
      refine hV (fuel := 4) (i := 18) (.int .i64 qq) he153 rfl rfl rfl (by kernel_rfl) (by kernel_rfl) (by kernel_rfl) (fun _ _ _ h => h) (he153.want rfl rfl rfl rfl rfl) (fun w' _ => rn_quoI rfl (he153.op rfl) (he153.op rfl) (by omega) (by rw [show ((M : Int).tdiv (K : Int)) = ((M / K : Nat) : Int) from rfl, hqq, IntWalk.i64_in _ ⟨by omega, by omega⟩]) w') hH144 ?_
      intro a154 he154
      clear he153 a153
      refine hV (fuel := 3) (i := 19) (.int .i64 ((qq : Int) + 2)) he154 rfl rfl rfl (by kernel_rfl) (by kernel_rfl) (by kernel_rfl) (fun _ _ _ h => h) (he154.want rfl rfl rfl rfl rfl) (fun w' _ => rn_add1 rfl (he154.op rfl) (he154.op rfl) (by rw [IntWalk.i64_in _ ⟨by omega, by omega⟩]) w') hH144 ?_
      intro a155 he155
      clear he154 a154
      obtain ⟨Fs_, hs_⟩ := hD.get (i := 0) rfl
      refine hC (fuel := 2) (i := 13) he155 (by kernel_rfl) rfl rfl rfl Tryd.func21 (by kernel_rfl) rfl rfl (he155.want rfl rfl rfl rfl rfl) rfl (rPages_d (R := R) hs_ hD.tab) ?_
      rintro _ w156 ⟨rfl, hn⟩
      have hH156 := hH144.call hn
      replace hD := (hD).new hn
      refine ⟨_, rfl, hH156, ?_⟩
      intro a157 he157
      clear he155 a155 hH144 hn
      clear hs_ Fs_
      refine hV (fuel := 1) (i := 20) (.bool false) he157 rfl rfl rfl (by kernel_rfl) (by kernel_rfl) (by kernel_rfl) (fun _ _ _ h => h) (he157.want rfl rfl rfl rfl rfl) (fun w' _ => rn_gtr rfl (he157.op rfl) (he157.op rfl) (decide_eq_false (by omega)) w') hH156 ?_
      intro a158 he158
      clear he157 a157
      refine hW (fuel := 0) (i := 21) (.bool false) he158 rfl (by kernel_rfl) (fun _ _ _ h => h) (fun w' _ => rn_pk0 rfl (he158.op rfl) (he158.op rfl) w') hH156 ?_
      intro a159 he159
      clear he158 a158
      refine wpAnyH_done (by kernel_rfl) ?_ _
      refine then_ok ?_
      refine wp_cond_false (he159.op rfl) ?_
      refine wp_skip ?_
      refine then_ok ?_
      have he160 : Env 135 [(10, .int .i64 ((k - M : Nat) : Int)), (0, .int .u16 k), (1, .int .u16 M), (2, .int .u16 K), (7, .pointer (some ⟨ps, 0, none⟩))] a159 := he159.mem ⟨rfl, rfl, rfl, rfl, rfl, trivial⟩
      clear he159
      as_aux_lemma =>
        refine wp_seq (wp_region_lit ?_)
        refine lW (.pointer (some ⟨ps, 0, none⟩)) he160 rfl (rn_mv rfl (he160.op rfl) w156) ?_
        intro a161 he161
        clear he160 a159
        refine lW (.int .i64 ((k - M : Nat) : Int)) he161 rfl (rn_mv rfl (he161.op rfl) w156) ?_
        intro a162 he162
        clear he161 a161
        refine lW (.int .u16 k) he162 rfl (rn_mv rfl (he162.op rfl) w156) ?_
        intro a163 he163
        clear he162 a162
        refine lW (.int .i64 k) he163 rfl (rn_cv16I rfl (he163.op rfl) (IntWalk.i64_in _ ⟨by omega, by omega⟩) w156) ?_
        intro a164 he164
        clear he163 a163
        obtain ⟨Fs_, hs_⟩ := hD.get (i := 0) rfl
        have hrE : rangeE R ((k - M : Nat) : Int) (k : Int) = 0 := by rw [← hI.hfi, show (k : Int) = (R.nx : Nat) by rw [hI.nx]]; exact rangeE_all R
        have hrL : rangeL R ((k - M : Nat) : Int) (k : Int) = R.L := by rw [← hI.hfi, show (k : Int) = (R.nx : Nat) by rw [hI.nx]]; exact rangeL_all R
        refine lCx he164 rfl rfl Tryd.func22 (by kernel_rfl) rfl rfl (wanted_plain rfl _) rfl ((by have hc_ := rRange ps R ((k - M : Nat) : Int) (k : Int) Fs_ w156 hs_ hD.tab; rw [hrE, hrL] at hc_; exact hc_)) ?_
        rintro _ w165 ⟨Ag, cg, rfl, ht⟩
        have hD2 := hD.made ht
        have hH165 := hH156.call ht.new
        replace hD := hD2
        clear hD2 ht
        refine ⟨_, rfl, ?_⟩
        intro a166 he166
        clear he164 a164 hH156
        clear hs_ Fs_
        refine lW (.tuple #[.slice Ag R.L.length cg, .int .i64 0]) he166 rfl (rn_mv rfl (he166.op rfl) w165) ?_
        intro a167 he167
        clear he166 a166
        refine lW (.slice Ag R.L.length cg) he167 rfl (rn_ext rfl (he167.op rfl) rfl w165) ?_
        intro a168 he168
        clear he167 a167
        refine lW (.int .i64 0) he168 rfl (rn_ext rfl (he168.op rfl) rfl w165) ?_
        intro a169 he169
        clear he168 a168
        refine lW (.slice Ag R.L.length cg) he169 rfl (rn_asg rfl (he169.op rfl) w165) ?_
        intro a170 he170
        clear he169 a169
        refine lW (.int .i64 0) he170 rfl (rn_asg rfl (he170.op rfl) w165) ?_
        intro a171 he171
        clear he170 a170
        refine wpList_nil (then_ok ?_)
        have hll := hI.len
        refine wp_seq ?_
        refine wp_seq (wp_region_lit ?_)
        refine lW (.int .i64 0) he171 rfl (rn_mv rfl (he171.op rfl) w165) ?_
        intro a172 he172
        clear he171 a171
        refine lW (.bool false) he172 rfl (rn_neE rfl (he172.op rfl) (he172.op rfl) (by simp) w165) ?_
        intro a173 he173
        clear he172 a172
        refine lW (.bool false) he173 rfl (rn_mv rfl (he173.op rfl) w165) ?_
        intro a174 he174
        clear he173 a173
        refine lV (.slice Ag R.L.length cg) he174 rfl rfl (he174.want rfl rfl rfl rfl rfl) (rn_mv rfl (he174.op rfl) w165) ?_
        intro a175 he175
        clear he174 a174
        refine lV (.int .i64 R.L.length) he175 rfl rfl (he175.want rfl rfl rfl rfl rfl) (rn_lenL rfl (he175.op rfl) w165) ?_
        intro a176 he176
        clear he175 a175
        refine lV (.int .u16 k) he176 rfl rfl (he176.want rfl rfl rfl rfl rfl) (rn_mv rfl (he176.op rfl) w165) ?_
        intro a177 he177
        clear he176 a176
        refine lV (.int .i64 k) he177 rfl rfl (he177.want rfl rfl rfl rfl rfl) (rn_cv16I rfl (he177.op rfl) (IntWalk.i64_in _ ⟨by omega, by omega⟩) w165) ?_
        intro a178 he178
        clear he177 a177
        refine lV (.int .i64 ((k - M : Nat) : Int)) he178 rfl rfl (he178.want rfl rfl rfl rfl rfl) (rn_mv rfl (he178.op rfl) w165) ?_
        intro a179 he179
        clear he178 a178
        refine lV (.int .i64 ((k : Int) - ((k - M : Nat) : Int))) he179 rfl rfl (he179.want rfl rfl rfl rfl rfl) (rn_subI rfl (he179.op rfl) (he179.op rfl) (by rw [IntWalk.i64_in _ ⟨by omega, by omega⟩]) w165) ?_
        intro a180 he180
        clear he179 a179
        refine lV (.bool false) he180 rfl rfl (he180.want rfl rfl rfl rfl rfl) (rn_neI rfl (he180.op rfl) (he180.op rfl) (by simp only [bne_eq_false_iff_eq]; omega) w165) ?_
        intro a181 he181
        clear he180 a180
        refine lW (.bool false) he181 rfl (rn_pk0 rfl (he181.op rfl) (he181.op rfl) w165) ?_
        intro a182 he182
        clear he181 a181
        refine wpList_nil (then_ok ?_)
        refine wp_cond_false (he182.op rfl) ?_
        refine wp_skip ?_
        refine then_ok ?_
        obtain ⟨ys, hD3⟩ := Dt.lines hD
        clear hD
        have hD := hD3
        clear hD3
        have hyl : ys.length = R.L.length := (hD.get (i := 1) rfl).choose_spec.1
        have he183 : Env 135 [(11, .slice Ag R.L.length cg), (10, .int .i64 ((k - M : Nat) : Int)), (7, .pointer (some ⟨ps, 0, none⟩))] a182 := he182.mem ⟨rfl, rfl, rfl, trivial⟩
        clear he182
        as_aux_lemma =>
          refine wp_seq ?_
          refine wp_seq (wp_region_lit ?_)
          refine lW (.slice Ag R.L.length cg) he183 rfl (rn_mv rfl (he183.op rfl) w165) ?_
          intro a184 he184
          clear he183 a182
          refine lW (.int .i64 R.L.length) he184 rfl (rn_lenL rfl (he184.op rfl) w165) ?_
          intro a185 he185
          clear he184 a184
          refine lW (.int .i64 0) he185 rfl (rn_mv rfl (he185.op rfl) w165) ?_
          intro a186 he186
          clear he185 a185
          refine wpList_nil (then_ok ?_)
          have he187 : Env 135 [(107, .int .i64 0), (106, .int .i64 R.L.length), (105, .slice Ag R.L.length cg), (10, .int .i64 ((k - M : Nat) : Int)), (7, .pointer (some ⟨ps, 0, none⟩))] a186 := he186.mem ⟨rfl, rfl, rfl, rfl, rfl, trivial⟩
          clear he186
          refine wp_block ?_
          refine loop_nat (fun q a w' => ∃ (j : Nat), q = R.L.length - j ∧ j ≤ R.L.length ∧ Env 135 [(7, .pointer (some ⟨ps, 0, none⟩)), (10, .int .i64 ((k - M : Nat) : Int)), (105, .slice Ag R.L.length cg), (106, .int .i64 R.L.length), (107, .int .i64 j)] a ∧ Hp w [] w' ∧ Dt w w (fun _ => False) 0 [] [rowD (.slice Ag R.L.length cg) ys, elsD ys R.L, ringD ps R] w') R.L.length ⟨0, by omega, by omega, he187.mem ⟨rfl, rfl, rfl, rfl, rfl, trivial⟩, hH165, hD⟩ ?_
          clear he187 hH165
          rintro q a188 w188 ⟨j, rfl, hj, he188, hH188, hD⟩
          by_cases hjn : j < R.L.length
          · skip
            refine wp_seq (wp_region_lit ?_)
            refine lW (.bool true) he188 rfl (rn_lss rfl (he188.op rfl) (he188.op rfl) (decide_eq_true (by omega)) w188) ?_
            intro a189 he189
            clear he188 a188
            refine wpList_nil (then_ok ?_)
            refine wp_seq ?_
            refine wp_cond_true (he189.op rfl) ?_
            refine wp_skip ?_
            refine then_ok ?_
            refine wp_seq ?_
            refine wp_block ?_
            obtain ⟨i, hi⟩ : ∃ i : Nat, k - M + j = i := ⟨_, rfl⟩
            have hLj : R.L[j]? = some (lnA i) := by rw [hI.at hjn, hi]
            obtain ⟨x, hX⟩ : ∃ m, ys[j]? = some m := ⟨_, List.getElem?_eq_getElem (by omega)⟩
            obtain ⟨hxs, hxg⟩ := els_get (hD.get (i := 1) rfl).choose_spec hX hLj
            obtain ⟨Ax, cx, hxe⟩ := hxg.sl.shape
            clear hxg
            obtain ⟨aa, an, ac, az⟩ := x
            simp only [Value.slice.injEq] at hxe hxs
            obtain ⟨rfl, rfl, rfl⟩ := hxe
            subst hxs
            obtain ⟨ba, hra, -, -, -⟩ := (show OwnO rL _ _ _ _ from (hD.get (i := 0) rfl).choose_spec).rdg
            obtain ⟨oa, eA⟩ := hra.base (by omega)
            subst eA
            refine wp_seq (wp_region_lit ?_)
            refine lW (.int .i64 j) he189 rfl (rn_mv rfl (he189.op rfl) w188) ?_
            intro a190 he190
            clear he189 a189
            refine lW (.pointer (some ⟨ba, oa + j * 2, none⟩)) he190 rfl (rn_idxL (i := j) rfl (he190.op rfl) (he190.op rfl) (by omega) (by rw [addr_add]) w188) ?_
            intro a191 he191
            clear he190 a190
            refine lW (.agg #[.slice aa (lnA i).1.length ac, .bool (lnA i).2]) he191 rfl (rn_ldLn (i := j) rfl (he191.op rfl) hra rfl hX) ?_
            intro a192 he192
            clear he191 a191
            refine lNewP (fun p => .pointer (some ⟨p, 0, none⟩)) he192 hH188 rfl rfl (wanted_plain rfl _) (rn_allocL rfl w188) ?_
            intro p193 w193 a194 hp hn hH193 he194
            replace hD := hD.cons hn hp (hH193.at (i := 0) rfl).lt
            replace hra := hra.new hn
            clear he192 a192 hH188 hn hp
            refine lW (.int .i64 j) he194 rfl (rn_asg rfl (he194.op rfl) w193) ?_
            intro a195 he195
            clear he194 a194
            refine lSetF 0 #[.slice aa (lnA i).1.length ac, .bool (lnA i).2] (cs := #[.slice aa (lnA i).1.length ac, .bool (lnA i).2]) he195 hH193 rfl (wanted_plain rfl _) rfl rfl rfl rfl rfl (by kernel_rfl) (by kernel_rfl) (by kernel_rfl) rfl ?_
            intro w196 a197 hH196 hf he197
            replace hD := hD.setb (i := 0) rfl rfl hf
            replace hH196 : Hp w [⟨p193, 36, #[.slice aa (lnA i).1.length ac, .bool (lnA i).2]⟩] w196 := hH196
            clear hf
            clear he195 a195 hH193
            refine wpList_nil (then_ok ?_)
            clear hra
            refine wp_seq ?_
            refine wp_region_held_drew (S := Hp w [⟨p193, 36, #[.slice aa (lnA i).1.length ac, .bool (lnA i).2]⟩]) (by kernel_rfl) (hH196.drew) (fun _ => ?_)
            have hn : New w196 (World.drew w196) := (Fr.refl _ _).drew
            replace hD := (hD).new hn
            clear hn
            have hH198 := hH196.drew
            clear hH196
            generalize World.drew w196 = w198 at *
            refine hW (fuel := 9) (i := 0) (.agg #[.slice aa (lnA i).1.length ac, .bool (lnA i).2]) he197 rfl (by kernel_rfl) (fun _ _ _ h => h) (fun w' hw' => rn_ldp _ rfl (he197.op rfl) undL rfl infoL2 (hw'.at (i := 0) rfl) rfl) hH198 ?_
            intro a199 he199
            clear he197 a197
            refine hW (fuel := 8) (i := 1) (.int .i64 ((k - M : Nat) : Int)) he199 rfl (by kernel_rfl) (fun _ _ _ h => h) (fun w' _ => rn_mv rfl (he199.op rfl) w') hH198 ?_
            intro a200 he200
            clear he199 a199
            refine hW (fuel := 7) (i := 2) (.int .i64 j) he200 rfl (by kernel_rfl) (fun _ _ _ h => h) (fun w' _ => rn_mv rfl (he200.op rfl) w') hH198 ?_
            intro a201 he201
            clear he200 a200
            refine hW (fuel := 6) (i := 3) (.int .i64 i) he201 rfl (by kernel_rfl) (fun _ _ _ h => h) (fun w' _ => rn_add1 rfl (he201.op rfl) (he201.op rfl) (by rw [IntWalk.i64_in _ ⟨by omega, by omega⟩]; omega) w') hH198 ?_
            intro a202 he202
            clear he201 a201
            refine hW (fuel := 5) (i := 4) (.int .i64 ((i : Int) % 26)) he202 rfl (by kernel_rfl) (fun _ _ _ h => h) (fun w' _ => rn_remI rfl (he202.op rfl) (he202.op rfl) (by decide) (mod_small _) w') hH198 ?_
            intro a203 he203
            clear he202 a202
            refine hW (fuel := 4) (i := 5) (.int .i64 (97 + (i : Int) % 26)) he203 rfl (by kernel_rfl) (fun _ _ _ h => h) (fun w' _ => rn_add1 rfl (he203.op rfl) (he203.op rfl) (by rw [IntWalk.i64_in _ ⟨by omega, by omega⟩]) w') hH198 ?_
            intro a204 he204
            clear he203 a203
            refine hW (fuel := 3) (i := 6) (.int .i32 (97 + (i : Int) % 26)) he204 rfl (by kernel_rfl) (fun _ _ _ h => h) (fun w' _ => rn_cvI32 rfl (he204.op rfl) (IntWalk.i32_in _ ⟨by omega, by omega⟩) w') hH198 ?_
            intro a205 he205
            clear he204 a204
            refine hC (fuel := 2) (i := 7) he205 (by kernel_rfl) rfl rfl rfl Tryd.func18 (by kernel_rfl) rfl rfl (wanted_plain rfl _) rfl (text_b (97 + (i : Int) % 26) w198) ?_
            rintro _ w206 ⟨At, ct, rfl, ht⟩
            have hD2 := hD.made ht
            have hH206 := hH198.call ht.new
            replace hD := hD2
            clear hD2 ht
            refine ⟨_, rfl, hH206, ?_⟩
            intro a207 he207
            clear he205 a205 hH198
            obtain ⟨-, hxg⟩ := els_get (hD.get (i := 2) rfl).choose_spec hX hLj
            refine hC (fuel := 1) (i := 8) he207 (by kernel_rfl) rfl rfl rfl Tryd.func23 (by kernel_rfl) rfl rfl (wanted_plain rfl _) rfl (same_s _ (lnA i).1 (lnA i).2 _ (lnA i).1 (lnA i).2 true (by simp) (by simp) (by simp) w206 hxg.sl (cells_sl (hD.get (i := 0) rfl).choose_spec)) ?_
            rintro _ w208 ⟨rfl, hn⟩
            have hH208 := hH206.call hn
            replace hD := (hD).new hn
            refine ⟨_, rfl, hH208, ?_⟩
            intro a209 he209
            clear he207 a207 hH206 hn
            clear hxg
            refine hW (fuel := 0) (i := 9) (.bool false) he209 rfl (by kernel_rfl) (fun _ _ _ h => h) (fun w' _ => rn_not (b := true) rfl (he209.op rfl) w') hH208 ?_
            intro a210 he210
            clear he209 a209
            refine wpAnyH_done (by kernel_rfl) ?_ _
            refine then_ok ?_
            refine wp_cond_false (he210.op rfl) ?_
            refine wp_skip ?_
            refine block_ok ?_
            refine then_ok ?_
            have hH211 := hH208.tail rfl
            clear hH208
            replace hD := hD.tail
            replace hD := hD.drop
            refine wp_region_lit ?_
            refine lW (.int .i64 ((j + 1 : Nat) : Int)) he210 rfl (rn_add1 rfl (he210.op rfl) (he210.op rfl) (by rw [IntWalk.i64_in _ ⟨by omega, by omega⟩]; omega) w208) ?_
            intro a212 he212
            clear he210 a210
            refine lW (.int .i64 ((j + 1 : Nat) : Int)) he212 rfl (rn_mv rfl (he212.op rfl) w208) ?_
            intro a213 he213
            clear he212 a212
            refine wpList_nil (then_ok ?_)
            exact ⟨R.L.length - (j + 1), by omega, j + 1, rfl, by omega, he213.mem ⟨rfl, rfl, rfl, rfl, rfl, trivial⟩, hH211, hD⟩
          refine wp_seq (wp_region_lit ?_)
          refine lW (.bool false) he188 rfl (rn_lss rfl (he188.op rfl) (he188.op rfl) (decide_eq_false (by omega)) w188) ?_
          intro a214 he214
          clear he188 a188
          refine wpList_nil (then_ok ?_)
          refine wp_seq ?_
          refine wp_cond_false (he214.op rfl) ?_
          refine wp_exit ?_
          simp only [Exit.then, Exit.inBlock, if_true]
          have he215 : Env 135 [(7, .pointer (some ⟨ps, 0, none⟩)), (10, .int .i64 ((k - M : Nat) : Int))] a214 := he214.mem ⟨rfl, rfl, trivial⟩
          clear he214
          as_aux_lemma =>
            replace hD := hD.drop.drop
            by_cases h0 : k - M = 0
            · skip
              refine wp_seq (wp_region_lit ?_)
              refine lW (.int .i64 ((k - M : Nat) : Int)) he215 rfl (rn_mv rfl (he215.op rfl) w188) ?_
              intro a216 he216
              clear he215 a214
              refine lW (.bool true) he216 rfl (rn_eqI rfl (he216.op rfl) (he216.op rfl) (by simp [h0]) w188) ?_
              intro a217 he217
              clear he216 a216
              refine lW (.bool true) he217 rfl (rn_mv rfl (he217.op rfl) w188) ?_
              intro a218 he218
              clear he217 a217
              refine lSkip he218 rfl rfl (he218.wantNot rfl rfl rfl rfl rfl rfl) ?_
              intro a219 he219
              clear he218 a218
              refine lSkip he219 rfl rfl (he219.wantNot rfl rfl rfl rfl rfl rfl) ?_
              intro a220 he220
              clear he219 a219
              refine lSkip he220 rfl rfl (he220.wantNot rfl rfl rfl rfl rfl rfl) ?_
              intro a221 he221
              clear he220 a220
              refine lSkip he221 rfl rfl (he221.wantNot rfl rfl rfl rfl rfl rfl) ?_
              intro a222 he222
              clear he221 a221
              refine lSkip he222 rfl rfl (he222.wantNot rfl rfl rfl rfl rfl rfl) ?_
              intro a223 he223
              clear he222 a222
              refine lW (.bool true) he223 rfl (rn_pk rfl (he223.op rfl) (he223.op rfl) w188) ?_
              intro a224 he224
              clear he223 a223
              refine lW (.bool true) he224 rfl (rn_mv rfl (he224.op rfl) w188) ?_
              intro a225 he225
              clear he224 a224
              refine lC he225 rfl rfl Tryd.func8 (by kernel_rfl) rfl rfl (he225.want rfl rfl rfl rfl rfl) rfl (known_any w188 hD.tab) ?_
              intro w226 a227 hn he227
              have hH226 := hH188.call hn
              replace hD := (hD).new hn
              clear he225 a225 hH188 hn
              refine lW (.bool true) he227 rfl (rn_pk rfl (he227.op rfl) (he227.op rfl) w226) ?_
              intro a228 he228
              clear he227 a227
              refine lW (.bool true) he228 rfl (rn_asg rfl (he228.op rfl) w226) ?_
              intro a229 he229
              clear he228 a228
              refine wpList_nil (then_ok ?_)
              refine wp_ret ?_
              try simp only [Exit.then, Exit.inBlock]
              exact ret_env rfl he229 rfl ⟨rfl, hD.fr.new_below⟩
            refine wp_seq (wp_region_lit ?_)
            refine lW (.int .i64 ((k - M : Nat) : Int)) he215 rfl (rn_mv rfl (he215.op rfl) w188) ?_
            intro a230 he230
            clear he215 a214
            refine lW (.bool false) he230 rfl (rn_eqI rfl (he230.op rfl) (he230.op rfl) (beq_eq_false_iff_ne.2 (by omega)) w188) ?_
            intro a231 he231
            clear he230 a230
            refine lW (.bool false) he231 rfl (rn_mv rfl (he231.op rfl) w188) ?_
            intro a232 he232
            clear he231 a231
            refine lV (.pointer (some ⟨ps, 0, none⟩)) he232 rfl rfl (he232.want rfl rfl rfl rfl rfl) (rn_mv rfl (he232.op rfl) w188) ?_
            intro a233 he233
            clear he232 a232
            refine lV (.int .i64 ((k - M : Nat) : Int)) he233 rfl rfl (he233.want rfl rfl rfl rfl rfl) (rn_mv rfl (he233.op rfl) w188) ?_
            intro a234 he234
            clear he233 a233
            refine lV (.int .i64 (((k - M : Nat) : Int) - 1)) he234 rfl rfl (he234.want rfl rfl rfl rfl rfl) (rn_subI rfl (he234.op rfl) (he234.op rfl) (by rw [IntWalk.i64_in _ ⟨by omega, by omega⟩]) w188) ?_
            intro a235 he235
            clear he234 a234
            refine lV (.agg #[.slice none 0 0, .bool false]) he235 rfl rfl (he235.want rfl rfl rfl rfl rfl) (rn_bL rfl  w188) ?_
            intro a236 he236
            clear he235 a235
            obtain ⟨Fs_, hs_⟩ := hD.get (i := 0) rfl
            refine lC he236 rfl rfl Tryd.func15 (by kernel_rfl) rfl rfl (he236.want rfl rfl rfl rfl rfl) rfl (gets_b ps R (((k - M : Nat) : Int) - 1) _ [] false 14 Fs_ w188 hs_ (hI.gone (by omega) (by rw [hI.hfi]; omega)) (SlC.nil _) hD.tab) ?_
            intro w237 a238 hn he238
            have hH237 := hH188.call hn
            replace hD := (hD).new hn
            clear he236 a236 hH188 hn
            clear hs_ Fs_
            refine lW (.bool true) he238 rfl (rn_pk0 rfl (he238.op rfl) (he238.op rfl) w237) ?_
            intro a239 he239
            clear he238 a238
            refine lW (.bool true) he239 rfl (rn_mv rfl (he239.op rfl) w237) ?_
            intro a240 he240
            clear he239 a239
            refine lC he240 rfl rfl Tryd.func8 (by kernel_rfl) rfl rfl (he240.want rfl rfl rfl rfl rfl) rfl (known_any w237 hD.tab) ?_
            intro w241 a242 hn he242
            have hH241 := hH237.call hn
            replace hD := (hD).new hn
            clear he240 a240 hH237 hn
            refine lW (.bool true) he242 rfl (rn_pk rfl (he242.op rfl) (he242.op rfl) w241) ?_
            intro a243 he243
            clear he242 a242
            refine lW (.bool true) he243 rfl (rn_asg rfl (he243.op rfl) w241) ?_
            intro a244 he244
            clear he243 a243
            refine wpList_nil (then_ok ?_)
            refine wp_ret ?_
            try simp only [Exit.then, Exit.inBlock]
            exact ret_env rfl he244 rfl ⟨rfl, hD.fr.new_below⟩

end Go.Proofs.YtlpjhaghphmbeaaDoor
