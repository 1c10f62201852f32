/-
  RingHolds.
-/
import Derived.Test.YtlpjhaghphmbeaaDoorRKnown
import Derived.Test.YtlpjhaghphmbeaaDoorRMap
import Derived.Test.YtlpjhaghphmbeaaDoorROpen
namespace Go.Proofs.YtlpjhaghphmbeaaDoor
open Go.RowKit

theorem ok_rune (i : Nat) (h : i < 80) : okL [tc (1024 + (i : Int))] = true := by
  have h2 : ∀ j : Nat, j < 80 → okL [tc (1024 + (j : Int))] = true := by decide +kernel
  exact h2 i h
theorem wf64_of {i : Int} (h : 0 ≤ i) (h' : i ≤ 4000000000) : wf64 i := by
  show (Lit.int .i64 i).wf = true
  simp [Lit.wf, IntKind.min, IntKind.max, IntKind.bits, IntKind.signed]
  omega
/-- What is known between two calls: f has the lines that are there. -/
structure HoldI (K k : Nat) (R : RS) (f : Int → List Ce) : Prop where
  hpl : R.pl = K
  hmo : R.mo ≤ 20
  hnx : R.nx ≤ k
  hat : ∀ j, j < R.L.length → R.L[j]? = some (f ((R.fi + j : Nat) : Int), false)
section
variable {K k : Nat} {R : RS} {f : Int → List Ce}
theorem HoldI.ev {S : RS} (h : PgOk S.pl S.P) (h1 : S.pl = K) (h2 : S.mo ≤ 20) (h3 : S.nx ≤ k) (h4 : ∀ j, j < S.L.length → S.L[j]? = some (f ((S.fi + j : Nat) : Int), false)) : HoldI K k (evR S) f := by
  obtain ⟨_, e2, e3⟩ := evR_ok h
  obtain ⟨e4, e5⟩ := evR_keep S
  refine ⟨e5.trans h1, by rw [e4]; exact h2, by rw [evR_nx h]; exact h3, fun j hj => ?_⟩
  rw [e2, List.length_drop] at hj
  rw [e2, List.getElem?_drop, h4 _ (by omega), e3]
  congr 4
  omega
theorem HoldI.up (h : HoldI K k R f) : HoldI K (k + 1) R f := ⟨h.hpl, h.hmo, Nat.le_succ_of_le h.hnx, h.hat⟩
theorem HoldI.pop (h : HoldI K k R f) (hg : RgOk R) : HoldI K (k + 1) (popR R).1 f := by
  unfold popR
  split
  · exact h.up
  · have e : flatP (popP R.P) = R.L.take (R.L.length - 1) := popP_flat hg.pg
    have el : (flatP (popP R.P)).length = R.L.length - 1 := by rw [e, List.length_take]; omega
    have hn : R.fi + R.L.length ≤ k := h.hnx
    refine ⟨h.hpl, h.hmo, ?_, fun j hj => ?_⟩
    · show R.fi + (flatP (popP R.P)).length ≤ k + 1
      omega
    · have hj : j < (flatP (popP R.P)).length := hj
      show (flatP (popP R.P))[j]? = _
      rw [e, List.getElem?_take, if_pos (by omega)]
      exact h.hat j (by omega)
theorem HoldI.popv (h : HoldI K k R f) (hg : RgOk R) (h0 : R.L.length ≠ 0) : (popR R).2 = ((f (((popR R).1.nx : Nat) : Int), false), 0) := by
  have e : flatP (popP R.P) = R.L.take (R.L.length - 1) := popP_flat hg.pg
  have hn : (popR R).1.nx = R.fi + (R.L.length - 1) := by
    unfold popR
    rw [if_neg h0]
    show R.fi + (flatP (popP R.P)).length = _
    rw [e, List.length_take]
    omega
  rw [hn]
  unfold popR
  rw [if_neg h0]
  show (R.L.getD (R.L.length - 1) zLn, (0 : Int)) = _
  rw [List.getD_eq_getElem?_getD, h.hat _ (by omega), Option.getD_some]
theorem HoldI.limit (h : HoldI K k R f) (hg : RgOk R) {n : Nat} (hn : n ≤ 20) : HoldI K (k + 1) (limitR R n).1 f ∧ (limitR R n).2 = 0 ∧ (limitR R n).1.mo = n := by
  unfold limitR
  rw [if_pos (by omega)]
  refine ⟨HoldI.ev (S := { R with mo := (n : Int).toNat }) hg.pg h.hpl (by show (n : Int).toNat ≤ 20; omega) (Nat.le_succ_of_le h.hnx) h.hat, rfl, ?_⟩
  rw [(evR_keep _).1]
  exact Int.toNat_natCast n
theorem HoldI.clear (h : HoldI K k R f) : HoldI K (k + 1) (clearR R) f := ⟨h.hpl, h.hmo, Nat.le_succ_of_le h.hnx, fun _ hj => absurd hj (Nat.not_lt_zero _)⟩
theorem HoldI.push (h : HoldI K k R f) (hg : RgOk R) {l : List Ce} (hl : okL l = true) : HoldI K (k + 1) (pushR R (l, false)).1 (setF f ((R.nx : Nat) : Int) l) := by
  rw [push_t hl]
  refine HoldI.ev (S := adR R (l, false)) (addP_ok hg.pl1 hg.pg) h.hpl h.hmo (by rw [adR_nx]; exact Nat.succ_le_succ h.hnx) (fun j hj => ?_)
  rw [adR_L] at hj ⊢
  rw [List.length_append, List.length_singleton] at hj
  show (R.L ++ [(l, false)])[j]? = some (setF f ((R.nx : Nat) : Int) l ((R.fi + j : Nat) : Int), false)
  by_cases e : j = R.L.length
  · subst e
    rw [List.getElem?_append_right (Nat.le_refl _), Nat.sub_self]
    rw [show (((R.fi + R.L.length : Nat)) : Int) = ((R.nx : Nat) : Int) from rfl, setF_same]
    rfl
  · rw [List.getElem?_append_left (by omega), h.hat j (by omega), setF_other _ _ (by show ((R.fi + j : Nat) : Int) ≠ ((R.fi + R.L.length : Nat) : Int); omega)]
theorem HoldI.get (h : HoldI K k R f) {j : Nat} (hj : j < R.L.length) : getR R ((R.fi + j : Nat) : Int) = ((f ((R.fi + j : Nat) : Int), false), 0) := by
  refine getR_t ?_ (h.hat j hj)
  unfold missR RS.nx
  rw [if_neg (by omega), if_neg (by omega)]
end
set_option linter.unusedSimpArgs false in
set_option maxRecDepth 100000 in
set_option maxHeartbeats 1600000 in
theorem ringHolds_walk (mo pg : Int) (hm0 : 0 ≤ mo) (hm9 : mo ≤ 255) (hp0 : 0 ≤ pg) (hp9 : pg ≤ 255) (A : Option Addr) (n c : Nat) (zs : List Int) (w : World) (hz : BytesC w A n zs) (hT : Tab w) :
    Calls Tryd.prog 6 #[.int .u8 mo, .int .u8 pg, .slice A n c] w fun e w' => e = .returned (.bool true) ∧ Below w.heap.size w w' := by
  obtain ⟨hzl, hzc, hz2⟩ := hz
  have hnb : bigN = 1000000000 := rfl
  refine calls_args (vl := [.int .u8 mo, .int .u8 pg, .slice A n c]) 175 Tryd.func6 rfl Tryd.ntmps6 (by kernel_rfl) (fun a he => ?_)
  have he0 : Env 175 [(0, .int .u8 mo), (1, .int .u8 pg), (2, .slice A n c)] a := he
  clear he
  have hH := Hp.start w
  have hD := Dt.start hT
  refine wp_seq (wp_region_lit ?_)
  refine lW (.bool false) he0 rfl (rn_asg rfl (he0.op rfl) w) ?_
  intro a1 he1
  clear he0 a
  refine wpList_nil (then_ok ?_)
  by_cases h0 : 20 < mo
  · skip
    refine wp_seq ?_
    refine wp_seq (wp_region_lit ?_)
    refine lW (.int .u8 mo) he1 rfl (rn_mv rfl (he1.op rfl) w) ?_
    intro a2 he2
    clear he1 a1
    refine lW (.bool true) he2 rfl (rn_gt8 rfl (he2.op rfl) (he2.op rfl) (decide_eq_true h0) w) ?_
    intro a3 he3
    clear he2 a2
    refine lW (.bool true) he3 rfl (rn_mv rfl (he3.op rfl) w) ?_
    intro a4 he4
    clear he3 a3
    refine lSkip he4 rfl rfl (he4.wantNot rfl rfl rfl rfl rfl rfl) ?_
    intro a5 he5
    clear he4 a4
    refine lSkip he5 rfl rfl (he5.wantNot rfl rfl rfl rfl rfl rfl) ?_
    intro a6 he6
    clear he5 a5
    refine lW (.bool true) he6 rfl (rn_pk rfl (he6.op rfl) (he6.op rfl) w) ?_
    intro a7 he7
    clear he6 a6
    refine lW (.bool true) he7 rfl (rn_mv rfl (he7.op rfl) w) ?_
    intro a8 he8
    clear he7 a7
    refine lSkip he8 rfl rfl (he8.wantNot rfl rfl rfl rfl rfl rfl) ?_
    intro a9 he9
    clear he8 a8
    refine lSkip he9 rfl rfl (he9.wantNot rfl rfl rfl rfl rfl rfl) ?_
    intro a10 he10
    clear he9 a9
    refine lW (.bool true) he10 rfl (rn_pk rfl (he10.op rfl) (he10.op rfl) w) ?_
    intro a11 he11
    clear he10 a10
    refine lW (.bool true) he11 rfl (rn_mv rfl (he11.op rfl) w) ?_
    intro a12 he12
    clear he11 a11
    refine lSkip he12 rfl rfl (he12.wantNot rfl rfl rfl rfl rfl rfl) ?_
    intro a13 he13
    clear he12 a12
    refine lSkip he13 rfl rfl (he13.wantNot rfl rfl rfl rfl rfl rfl) ?_
    intro a14 he14
    clear he13 a13
    refine lSkip he14 rfl rfl (he14.wantNot rfl rfl rfl rfl rfl rfl) ?_
    intro a15 he15
    clear he14 a14
    refine lW (.bool true) he15 rfl (rn_pk rfl (he15.op rfl) (he15.op rfl) w) ?_
    intro a16 he16
    clear he15 a15
    refine wpList_nil (then_ok ?_)
    refine wp_cond_true (he16.op rfl) ?_
    refine wp_seq (wp_region_lit ?_)
    refine lC he16 rfl rfl Tryd.func8 (by kernel_rfl) rfl rfl (wanted_plain rfl _) rfl (known_any w hD.tab) ?_
    intro w17 a18 hn he18
    have hH17 := hH.call hn
    replace hD := (hD).new hn
    clear he16 a16 hH hn
    refine lW (.bool true) he18 rfl (rn_asg rfl (he18.op rfl) w17) ?_
    intro a19 he19
    clear he18 a18
    refine wpList_nil (then_ok ?_)
    refine wp_ret ?_
    try simp only [Exit.then, Exit.inBlock]
    exact ret_env rfl he19 rfl ⟨rfl, hD.fr.new_below⟩
  by_cases h1 : pg < 1
  · skip
    refine wp_seq ?_
    refine wp_seq (wp_region_lit ?_)
    refine lW (.int .u8 mo) he1 rfl (rn_mv rfl (he1.op rfl) w) ?_
    intro a20 he20
    clear he1 a1
    refine lW (.bool false) he20 rfl (rn_gt8 rfl (he20.op rfl) (he20.op rfl) (decide_eq_false h0) w) ?_
    intro a21 he21
    clear he20 a20
    refine lW (.bool false) he21 rfl (rn_mv rfl (he21.op rfl) w) ?_
    intro a22 he22
    clear he21 a21
    refine lV (.int .u8 pg) he22 rfl rfl (he22.want rfl rfl rfl rfl rfl) (rn_mv rfl (he22.op rfl) w) ?_
    intro a23 he23
    clear he22 a22
    refine lV (.bool true) he23 rfl rfl (he23.want rfl rfl rfl rfl rfl) (rn_ls8 rfl (he23.op rfl) (he23.op rfl) (decide_eq_true h1) w) ?_
    intro a24 he24
    clear he23 a23
    refine lW (.bool true) he24 rfl (rn_pk0 rfl (he24.op rfl) (he24.op rfl) w) ?_
    intro a25 he25
    clear he24 a24
    refine lW (.bool true) he25 rfl (rn_mv rfl (he25.op rfl) w) ?_
    intro a26 he26
    clear he25 a25
    refine lSkip he26 rfl rfl (he26.wantNot rfl rfl rfl rfl rfl rfl) ?_
    intro a27 he27
    clear he26 a26
    refine lSkip he27 rfl rfl (he27.wantNot rfl rfl rfl rfl rfl rfl) ?_
    intro a28 he28
    clear he27 a27
    refine lW (.bool true) he28 rfl (rn_pk rfl (he28.op rfl) (he28.op rfl) w) ?_
    intro a29 he29
    clear he28 a28
    refine lW (.bool true) he29 rfl (rn_mv rfl (he29.op rfl) w) ?_
    intro a30 he30
    clear he29 a29
    refine lSkip he30 rfl rfl (he30.wantNot rfl rfl rfl rfl rfl rfl) ?_
    intro a31 he31
    clear he30 a30
    refine lSkip he31 rfl rfl (he31.wantNot rfl rfl rfl rfl rfl rfl) ?_
    intro a32 he32
    clear he31 a31
    refine lSkip he32 rfl rfl (he32.wantNot rfl rfl rfl rfl rfl rfl) ?_
    intro a33 he33
    clear he32 a32
    refine lW (.bool true) he33 rfl (rn_pk rfl (he33.op rfl) (he33.op rfl) w) ?_
    intro a34 he34
    clear he33 a33
    refine wpList_nil (then_ok ?_)
    refine wp_cond_true (he34.op rfl) ?_
    refine wp_seq (wp_region_lit ?_)
    refine lC he34 rfl rfl Tryd.func8 (by kernel_rfl) rfl rfl (wanted_plain rfl _) rfl (known_any w hD.tab) ?_
    intro w35 a36 hn he36
    have hH35 := hH.call hn
    replace hD := (hD).new hn
    clear he34 a34 hH hn
    refine lW (.bool true) he36 rfl (rn_asg rfl (he36.op rfl) w35) ?_
    intro a37 he37
    clear he36 a36
    refine wpList_nil (then_ok ?_)
    refine wp_ret ?_
    try simp only [Exit.then, Exit.inBlock]
    exact ret_env rfl he37 rfl ⟨rfl, hD.fr.new_below⟩
  by_cases h2 : 6 < pg
  · skip
    refine wp_seq ?_
    refine wp_seq (wp_region_lit ?_)
    refine lW (.int .u8 mo) he1 rfl (rn_mv rfl (he1.op rfl) w) ?_
    intro a38 he38
    clear he1 a1
    refine lW (.bool false) he38 rfl (rn_gt8 rfl (he38.op rfl) (he38.op rfl) (decide_eq_false h0) w) ?_
    intro a39 he39
    clear he38 a38
    refine lW (.bool false) he39 rfl (rn_mv rfl (he39.op rfl) w) ?_
    intro a40 he40
    clear he39 a39
    refine lV (.int .u8 pg) he40 rfl rfl (he40.want rfl rfl rfl rfl rfl) (rn_mv rfl (he40.op rfl) w) ?_
    intro a41 he41
    clear he40 a40
    refine lV (.bool false) he41 rfl rfl (he41.want rfl rfl rfl rfl rfl) (rn_ls8 rfl (he41.op rfl) (he41.op rfl) (decide_eq_false h1) w) ?_
    intro a42 he42
    clear he41 a41
    refine lW (.bool false) he42 rfl (rn_pk0 rfl (he42.op rfl) (he42.op rfl) w) ?_
    intro a43 he43
    clear he42 a42
    refine lW (.bool false) he43 rfl (rn_mv rfl (he43.op rfl) w) ?_
    intro a44 he44
    clear he43 a43
    refine lV (.int .u8 pg) he44 rfl rfl (he44.want rfl rfl rfl rfl rfl) (rn_mv rfl (he44.op rfl) w) ?_
    intro a45 he45
    clear he44 a44
    refine lV (.bool true) he45 rfl rfl (he45.want rfl rfl rfl rfl rfl) (rn_gt8 rfl (he45.op rfl) (he45.op rfl) (decide_eq_true h2) w) ?_
    intro a46 he46
    clear he45 a45
    refine lW (.bool true) he46 rfl (rn_pk0 rfl (he46.op rfl) (he46.op rfl) w) ?_
    intro a47 he47
    clear he46 a46
    refine lW (.bool true) he47 rfl (rn_mv rfl (he47.op rfl) w) ?_
    intro a48 he48
    clear he47 a47
    refine lSkip he48 rfl rfl (he48.wantNot rfl rfl rfl rfl rfl rfl) ?_
    intro a49 he49
    clear he48 a48
    refine lSkip he49 rfl rfl (he49.wantNot rfl rfl rfl rfl rfl rfl) ?_
    intro a50 he50
    clear he49 a49
    refine lSkip he50 rfl rfl (he50.wantNot rfl rfl rfl rfl rfl rfl) ?_
    intro a51 he51
    clear he50 a50
    refine lW (.bool true) he51 rfl (rn_pk rfl (he51.op rfl) (he51.op rfl) w) ?_
    intro a52 he52
    clear he51 a51
    refine wpList_nil (then_ok ?_)
    refine wp_cond_true (he52.op rfl) ?_
    refine wp_seq (wp_region_lit ?_)
    refine lC he52 rfl rfl Tryd.func8 (by kernel_rfl) rfl rfl (wanted_plain rfl _) rfl (known_any w hD.tab) ?_
    intro w53 a54 hn he54
    have hH53 := hH.call hn
    replace hD := (hD).new hn
    clear he52 a52 hH hn
    refine lW (.bool true) he54 rfl (rn_asg rfl (he54.op rfl) w53) ?_
    intro a55 he55
    clear he54 a54
    refine wpList_nil (then_ok ?_)
    refine wp_ret ?_
    try simp only [Exit.then, Exit.inBlock]
    exact ret_env rfl he55 rfl ⟨rfl, hD.fr.new_below⟩
  by_cases h3 : (80 : Int) < n
  · skip
    refine wp_seq ?_
    refine wp_seq (wp_region_lit ?_)
    refine lW (.int .u8 mo) he1 rfl (rn_mv rfl (he1.op rfl) w) ?_
    intro a56 he56
    clear he1 a1
    refine lW (.bool false) he56 rfl (rn_gt8 rfl (he56.op rfl) (he56.op rfl) (decide_eq_false h0) w) ?_
    intro a57 he57
    clear he56 a56
    refine lW (.bool false) he57 rfl (rn_mv rfl (he57.op rfl) w) ?_
    intro a58 he58
    clear he57 a57
    refine lV (.int .u8 pg) he58 rfl rfl (he58.want rfl rfl rfl rfl rfl) (rn_mv rfl (he58.op rfl) w) ?_
    intro a59 he59
    clear he58 a58
    refine lV (.bool false) he59 rfl rfl (he59.want rfl rfl rfl rfl rfl) (rn_ls8 rfl (he59.op rfl) (he59.op rfl) (decide_eq_false h1) w) ?_
    intro a60 he60
    clear he59 a59
    refine lW (.bool false) he60 rfl (rn_pk0 rfl (he60.op rfl) (he60.op rfl) w) ?_
    intro a61 he61
    clear he60 a60
    refine lW (.bool false) he61 rfl (rn_mv rfl (he61.op rfl) w) ?_
    intro a62 he62
    clear he61 a61
    refine lV (.int .u8 pg) he62 rfl rfl (he62.want rfl rfl rfl rfl rfl) (rn_mv rfl (he62.op rfl) w) ?_
    intro a63 he63
    clear he62 a62
    refine lV (.bool false) he63 rfl rfl (he63.want rfl rfl rfl rfl rfl) (rn_gt8 rfl (he63.op rfl) (he63.op rfl) (decide_eq_false h2) w) ?_
    intro a64 he64
    clear he63 a63
    refine lW (.bool false) he64 rfl (rn_pk0 rfl (he64.op rfl) (he64.op rfl) w) ?_
    intro a65 he65
    clear he64 a64
    refine lW (.bool false) he65 rfl (rn_mv rfl (he65.op rfl) w) ?_
    intro a66 he66
    clear he65 a65
    refine lV (.slice A n c) he66 rfl rfl (he66.want rfl rfl rfl rfl rfl) (rn_mv rfl (he66.op rfl) w) ?_
    intro a67 he67
    clear he66 a66
    refine lV (.int .i64 n) he67 rfl rfl (he67.want rfl rfl rfl rfl rfl) (rn_lenB8 rfl (he67.op rfl) w) ?_
    intro a68 he68
    clear he67 a67
    refine lV (.bool true) he68 rfl rfl (he68.want rfl rfl rfl rfl rfl) (rn_gtr rfl (he68.op rfl) (he68.op rfl) (decide_eq_true h3) w) ?_
    intro a69 he69
    clear he68 a68
    refine lW (.bool true) he69 rfl (rn_pk0 rfl (he69.op rfl) (he69.op rfl) w) ?_
    intro a70 he70
    clear he69 a69
    refine wpList_nil (then_ok ?_)
    refine wp_cond_true (he70.op rfl) ?_
    refine wp_seq (wp_region_lit ?_)
    refine lC he70 rfl rfl Tryd.func8 (by kernel_rfl) rfl rfl (wanted_plain rfl _) rfl (known_any w hD.tab) ?_
    intro w71 a72 hn he72
    have hH71 := hH.call hn
    replace hD := (hD).new hn
    clear he70 a70 hH hn
    refine lW (.bool true) he72 rfl (rn_asg rfl (he72.op rfl) w71) ?_
    intro a73 he73
    clear he72 a72
    refine wpList_nil (then_ok ?_)
    refine wp_ret ?_
    try simp only [Exit.then, Exit.inBlock]
    exact ret_env rfl he73 rfl ⟨rfl, hD.fr.new_below⟩
  refine wp_seq ?_
  refine wp_seq (wp_region_lit ?_)
  refine lW (.int .u8 mo) he1 rfl (rn_mv rfl (he1.op rfl) w) ?_
  intro a74 he74
  clear he1 a1
  refine lW (.bool false) he74 rfl (rn_gt8 rfl (he74.op rfl) (he74.op rfl) (decide_eq_false h0) w) ?_
  intro a75 he75
  clear he74 a74
  refine lW (.bool false) he75 rfl (rn_mv rfl (he75.op rfl) w) ?_
  intro a76 he76
  clear he75 a75
  refine lV (.int .u8 pg) he76 rfl rfl (he76.want rfl rfl rfl rfl rfl) (rn_mv rfl (he76.op rfl) w) ?_
  intro a77 he77
  clear he76 a76
  refine lV (.bool false) he77 rfl rfl (he77.want rfl rfl rfl rfl rfl) (rn_ls8 rfl (he77.op rfl) (he77.op rfl) (decide_eq_false h1) w) ?_
  intro a78 he78
  clear he77 a77
  refine lW (.bool false) he78 rfl (rn_pk0 rfl (he78.op rfl) (he78.op rfl) w) ?_
  intro a79 he79
  clear he78 a78
  refine lW (.bool false) he79 rfl (rn_mv rfl (he79.op rfl) w) ?_
  intro a80 he80
  clear he79 a79
  refine lV (.int .u8 pg) he80 rfl rfl (he80.want rfl rfl rfl rfl rfl) (rn_mv rfl (he80.op rfl) w) ?_
  intro a81 he81
  clear he80 a80
  refine lV (.bool false) he81 rfl rfl (he81.want rfl rfl rfl rfl rfl) (rn_gt8 rfl (he81.op rfl) (he81.op rfl) (decide_eq_false h2) w) ?_
  intro a82 he82
  clear he81 a81
  refine lW (.bool false) he82 rfl (rn_pk0 rfl (he82.op rfl) (he82.op rfl) w) ?_
  intro a83 he83
  clear he82 a82
  refine lW (.bool false) he83 rfl (rn_mv rfl (he83.op rfl) w) ?_
  intro a84 he84
  clear he83 a83
  refine lV (.slice A n c) he84 rfl rfl (he84.want rfl rfl rfl rfl rfl) (rn_mv rfl (he84.op rfl) w) ?_
  intro a85 he85
  clear he84 a84
  refine lV (.int .i64 n) he85 rfl rfl (he85.want rfl rfl rfl rfl rfl) (rn_lenB8 rfl (he85.op rfl) w) ?_
  intro a86 he86
  clear he85 a85
  refine lV (.bool false) he86 rfl rfl (he86.want rfl rfl rfl rfl rfl) (rn_gtr rfl (he86.op rfl) (he86.op rfl) (decide_eq_false h3) w) ?_
  intro a87 he87
  clear he86 a86
  refine lW (.bool false) he87 rfl (rn_pk0 rfl (he87.op rfl) (he87.op rfl) w) ?_
  intro a88 he88
  clear he87 a87
  refine wpList_nil (then_ok ?_)
  refine wp_cond_false (he88.op rfl) ?_
  refine wp_skip ?_
  refine then_ok ?_
  obtain ⟨M, rfl⟩ : ∃ m : Nat, mo = m := ⟨mo.toNat, by omega⟩
  obtain ⟨K, rfl⟩ : ∃ m : Nat, pg = m := ⟨pg.toNat, by omega⟩
  refine wp_seq (wp_region_lit ?_)
  refine lW (.int .u8 M) he88 rfl (rn_mv rfl (he88.op rfl) w) ?_
  intro a89 he89
  clear he88 a88
  refine lW (.int .i64 M) he89 rfl (rn_cv8I rfl (he89.op rfl) (IntWalk.i64_in _ ⟨by omega, by omega⟩) w) ?_
  intro a90 he90
  clear he89 a89
  refine lW (.int .u8 K) he90 rfl (rn_mv rfl (he90.op rfl) w) ?_
  intro a91 he91
  clear he90 a90
  refine lW (.int .i64 K) he91 rfl (rn_cv8I rfl (he91.op rfl) (IntWalk.i64_in _ ⟨by omega, by omega⟩) w) ?_
  intro a92 he92
  clear he91 a91
  refine lCx he92 rfl rfl Tryd.func9 (by kernel_rfl) rfl rfl (wanted_plain rfl _) rfl (rNew_ok M K (by omega) (by omega) (by omega) w hD.tab) ?_
  rintro _ w93 ⟨ps, rfl, ht⟩
  have hD2 := hD.made ht
  have hH93 := hH.call ht.new
  replace hD := hD2
  clear hD2 ht
  refine ⟨_, rfl, ?_⟩
  intro a94 he94
  clear he92 a92 hH
  refine lW (.tuple #[.pointer (some ⟨ps, 0, none⟩), .int .i64 0]) he94 rfl (rn_mv rfl (he94.op rfl) w93) ?_
  intro a95 he95
  clear he94 a94
  refine lW (.pointer (some ⟨ps, 0, none⟩)) he95 rfl (rn_ext rfl (he95.op rfl) rfl w93) ?_
  intro a96 he96
  clear he95 a95
  refine lW (.int .i64 0) he96 rfl (rn_ext rfl (he96.op rfl) rfl w93) ?_
  intro a97 he97
  clear he96 a96
  refine lW (.pointer (some ⟨ps, 0, none⟩)) he97 rfl (rn_asg rfl (he97.op rfl) w93) ?_
  intro a98 he98
  clear he97 a97
  refine lW (.int .i64 0) he98 rfl (rn_asg rfl (he98.op rfl) w93) ?_
  intro a99 he99
  clear he98 a98
  refine wpList_nil (then_ok ?_)
  refine wp_seq ?_
  refine wp_seq (wp_region_lit ?_)
  refine lW (.pointer (some ⟨ps, 0, none⟩)) he99 rfl (rn_mv rfl (he99.op rfl) w93) ?_
  intro a100 he100
  clear he99 a99
  refine lW (.bool false) he100 rfl (rn_eqPr1 rfl (he100.op rfl) (fun _ => rfl) w93) ?_
  intro a101 he101
  clear he100 a100
  refine lW (.bool false) he101 rfl (rn_mv rfl (he101.op rfl) w93) ?_
  intro a102 he102
  clear he101 a101
  refine lV (.int .i64 0) he102 rfl rfl (he102.want rfl rfl rfl rfl rfl) (rn_mv rfl (he102.op rfl) w93) ?_
  intro a103 he103
  clear he102 a102
  refine lV (.bool false) he103 rfl rfl (he103.want rfl rfl rfl rfl rfl) (rn_neE rfl (he103.op rfl) (he103.op rfl) (by simp) w93) ?_
  intro a104 he104
  clear he103 a103
  refine lW (.bool false) he104 rfl (rn_pk0 rfl (he104.op rfl) (he104.op rfl) w93) ?_
  intro a105 he105
  clear he104 a104
  refine wpList_nil (then_ok ?_)
  refine wp_cond_false (he105.op rfl) ?_
  refine wp_skip ?_
  refine then_ok ?_
  have he106 : Env 175 [(7, .pointer (some ⟨ps, 0, none⟩)), (0, .int .u8 M), (1, .int .u8 K), (2, .slice A n c)] a105 := he105.mem ⟨rfl, rfl, rfl, rfl, trivial⟩
  clear he105
  as_aux_lemma =>
    refine wp_seq (wp_region_lit ?_)
    refine lEx he106 rfl rfl (wanted_plain rfl _) (mk_map rfl w93) ?_
    rintro _ w107 ⟨mb, rfl, ht⟩
    have hD2 := hD.made ht
    have hH107 := hH93.call ht.new
    replace hD := hD2
    clear hD2 ht
    intro a108 he108
    clear he106 a105 hH93
    refine lW (.map (some mb)) he108 rfl (rn_asg rfl (he108.op rfl) w107) ?_
    intro a109 he109
    clear he108 a108
    refine wpList_nil (then_ok ?_)
    refine wp_seq (wp_region_lit ?_)
    refine lW (.int .u8 M) he109 rfl (rn_mv rfl (he109.op rfl) w107) ?_
    intro a110 he110
    clear he109 a109
    refine lW (.int .i64 M) he110 rfl (rn_cv8I rfl (he110.op rfl) (IntWalk.i64_in _ ⟨by omega, by omega⟩) w107) ?_
    intro a111 he111
    clear he110 a110
    refine lW (.int .i64 M) he111 rfl (rn_asg rfl (he111.op rfl) w107) ?_
    intro a112 he112
    clear he111 a111
    refine wpList_nil (then_ok ?_)
    refine wp_seq ?_
    refine wp_seq (wp_region_lit ?_)
    refine lW (.slice A n c) he112 rfl (rn_mv rfl (he112.op rfl) w107) ?_
    intro a113 he113
    clear he112 a112
    refine lW (.int .i64 n) he113 rfl (rn_lenB8 rfl (he113.op rfl) w107) ?_
    intro a114 he114
    clear he113 a113
    refine lW (.int .i64 0) he114 rfl (rn_mv rfl (he114.op rfl) w107) ?_
    intro a115 he115
    clear he114 a114
    refine wpList_nil (then_ok ?_)
    have he116 : Env 175 [(54, .int .i64 0), (53, .int .i64 n), (52, .slice A n c), (10, .int .i64 M), (9, .map (some mb)), (7, .pointer (some ⟨ps, 0, none⟩)), (1, .int .u8 K)] a115 := he115.mem ⟨rfl, rfl, rfl, rfl, rfl, rfl, rfl, trivial⟩
    clear he115
    as_aux_lemma =>
      refine wp_block ?_
      replace hD := hD.pick 1 rfl
      refine loop_nat (fun q a w' => ∃ (k nn : Nat) (R : RS) (va : Int → Option Addr) (vc : Int → Nat) (f : Int → List Ce), q = n - k ∧ k ≤ n ∧ nn ≤ k ∧ HoldI K k R f ∧ Env 175 [(1, .int .u8 K), (7, .pointer (some ⟨ps, 0, none⟩)), (9, .map (some mb)), (10, .int .i64 R.mo), (52, .slice A n c), (53, .int .i64 n), (54, .int .i64 k)] a ∧ Hp w [] w' ∧ Dt w w (fun _ => False) 0 [] [ringD ps R, mapD mb nn va vc f] w') n ⟨0, 0, ⟨M, K, 0, []⟩, fun _ => none, fun _ => 0, fun _ => [], by omega, by omega, by omega, ⟨rfl, by show M ≤ 20; omega, Nat.le_refl _, fun j hj => absurd hj (Nat.not_lt_zero _)⟩, he116.mem ⟨rfl, rfl, rfl, rfl, rfl, rfl, rfl, trivial⟩, hH107, hD⟩ ?_
      clear he116 hH107
      rintro q a117 w117 ⟨k, nn, R, va, vc, f, rfl, hk, hnn9, hI, he117, hH117, hD⟩
      have hok := hD.ring_ok
      have hn8 := hI.hnx
      have hnn : R.nx = R.fi + R.L.length := rfl
      by_cases hkn : k < n
      · skip
        refine wp_seq (wp_region_lit ?_)
        refine lW (.bool true) he117 rfl (rn_lss rfl (he117.op rfl) (he117.op rfl) (decide_eq_true (by omega)) w117) ?_
        intro a118 he118
        clear he117 a117
        refine wpList_nil (then_ok ?_)
        refine wp_seq ?_
        refine wp_cond_true (he118.op rfl) ?_
        refine wp_skip ?_
        refine then_ok ?_
        obtain ⟨bz, oz, eA, hbz, hcz⟩ := hzc (by omega)
        subst eA
        obtain ⟨y, hy⟩ : ∃ y, zs[k]? = some y := ⟨_, List.getElem?_eq_getElem (by omega)⟩
        have hyb := hz2 y (List.mem_of_getElem? hy)
        have hcell := hcz k y hy
        refine wp_seq ?_
        refine wp_block ?_
        refine wp_seq (wp_region_lit ?_)
        refine lW (.int .i64 k) he118 rfl (rn_mv rfl (he118.op rfl) w117) ?_
        intro a119 he119
        clear he118 a118
        refine lW (.pointer (some ⟨bz, oz + k, none⟩)) he119 rfl (rn_idxB8 (i := k) rfl (he119.op rfl) (he119.op rfl) hkn (by rw [addr_add, Nat.mul_one]) w117) ?_
        intro a120 he120
        clear he119 a119
        refine lW (.int .u8 y) he120 rfl (rn_ldB8 rfl (he120.op rfl) ((hD.fr.cell (p := ⟨bz, oz + k, none⟩) hbz (fun h => h)).trans hcell)) ?_
        intro a121 he121
        clear he120 a120
        refine lW (.int .i64 k) he121 rfl (rn_asg rfl (he121.op rfl) w117) ?_
        intro a122 he122
        clear he121 a121
        refine lW (.int .u8 y) he122 rfl (rn_asg rfl (he122.op rfl) w117) ?_
        intro a123 he123
        clear he122 a122
        refine wpList_nil (then_ok ?_)
        have he124 : Env 175 [(12, .int .u8 y), (11, .int .i64 k), (1, .int .u8 K), (7, .pointer (some ⟨ps, 0, none⟩)), (9, .map (some mb)), (10, .int .i64 R.mo), (52, .slice (some ⟨bz, oz, none⟩) n c), (53, .int .i64 n), (54, .int .i64 k)] a123 := he123.mem ⟨rfl, rfl, rfl, rfl, rfl, rfl, rfl, rfl, rfl, trivial⟩
        clear he123
        as_aux_lemma =>
          refine wp_seq ?_
          refine reg_cut (fun a w' => ∃ (nn2 : Nat) (R2 : RS) (va2 : Int → Option Addr) (vc2 : Int → Nat) (f2 : Int → List Ce), nn2 ≤ k + 1 ∧ HoldI K (k + 1) R2 f2 ∧ Env 175 [(1, .int .u8 K), (7, .pointer (some ⟨ps, 0, none⟩)), (9, .map (some mb)), (10, .int .i64 R2.mo), (52, .slice (some ⟨bz, oz, none⟩) n c), (53, .int .i64 n), (54, .int .i64 k)] a ∧ Hp w [] w' ∧ Dt w w (fun _ => False) 0 [] [ringD ps R2, mapD mb nn2 va2 vc2 f2] w') ?_ ?_
          · skip
            refine wp_block ?_
            have hq8 : IntKind.u8.wrap (y.tdiv 8) = y / 8 := by rw [Int.tdiv_eq_ediv_of_nonneg hyb.1]; exact IntWalk.u8_in _ ⟨by omega, by omega⟩
            by_cases hb5 : y % 8 = 5
            · skip
              refine wp_seq (wp_region_lit ?_)
              refine lW (.int .u8 y) he124 rfl (rn_mv rfl (he124.op rfl) w117) ?_
              intro a125 he125
              clear he124 a123
              refine lW (.int .u8 (y % 8)) he125 rfl (rn_rem8 rfl (he125.op rfl) (he125.op rfl) (by decide) (Int.tmod_eq_emod_of_nonneg hyb.1) w117) ?_
              intro a126 he126
              clear he125 a125
              refine lW (.bool true) he126 rfl (rn_eq8 rfl (he126.op rfl) (he126.op rfl) (by simp [hb5]) w117) ?_
              intro a127 he127
              clear he126 a126
              refine lW (.bool true) he127 rfl (rn_asg rfl (he127.op rfl) w117) ?_
              intro a128 he128
              clear he127 a127
              refine wpList_nil (then_ok ?_)
              refine wp_cond_true (he128.op rfl) ?_
              have hpl := popR_len hok
              by_cases hL0 : R.L.length = 0
              · skip
                have hpv : (popR R).2 = (zLn, 9) := by unfold popR; rw [if_pos hL0]
                refine wp_seq (wp_region_lit ?_)
                refine lW (.pointer (some ⟨ps, 0, none⟩)) he128 rfl (rn_mv rfl (he128.op rfl) w117) ?_
                intro a129 he129
                clear he128 a128
                obtain ⟨F_, hsep, hF, hstep⟩ := Dt.step (A := [ringD ps R]) (D := [mapD mb nn va vc f]) hD
                refine lCx he129 rfl rfl Tryd.func31 (by kernel_rfl) rfl rfl (wanted_plain rfl _) rfl ((by have hc_ := rPop ps R F_ w117 hsep.the hF hD.tab; rw [hpv] at hc_; exact hc_)) ?_
                rintro _ w130 ⟨Ag, cg, rfl, ht⟩
                obtain ⟨hD2, hHs⟩ := hstep _ _ ht
                have hH130 := hHs _ rfl hH117
                clear hHs hstep hsep hF
                replace hD := hD2
                clear hD2 ht
                refine ⟨_, rfl, ?_⟩
                intro a131 he131
                clear he129 a129 hH117
                refine lW (.tuple #[.agg #[.slice Ag ([] : List Ce).length cg, .bool false], .int .i64 9]) he131 rfl (rn_mv rfl (he131.op rfl) w130) ?_
                intro a132 he132
                clear he131 a131
                refine lW (.agg #[.slice Ag ([] : List Ce).length cg, .bool false]) he132 rfl (rn_ext rfl (he132.op rfl) rfl w130) ?_
                intro a133 he133
                clear he132 a132
                refine lW (.int .i64 9) he133 rfl (rn_ext rfl (he133.op rfl) rfl w130) ?_
                intro a134 he134
                clear he133 a133
                refine lNewP (fun p => .pointer (some ⟨p, 0, none⟩)) he134 hH130 rfl rfl (wanted_plain rfl _) (rn_allocL rfl w130) ?_
                intro p135 w135 a136 hp hn hH135 he136
                replace hD := hD.cons hn hp (hH135.at (i := 0) rfl).lt
                clear he134 a134 hH130 hn hp
                refine lSetF 0 #[.slice Ag ([] : List Ce).length cg, .bool false] (cs := #[.slice Ag ([] : List Ce).length cg, .bool false]) he136 hH135 rfl (wanted_plain rfl _) rfl rfl rfl rfl rfl (by kernel_rfl) (by kernel_rfl) (by kernel_rfl) rfl ?_
                intro w137 a138 hH137 hf he138
                replace hD := hD.setb (i := 0) rfl rfl hf
                replace hH137 : Hp w [⟨p135, 36, #[.slice Ag ([] : List Ce).length cg, .bool false]⟩] w137 := hH137
                clear hf
                clear he136 a136 hH135
                refine lW (.int .i64 9) he138 rfl (rn_asg rfl (he138.op rfl) w137) ?_
                intro a139 he139
                clear he138 a138
                refine wpList_nil (then_ok ?_)
                refine wp_seq ?_
                refine wp_region_held_drew (S := Hp w [⟨p135, 36, #[.slice Ag ([] : List Ce).length cg, .bool false]⟩]) (by kernel_rfl) (hH137.drew) (fun _ => ?_)
                have hn : New w137 (World.drew w137) := (Fr.refl _ _).drew
                replace hD := (hD).new hn
                clear hn
                have hH140 := hH137.drew
                clear hH137
                generalize World.drew w137 = w140 at *
                refine hW (fuel := 10) (i := 0) (.int .i64 9) he139 rfl (by kernel_rfl) (fun _ _ _ h => h) (fun w' _ => rn_mv rfl (he139.op rfl) w') hH140 ?_
                intro a141 he141
                clear he139 a139
                refine hW (fuel := 9) (i := 1) (.bool false) he141 rfl (by kernel_rfl) (fun _ _ _ h => h) (fun w' _ => rn_eqE rfl (he141.op rfl) (he141.op rfl) (by simp) w') hH140 ?_
                intro a142 he142
                clear he141 a141
                refine hW (fuel := 8) (i := 2) (.bool false) he142 rfl (by kernel_rfl) (fun _ _ _ h => h) (fun w' _ => rn_mv rfl (he142.op rfl) w') hH140 ?_
                intro a143 he143
                clear he142 a142
                refine hSkip (fuel := 7) (i := 3) he143 rfl rfl rfl (by kernel_rfl) (by kernel_rfl) (by kernel_rfl) (fun _ _ _ h => h) (he143.wantNot rfl rfl rfl rfl rfl rfl) hH140 ?_
                intro a144 he144
                clear he143 a143
                refine hSkip (fuel := 6) (i := 4) he144 rfl rfl rfl (by kernel_rfl) (by kernel_rfl) (by kernel_rfl) (fun _ _ _ h => h) (he144.wantNot rfl rfl rfl rfl rfl rfl) hH140 ?_
                intro a145 he145
                clear he144 a144
                refine hSkip (fuel := 5) (i := 5) he145 rfl rfl rfl (by kernel_rfl) (by kernel_rfl) (by kernel_rfl) (fun _ _ _ h => h) (he145.wantNot rfl rfl rfl rfl rfl rfl) hH140 ?_
                intro a146 he146
                clear he145 a145
                refine hSkip (fuel := 4) (i := 6) he146 rfl rfl rfl (by kernel_rfl) (by kernel_rfl) (by kernel_rfl) (fun _ _ _ h => h) (he146.wantNot rfl rfl rfl rfl rfl rfl) hH140 ?_
                intro a147 he147
                clear he146 a146
                refine hSkip (fuel := 3) (i := 7) he147 rfl rfl rfl (by kernel_rfl) (by kernel_rfl) (by kernel_rfl) (fun _ _ _ h => h) (he147.wantNot rfl rfl rfl rfl rfl rfl) hH140 ?_
                intro a148 he148
                clear he147 a147
                refine hSkip (fuel := 2) (i := 8) he148 rfl rfl rfl (by kernel_rfl) (by kernel_rfl) (by kernel_rfl) (fun _ _ _ h => h) (he148.wantNot rfl rfl rfl rfl rfl rfl) hH140 ?_
                intro a149 he149
                clear he148 a148
                refine hSkip (fuel := 1) (i := 9) he149 rfl rfl rfl (by kernel_rfl) (by kernel_rfl) (by kernel_rfl) (fun _ _ _ h => h) (he149.wantNot rfl rfl rfl rfl rfl rfl) hH140 ?_
                intro a150 he150
                clear he149 a149
                refine hW (fuel := 0) (i := 10) (.bool false) he150 rfl (by kernel_rfl) (fun _ _ _ h => h) (fun w' _ => rn_pk0 rfl (he150.op rfl) (he150.op rfl) w') hH140 ?_
                intro a151 he151
                clear he150 a150
                refine wpAnyH_done (by kernel_rfl) ?_ _
                refine then_ok ?_
                refine wp_cond_false (he151.op rfl) ?_
                refine wp_skip ?_
                refine block_ok ?_
                refine then_ok ?_
                have hmoS : (popR R).1.mo = R.mo := by unfold popR; split <;> rfl
                have he152 : Env 175 [(100, .bool false), (99, undef), (98, undef), (97, undef), (96, undef), (95, undef), (94, undef), (93, undef), (92, .bool false), (91, .bool false), (90, .int .i64 9), (14, .int .i64 9), (13, .pointer (some ⟨p135, 0, none⟩)), (89, .int .i64 9), (88, .agg #[.slice Ag ([] : List Ce).length cg, .bool false]), (85, .tuple #[.agg #[.slice Ag ([] : List Ce).length cg, .bool false], .int .i64 9]), (87, .tuple #[.agg #[.slice Ag ([] : List Ce).length cg, .bool false], .int .i64 9]), (86, .pointer (some ⟨ps, 0, none⟩)), (81, .bool true), (84, .bool true), (83, .int .u8 (y % 8)), (82, .int .u8 y), (12, .int .u8 y), (11, .int .i64 k), (1, .int .u8 K), (7, .pointer (some ⟨ps, 0, none⟩)), (9, .map (some mb)), (10, .int .i64 ((popR R).1.mo : Int)), (52, .slice (some ⟨bz, oz, none⟩) n c), (53, .int .i64 n), (54, .int .i64 k)] a151 := by rw [hmoS]; exact he151
                clear he151
                have he153 : Env 175 [(1, .int .u8 K), (7, .pointer (some ⟨ps, 0, none⟩)), (9, .map (some mb)), (10, .int .i64 ((popR R).1.mo : Int)), (52, .slice (some ⟨bz, oz, none⟩) n c), (53, .int .i64 n), (54, .int .i64 k)] a151 := he152.mem ⟨rfl, rfl, rfl, rfl, rfl, rfl, rfl, trivial⟩
                clear he152
                have hH154 := hH140.tail rfl
                clear hH140
                replace hD := hD.tail
                replace hD := hD.pick 2 rfl
                replace hD := hD.pick 1 rfl
                exact ⟨nn, (popR R).1, va, vc, f, by omega, hI.pop hok, he153.mem ⟨rfl, rfl, rfl, rfl, rfl, rfl, rfl, trivial⟩, hH154, Dt.first (A := [ringD ps (popR R).1, mapD mb nn va vc f]) hD⟩
              have hpv := hI.popv hok hL0
              have hfl : (f (((popR R).1.nx : Nat) : Int)).length ≤ 1000 := by rw [hpv] at hpl; exact hpl
              refine wp_seq (wp_region_lit ?_)
              refine lW (.pointer (some ⟨ps, 0, none⟩)) he128 rfl (rn_mv rfl (he128.op rfl) w117) ?_
              intro a155 he155
              clear he128 a128
              obtain ⟨F_, hsep, hF, hstep⟩ := Dt.step (A := [ringD ps R]) (D := [mapD mb nn va vc f]) hD
              refine lCx he155 rfl rfl Tryd.func31 (by kernel_rfl) rfl rfl (wanted_plain rfl _) rfl ((by have hc_ := rPop ps R F_ w117 hsep.the hF hD.tab; rw [hpv] at hc_; exact hc_)) ?_
              rintro _ w156 ⟨Ag, cg, rfl, ht⟩
              obtain ⟨hD2, hHs⟩ := hstep _ _ ht
              have hH156 := hHs _ rfl hH117
              clear hHs hstep hsep hF
              replace hD := hD2
              clear hD2 ht
              refine ⟨_, rfl, ?_⟩
              intro a157 he157
              clear he155 a155 hH117
              refine lW (.tuple #[.agg #[.slice Ag (f (((popR R).1.nx : Nat) : Int)).length cg, .bool false], .int .i64 0]) he157 rfl (rn_mv rfl (he157.op rfl) w156) ?_
              intro a158 he158
              clear he157 a157
              refine lW (.agg #[.slice Ag (f (((popR R).1.nx : Nat) : Int)).length cg, .bool false]) he158 rfl (rn_ext rfl (he158.op rfl) rfl w156) ?_
              intro a159 he159
              clear he158 a158
              refine lW (.int .i64 0) he159 rfl (rn_ext rfl (he159.op rfl) rfl w156) ?_
              intro a160 he160
              clear he159 a159
              refine lNewP (fun p => .pointer (some ⟨p, 0, none⟩)) he160 hH156 rfl rfl (wanted_plain rfl _) (rn_allocL rfl w156) ?_
              intro p161 w161 a162 hp hn hH161 he162
              replace hD := hD.cons hn hp (hH161.at (i := 0) rfl).lt
              clear he160 a160 hH156 hn hp
              refine lSetF 0 #[.slice Ag (f (((popR R).1.nx : Nat) : Int)).length cg, .bool false] (cs := #[.slice Ag (f (((popR R).1.nx : Nat) : Int)).length cg, .bool false]) he162 hH161 rfl (wanted_plain rfl _) rfl rfl rfl rfl rfl (by kernel_rfl) (by kernel_rfl) (by kernel_rfl) rfl ?_
              intro w163 a164 hH163 hf he164
              replace hD := hD.setb (i := 0) rfl rfl hf
              replace hH163 : Hp w [⟨p161, 36, #[.slice Ag (f (((popR R).1.nx : Nat) : Int)).length cg, .bool false]⟩] w163 := hH163
              clear hf
              clear he162 a162 hH161
              refine lW (.int .i64 0) he164 rfl (rn_asg rfl (he164.op rfl) w163) ?_
              intro a165 he165
              clear he164 a164
              refine wpList_nil (then_ok ?_)
              refine wp_seq ?_
              refine wp_region_held_drew (S := Hp w [⟨p161, 36, #[.slice Ag (f (((popR R).1.nx : Nat) : Int)).length cg, .bool false]⟩]) (by kernel_rfl) (hH163.drew) (fun _ => ?_)
              have hn : New w163 (World.drew w163) := (Fr.refl _ _).drew
              replace hD := (hD).new hn
              clear hn
              have hH166 := hH163.drew
              clear hH163
              generalize World.drew w163 = w166 at *
              refine hW (fuel := 10) (i := 0) (.int .i64 0) he165 rfl (by kernel_rfl) (fun _ _ _ h => h) (fun w' _ => rn_mv rfl (he165.op rfl) w') hH166 ?_
              intro a167 he167
              clear he165 a165
              refine hW (fuel := 9) (i := 1) (.bool true) he167 rfl (by kernel_rfl) (fun _ _ _ h => h) (fun w' _ => rn_eqE rfl (he167.op rfl) (he167.op rfl) (by simp) w') hH166 ?_
              intro a168 he168
              clear he167 a167
              refine hW (fuel := 8) (i := 2) (.bool true) he168 rfl (by kernel_rfl) (fun _ _ _ h => h) (fun w' _ => rn_mv rfl (he168.op rfl) w') hH166 ?_
              intro a169 he169
              clear he168 a168
              refine hV (fuel := 7) (i := 3) (.agg #[.slice Ag (f (((popR R).1.nx : Nat) : Int)).length cg, .bool false]) he169 rfl rfl rfl (by kernel_rfl) (by kernel_rfl) (by kernel_rfl) (fun _ _ _ h => h) (he169.want rfl rfl rfl rfl rfl) (fun w' hw' => rn_ldp _ rfl (he169.op rfl) undL rfl infoL2 (hw'.at (i := 0) rfl) rfl) hH166 ?_
              intro a170 he170
              clear he169 a169
              refine hV (fuel := 6) (i := 4) (.map (some mb)) he170 rfl rfl rfl (by kernel_rfl) (by kernel_rfl) (by kernel_rfl) (fun _ _ _ h => h) (he170.want rfl rfl rfl rfl rfl) (fun w' _ => rn_mv rfl (he170.op rfl) w') hH166 ?_
              intro a171 he171
              clear he170 a170
              refine hV (fuel := 5) (i := 5) (.pointer (some ⟨ps, 0, none⟩)) he171 rfl rfl rfl (by kernel_rfl) (by kernel_rfl) (by kernel_rfl) (fun _ _ _ h => h) (he171.want rfl rfl rfl rfl rfl) (fun w' _ => rn_mv rfl (he171.op rfl) w') hH166 ?_
              intro a172 he172
              clear he171 a171
              obtain ⟨Fs_, hs_⟩ := hD.get (i := 0) rfl
              refine hC (fuel := 4) (i := 6) he172 (by kernel_rfl) rfl rfl rfl Tryd.func20 (by kernel_rfl) rfl rfl (he172.want rfl rfl rfl rfl rfl) rfl (rNext_d (R := (popR R).1) hs_ hD.tab) ?_
              rintro _ w173 ⟨rfl, hn⟩
              have hH173 := hH166.call hn
              replace hD := (hD).new hn
              refine ⟨_, rfl, hH173, ?_⟩
              intro a174 he174
              clear he172 a172 hH166 hn
              clear hs_ Fs_
              refine hEx (fuel := 3) (i := 7) he174 (by kernel_rfl) rfl rfl rfl (he174.want rfl rfl rfl rfl rfl) (look_mapM rfl (he174.op rfl) (he174.op rfl) (hD.get (i := 2) rfl).choose_spec (wf64_of (by omega) (by have := hok.nx; have := (hI.pop hok).hnx; omega))) ?_
              rintro _ w175 ⟨rfl, ht⟩
              have hD2 := hD.made ht
              have hH175 := hH173.call ht.new
              replace hD := hD2
              clear hD2 ht
              refine ⟨hH175, ?_⟩
              intro a176 he176
              clear he174 a174 hH173
              refine hC (fuel := 2) (i := 8) he176 (by kernel_rfl) rfl rfl rfl Tryd.func23 (by kernel_rfl) rfl rfl (he176.want rfl rfl rfl rfl rfl) rfl (same_s _ (f (((popR R).1.nx : Nat) : Int)) false _ (f (((popR R).1.nx : Nat) : Int)) false true (by simp) (by omega) (by omega) w175 (cells_sl (hD.get (i := 1) rfl).choose_spec) (mapD_sl (hD.get (i := 2) rfl).choose_spec _)) ?_
              rintro _ w177 ⟨rfl, hn⟩
              have hH177 := hH175.call hn
              replace hD := (hD).new hn
              refine ⟨_, rfl, hH177, ?_⟩
              intro a178 he178
              clear he176 a176 hH175 hn
              refine hV (fuel := 1) (i := 9) (.bool false) he178 rfl rfl rfl (by kernel_rfl) (by kernel_rfl) (by kernel_rfl) (fun _ _ _ h => h) (he178.want rfl rfl rfl rfl rfl) (fun w' _ => rn_not (b := true) rfl (he178.op rfl) w') hH177 ?_
              intro a179 he179
              clear he178 a178
              refine hW (fuel := 0) (i := 10) (.bool false) he179 rfl (by kernel_rfl) (fun _ _ _ h => h) (fun w' _ => rn_pk rfl (he179.op rfl) (he179.op rfl) w') hH177 ?_
              intro a180 he180
              clear he179 a179
              refine wpAnyH_done (by kernel_rfl) ?_ _
              refine then_ok ?_
              refine wp_cond_false (he180.op rfl) ?_
              refine wp_skip ?_
              refine block_ok ?_
              refine then_ok ?_
              have hmoS : (popR R).1.mo = R.mo := by unfold popR; split <;> rfl
              have he181 : Env 175 [(100, .bool false), (99, .bool false), (98, .bool true), (97, .agg #[.slice (va (((popR R).1.nx : Nat) : Int)) (f (((popR R).1.nx : Nat) : Int)).length (vc (((popR R).1.nx : Nat) : Int)), .bool false]), (96, .int .i64 ((popR R).1.nx : Nat)), (95, .pointer (some ⟨ps, 0, none⟩)), (94, .map (some mb)), (93, .agg #[.slice Ag (f (((popR R).1.nx : Nat) : Int)).length cg, .bool false]), (92, .bool true), (91, .bool true), (90, .int .i64 0), (14, .int .i64 0), (13, .pointer (some ⟨p161, 0, none⟩)), (89, .int .i64 0), (88, .agg #[.slice Ag (f (((popR R).1.nx : Nat) : Int)).length cg, .bool false]), (85, .tuple #[.agg #[.slice Ag (f (((popR R).1.nx : Nat) : Int)).length cg, .bool false], .int .i64 0]), (87, .tuple #[.agg #[.slice Ag (f (((popR R).1.nx : Nat) : Int)).length cg, .bool false], .int .i64 0]), (86, .pointer (some ⟨ps, 0, none⟩)), (81, .bool true), (84, .bool true), (83, .int .u8 (y % 8)), (82, .int .u8 y), (12, .int .u8 y), (11, .int .i64 k), (1, .int .u8 K), (7, .pointer (some ⟨ps, 0, none⟩)), (9, .map (some mb)), (10, .int .i64 ((popR R).1.mo : Int)), (52, .slice (some ⟨bz, oz, none⟩) n c), (53, .int .i64 n), (54, .int .i64 k)] a180 := by rw [hmoS]; exact he180
              clear he180
              have he182 : Env 175 [(1, .int .u8 K), (7, .pointer (some ⟨ps, 0, none⟩)), (9, .map (some mb)), (10, .int .i64 ((popR R).1.mo : Int)), (52, .slice (some ⟨bz, oz, none⟩) n c), (53, .int .i64 n), (54, .int .i64 k)] a180 := he181.mem ⟨rfl, rfl, rfl, rfl, rfl, rfl, rfl, trivial⟩
              clear he181
              have hH183 := hH177.tail rfl
              clear hH177
              replace hD := hD.tail
              replace hD := hD.pick 2 rfl
              replace hD := hD.pick 1 rfl
              exact ⟨nn, (popR R).1, va, vc, f, by omega, hI.pop hok, he182.mem ⟨rfl, rfl, rfl, rfl, rfl, rfl, rfl, trivial⟩, hH183, Dt.first (A := [ringD ps (popR R).1, mapD mb nn va vc f]) hD⟩
            refine wp_seq (wp_region_lit ?_)
            refine lW (.int .u8 y) he124 rfl (rn_mv rfl (he124.op rfl) w117) ?_
            intro a184 he184
            clear he124 a123
            refine lW (.int .u8 (y % 8)) he184 rfl (rn_rem8 rfl (he184.op rfl) (he184.op rfl) (by decide) (Int.tmod_eq_emod_of_nonneg hyb.1) w117) ?_
            intro a185 he185
            clear he184 a184
            refine lW (.bool false) he185 rfl (rn_eq8 rfl (he185.op rfl) (he185.op rfl) (by simpa using hb5) w117) ?_
            intro a186 he186
            clear he185 a185
            refine lW (.bool false) he186 rfl (rn_asg rfl (he186.op rfl) w117) ?_
            intro a187 he187
            clear he186 a186
            refine wpList_nil (then_ok ?_)
            refine wp_cond_false (he187.op rfl) ?_
            by_cases hb6 : y % 8 = 6
            · skip
              refine wp_seq (wp_region_lit ?_)
              refine lW (.int .u8 y) he187 rfl (rn_mv rfl (he187.op rfl) w117) ?_
              intro a188 he188
              clear he187 a187
              refine lW (.int .u8 (y % 8)) he188 rfl (rn_rem8 rfl (he188.op rfl) (he188.op rfl) (by decide) (Int.tmod_eq_emod_of_nonneg hyb.1) w117) ?_
              intro a189 he189
              clear he188 a188
              refine lW (.bool true) he189 rfl (rn_eq8 rfl (he189.op rfl) (he189.op rfl) (by simp [hb6]) w117) ?_
              intro a190 he190
              clear he189 a189
              refine lW (.bool true) he190 rfl (rn_asg rfl (he190.op rfl) w117) ?_
              intro a191 he191
              clear he190 a190
              refine wpList_nil (then_ok ?_)
              refine wp_cond_true (he191.op rfl) ?_
              obtain ⟨dn, hdn⟩ : ∃ d : Nat, (y / 8) % 21 = d := ⟨((y / 8) % 21).toNat, by omega⟩
              have hq5 : (y / 8).tmod 21 = dn := by rw [Int.tmod_eq_emod_of_nonneg (by omega)]; exact hdn
              refine wp_seq (wp_region_lit ?_)
              refine lW (.int .u8 y) he191 rfl (rn_mv rfl (he191.op rfl) w117) ?_
              intro a192 he192
              clear he191 a191
              refine lW (.int .u8 (y / 8)) he192 rfl (rn_quo8 rfl (he192.op rfl) (he192.op rfl) (by decide) hq8 w117) ?_
              intro a193 he193
              clear he192 a192
              refine lW (.int .i64 (y / 8)) he193 rfl (rn_cv8I rfl (he193.op rfl) (IntWalk.i64_in _ ⟨by omega, by omega⟩) w117) ?_
              intro a194 he194
              clear he193 a193
              refine lW (.int .i64 dn) he194 rfl (rn_remI rfl (he194.op rfl) (he194.op rfl) (by decide) hq5 w117) ?_
              intro a195 he195
              clear he194 a194
              refine lW (.int .i64 dn) he195 rfl (rn_asg rfl (he195.op rfl) w117) ?_
              intro a196 he196
              clear he195 a195
              refine wpList_nil (then_ok ?_)
              obtain ⟨hI2, hlv, hlm⟩ := hI.limit hok (n := dn) (by omega)
              refine wp_seq (wp_region_lit ?_)
              refine lW (.pointer (some ⟨ps, 0, none⟩)) he196 rfl (rn_mv rfl (he196.op rfl) w117) ?_
              intro a197 he197
              clear he196 a196
              refine lW (.int .i64 dn) he197 rfl (rn_mv rfl (he197.op rfl) w117) ?_
              intro a198 he198
              clear he197 a197
              obtain ⟨F_, hsep, hF, hstep⟩ := Dt.step (A := [ringD ps R]) (D := [mapD mb nn va vc f]) hD
              refine lCx he198 rfl rfl Tryd.func27 (by kernel_rfl) rfl rfl (wanted_plain rfl _) rfl ((by have hc_ := rLimit ps R (dn : Int) F_ w117 hsep.the hF hD.tab; rw [hlv] at hc_; exact hc_)) ?_
              rintro _ w199 ⟨rfl, ht⟩
              obtain ⟨hD2, hHs⟩ := hstep _ _ ht
              have hH199 := hHs _ rfl hH117
              clear hHs hstep hsep hF
              replace hD := hD2
              clear hD2 ht
              refine ⟨_, rfl, ?_⟩
              intro a200 he200
              clear he198 a198 hH117
              refine lW (.bool false) he200 rfl (rn_neE rfl (he200.op rfl) (he200.op rfl) (by simp) w199) ?_
              intro a201 he201
              clear he200 a200
              refine wpList_nil (then_ok ?_)
              refine wp_cond_false (he201.op rfl) ?_
              refine wp_skip ?_
              refine block_ok ?_
              refine then_ok ?_
              have he202 : Env 175 [(10, .int .i64 dn), (1, .int .u8 K), (7, .pointer (some ⟨ps, 0, none⟩)), (9, .map (some mb)), (52, .slice (some ⟨bz, oz, none⟩) n c), (53, .int .i64 n), (54, .int .i64 k)] a201 := he201.mem ⟨rfl, rfl, rfl, rfl, rfl, rfl, rfl, trivial⟩
              clear he201
              have he203 : Env 175 [(10, .int .i64 ((limitR R (dn : Int)).1.mo : Int)), (1, .int .u8 K), (7, .pointer (some ⟨ps, 0, none⟩)), (9, .map (some mb)), (52, .slice (some ⟨bz, oz, none⟩) n c), (53, .int .i64 n), (54, .int .i64 k)] a201 := by rw [hlm]; exact he202
              clear he202
              replace hD := hD.pick 1 rfl
              replace hD := hD.pick 1 rfl
              exact ⟨nn, (limitR R (dn : Int)).1, va, vc, f, by omega, hI2, he203.mem ⟨rfl, rfl, rfl, rfl, rfl, rfl, rfl, trivial⟩, hH199, Dt.first (A := [ringD ps (limitR R (dn : Int)).1, mapD mb nn va vc f]) hD⟩
            refine wp_seq (wp_region_lit ?_)
            refine lW (.int .u8 y) he187 rfl (rn_mv rfl (he187.op rfl) w117) ?_
            intro a204 he204
            clear he187 a187
            refine lW (.int .u8 (y % 8)) he204 rfl (rn_rem8 rfl (he204.op rfl) (he204.op rfl) (by decide) (Int.tmod_eq_emod_of_nonneg hyb.1) w117) ?_
            intro a205 he205
            clear he204 a204
            refine lW (.bool false) he205 rfl (rn_eq8 rfl (he205.op rfl) (he205.op rfl) (by simpa using hb6) w117) ?_
            intro a206 he206
            clear he205 a205
            refine lW (.bool false) he206 rfl (rn_asg rfl (he206.op rfl) w117) ?_
            intro a207 he207
            clear he206 a206
            refine wpList_nil (then_ok ?_)
            refine wp_cond_false (he207.op rfl) ?_
            by_cases hb7 : y % 8 = 7
            · skip
              by_cases hb0 : y / 8 = 0
              · skip
                refine wp_seq (wp_region_lit ?_)
                refine lW (.int .u8 y) he207 rfl (rn_mv rfl (he207.op rfl) w117) ?_
                intro a208 he208
                clear he207 a207
                refine lW (.int .u8 (y % 8)) he208 rfl (rn_rem8 rfl (he208.op rfl) (he208.op rfl) (by decide) (Int.tmod_eq_emod_of_nonneg hyb.1) w117) ?_
                intro a209 he209
                clear he208 a208
                refine lW (.bool true) he209 rfl (rn_eq8 rfl (he209.op rfl) (he209.op rfl) (by simp [hb7]) w117) ?_
                intro a210 he210
                clear he209 a209
                refine lW (.bool true) he210 rfl (rn_mv rfl (he210.op rfl) w117) ?_
                intro a211 he211
                clear he210 a210
                refine lV (.int .u8 y) he211 rfl rfl (he211.want rfl rfl rfl rfl rfl) (rn_mv rfl (he211.op rfl) w117) ?_
                intro a212 he212
                clear he211 a211
                refine lV (.int .u8 (y / 8)) he212 rfl rfl (he212.want rfl rfl rfl rfl rfl) (rn_quo8 rfl (he212.op rfl) (he212.op rfl) (by decide) hq8 w117) ?_
                intro a213 he213
                clear he212 a212
                refine lV (.bool true) he213 rfl rfl (he213.want rfl rfl rfl rfl rfl) (rn_eq8 rfl (he213.op rfl) (he213.op rfl) (by simp [hb0]) w117) ?_
                intro a214 he214
                clear he213 a213
                refine lW (.bool true) he214 rfl (rn_pk rfl (he214.op rfl) (he214.op rfl) w117) ?_
                intro a215 he215
                clear he214 a214
                refine lW (.bool true) he215 rfl (rn_asg rfl (he215.op rfl) w117) ?_
                intro a216 he216
                clear he215 a215
                refine wpList_nil (then_ok ?_)
                refine wp_cond_true (he216.op rfl) ?_
                refine wp_seq (wp_region_lit ?_)
                refine lW (.pointer (some ⟨ps, 0, none⟩)) he216 rfl (rn_mv rfl (he216.op rfl) w117) ?_
                intro a217 he217
                clear he216 a216
                obtain ⟨F_, hsep, hF, hstep⟩ := Dt.step (A := [ringD ps R]) (D := [mapD mb nn va vc f]) hD
                refine lCx he217 rfl rfl Tryd.func24 (by kernel_rfl) rfl rfl (wanted_plain rfl _) rfl (rClear ps R F_ w117 hsep.the hF hD.tab) ?_
                rintro _ w218 ⟨rfl, ht⟩
                obtain ⟨hD2, hHs⟩ := hstep _ _ ht
                have hH218 := hHs _ rfl hH117
                clear hHs hstep hsep hF
                replace hD := hD2
                clear hD2 ht
                refine ⟨_, rfl, ?_⟩
                intro a219 he219
                clear he217 a217 hH117
                refine wpList_nil (then_ok ?_)
                refine wp_seq (wp_region_lit ?_)
                refine lW (.pointer (some ⟨ps, 0, none⟩)) he219 rfl (rn_mv rfl (he219.op rfl) w218) ?_
                intro a220 he220
                clear he219 a219
                obtain ⟨Fs_, hs_⟩ := hD.get (i := 0) rfl
                refine lC he220 rfl rfl Tryd.func28 (by kernel_rfl) rfl rfl (wanted_plain rfl _) rfl (rLen_d (R := (clearR R)) hs_ hD.tab) ?_
                intro w221 a222 hn he222
                have hH221 := hH218.call hn
                replace hD := (hD).new hn
                clear he220 a220 hH218 hn
                clear hs_ Fs_
                refine lW (.bool false) he222 rfl (rn_neI rfl (he222.op rfl) (he222.op rfl) (by rfl) w221) ?_
                intro a223 he223
                clear he222 a222
                refine wpList_nil (then_ok ?_)
                refine wp_cond_false (he223.op rfl) ?_
                refine wp_skip ?_
                refine block_ok ?_
                refine then_ok ?_
                have he224 : Env 175 [(1, .int .u8 K), (7, .pointer (some ⟨ps, 0, none⟩)), (9, .map (some mb)), (10, .int .i64 R.mo), (52, .slice (some ⟨bz, oz, none⟩) n c), (53, .int .i64 n), (54, .int .i64 k)] a223 := he223.mem ⟨rfl, rfl, rfl, rfl, rfl, rfl, rfl, trivial⟩
                clear he223
                replace hD := hD.pick 1 rfl
                replace hD := hD.pick 1 rfl
                exact ⟨nn, (clearR R), va, vc, f, by omega, hI.clear, he224.mem ⟨rfl, rfl, rfl, rfl, rfl, rfl, rfl, trivial⟩, hH221, Dt.first (A := [ringD ps (clearR R), mapD mb nn va vc f]) hD⟩
              refine wp_seq (wp_region_lit ?_)
              refine lW (.int .u8 y) he207 rfl (rn_mv rfl (he207.op rfl) w117) ?_
              intro a225 he225
              clear he207 a207
              refine lW (.int .u8 (y % 8)) he225 rfl (rn_rem8 rfl (he225.op rfl) (he225.op rfl) (by decide) (Int.tmod_eq_emod_of_nonneg hyb.1) w117) ?_
              intro a226 he226
              clear he225 a225
              refine lW (.bool true) he226 rfl (rn_eq8 rfl (he226.op rfl) (he226.op rfl) (by simp [hb7]) w117) ?_
              intro a227 he227
              clear he226 a226
              refine lW (.bool true) he227 rfl (rn_mv rfl (he227.op rfl) w117) ?_
              intro a228 he228
              clear he227 a227
              refine lV (.int .u8 y) he228 rfl rfl (he228.want rfl rfl rfl rfl rfl) (rn_mv rfl (he228.op rfl) w117) ?_
              intro a229 he229
              clear he228 a228
              refine lV (.int .u8 (y / 8)) he229 rfl rfl (he229.want rfl rfl rfl rfl rfl) (rn_quo8 rfl (he229.op rfl) (he229.op rfl) (by decide) hq8 w117) ?_
              intro a230 he230
              clear he229 a229
              refine lV (.bool false) he230 rfl rfl (he230.want rfl rfl rfl rfl rfl) (rn_eq8 rfl (he230.op rfl) (he230.op rfl) (by simpa using hb0) w117) ?_
              intro a231 he231
              clear he230 a230
              refine lW (.bool false) he231 rfl (rn_pk rfl (he231.op rfl) (he231.op rfl) w117) ?_
              intro a232 he232
              clear he231 a231
              refine lW (.bool false) he232 rfl (rn_asg rfl (he232.op rfl) w117) ?_
              intro a233 he233
              clear he232 a232
              refine wpList_nil (then_ok ?_)
              refine wp_cond_false (he233.op rfl) ?_
              have hnlt : R.nx < bigN := by omega
              have hor := ok_rune k (by omega)
              have hpv : (pushR R ([tc (1024 + (k : Int))], false)).2 = ((R.nx : Int), 0) := by rw [push_t hor]
              have hsn : (pushR R ([tc (1024 + (k : Int))], false)).1.nx = R.nx + 1 := by rw [push_t hor]; show (evR (adR R _)).nx = _; rw [evR_nx (addP_ok hok.pl1 hok.pg), adR_nx]
              have hsm : (pushR R ([tc (1024 + (k : Int))], false)).1.mo = R.mo := by rw [push_t hor]; exact (evR_keep _).1
              refine wp_seq (wp_region_lit ?_)
              refine lW (.int .i64 k) he233 rfl (rn_mv rfl (he233.op rfl) w117) ?_
              intro a234 he234
              clear he233 a233
              refine lW (.int .i64 (1024 + (k : Int))) he234 rfl (rn_add1 rfl (he234.op rfl) (he234.op rfl) (by rw [IntWalk.i64_in _ ⟨by omega, by omega⟩]) w117) ?_
              intro a235 he235
              clear he234 a234
              refine lW (.int .i32 (1024 + (k : Int))) he235 rfl (rn_cvI32 rfl (he235.op rfl) (IntWalk.i32_in _ ⟨by omega, by omega⟩) w117) ?_
              intro a236 he236
              clear he235 a235
              refine lCx he236 rfl rfl Tryd.func18 (by kernel_rfl) rfl rfl (wanted_plain rfl _) rfl (text_b (1024 + (k : Int)) w117) ?_
              rintro _ w237 ⟨At, ct, rfl, ht⟩
              have hD2 := hD.made ht
              have hH237 := hH117.call ht.new
              replace hD := hD2
              clear hD2 ht
              refine ⟨_, rfl, ?_⟩
              intro a238 he238
              clear he236 a236 hH117
              refine lNewP (fun p => .pointer (some ⟨p, 0, none⟩)) he238 hH237 rfl rfl (wanted_plain rfl _) (rn_allocL rfl w237) ?_
              intro p239 w239 a240 hp hn hH239 he240
              replace hD := hD.cons hn hp (hH239.at (i := 0) rfl).lt
              clear he238 a238 hH237 hn hp
              refine lSetF 0 #[.slice At 1 ct, .bool false] (cs := #[.slice At 1 ct, .bool false]) he240 hH239 rfl (wanted_plain rfl _) rfl rfl rfl rfl rfl (by kernel_rfl) (by kernel_rfl) (by kernel_rfl) rfl ?_
              intro w241 a242 hH241 hf he242
              replace hD := hD.setb (i := 0) rfl rfl hf
              replace hH241 : Hp w [⟨p239, 36, #[.slice At 1 ct, .bool false]⟩] w241 := hH241
              clear hf
              clear he240 a240 hH239
              refine wpList_nil (then_ok ?_)
              refine wp_seq (wp_region_lit ?_)
              refine lW (.pointer (some ⟨ps, 0, none⟩)) he242 rfl (rn_mv rfl (he242.op rfl) w241) ?_
              intro a243 he243
              clear he242 a242
              refine lW (.agg #[.slice At 1 ct, .bool false]) he243 rfl (rn_ldp _ rfl (he243.op rfl) undL rfl infoL2 (hH241.at (i := 0) rfl) rfl) ?_
              intro a244 he244
              clear he243 a243
              replace hD := hD.pick 1 rfl
              obtain ⟨F_, G_, hsep, hrd_, hdj, hF, hstep⟩ := Dt.stepR (A := [ringD ps R]) (d := cellsD (.slice At 1 ct) [tc (1024 + (k : Int))]) (D := [mapD mb nn va vc f]) hD
              refine lCx he244 rfl rfl Tryd.func32 (by kernel_rfl) rfl rfl (wanted_plain rfl _) rfl ((by have hc_ := rPush ps R _ [tc (1024 + (k : Int))] false F_ G_ w241 hsep.the hnlt (cells_f hrd_) hdj hF hD.tab; rw [hpv] at hc_; exact hc_)) ?_
              rintro _ w245 ⟨rfl, ht⟩
              obtain ⟨hD2, hHs⟩ := hstep _ _ ht
              have hH245 := hHs _ rfl hH241
              clear hHs hstep hsep hF hrd_ hdj
              replace hD := hD2
              clear hD2 ht
              refine ⟨_, rfl, ?_⟩
              intro a246 he246
              clear he244 a244 hH241
              refine lW (.tuple #[.int .i64 R.nx, .int .i64 0]) he246 rfl (rn_mv rfl (he246.op rfl) w245) ?_
              intro a247 he247
              clear he246 a246
              refine lW (.int .i64 R.nx) he247 rfl (rn_ext rfl (he247.op rfl) rfl w245) ?_
              intro a248 he248
              clear he247 a247
              refine lW (.int .i64 0) he248 rfl (rn_ext rfl (he248.op rfl) rfl w245) ?_
              intro a249 he249
              clear he248 a248
              refine lW (.int .i64 R.nx) he249 rfl (rn_asg rfl (he249.op rfl) w245) ?_
              intro a250 he250
              clear he249 a249
              refine lW (.int .i64 0) he250 rfl (rn_asg rfl (he250.op rfl) w245) ?_
              intro a251 he251
              clear he250 a250
              refine wpList_nil (then_ok ?_)
              refine wp_seq ?_
              refine wp_seq (wp_region_lit ?_)
              refine lW (.int .i64 0) he251 rfl (rn_mv rfl (he251.op rfl) w245) ?_
              intro a252 he252
              clear he251 a251
              refine lW (.bool false) he252 rfl (rn_neE rfl (he252.op rfl) (he252.op rfl) (by simp) w245) ?_
              intro a253 he253
              clear he252 a252
              refine lW (.bool false) he253 rfl (rn_mv rfl (he253.op rfl) w245) ?_
              intro a254 he254
              clear he253 a253
              refine lV (.int .i64 R.nx) he254 rfl rfl (he254.want rfl rfl rfl rfl rfl) (rn_mv rfl (he254.op rfl) w245) ?_
              intro a255 he255
              clear he254 a254
              refine lV (.pointer (some ⟨ps, 0, none⟩)) he255 rfl rfl (he255.want rfl rfl rfl rfl rfl) (rn_mv rfl (he255.op rfl) w245) ?_
              intro a256 he256
              clear he255 a255
              obtain ⟨Fs_, hs_⟩ := hD.get (i := 0) rfl
              refine lC he256 rfl rfl Tryd.func20 (by kernel_rfl) rfl rfl (he256.want rfl rfl rfl rfl rfl) rfl (rNext_d (R := (pushR R ([tc (1024 + (k : Int))], false)).1) hs_ hD.tab) ?_
              intro w257 a258 hn he258
              have hH257 := hH245.call hn
              replace hD := (hD).new hn
              clear he256 a256 hH245 hn
              clear hs_ Fs_
              refine lV (.int .i64 R.nx) he258 rfl rfl (he258.want rfl rfl rfl rfl rfl) (rn_subI rfl (he258.op rfl) (he258.op rfl) (by rw [hsn, IntWalk.i64_in _ ⟨by omega, by omega⟩]; omega) w257) ?_
              intro a259 he259
              clear he258 a258
              refine lV (.bool false) he259 rfl rfl (he259.want rfl rfl rfl rfl rfl) (rn_neI rfl (he259.op rfl) (he259.op rfl) (by simp) w257) ?_
              intro a260 he260
              clear he259 a259
              refine lW (.bool false) he260 rfl (rn_pk0 rfl (he260.op rfl) (he260.op rfl) w257) ?_
              intro a261 he261
              clear he260 a260
              refine wpList_nil (then_ok ?_)
              refine wp_cond_false (he261.op rfl) ?_
              refine wp_skip ?_
              refine then_ok ?_
              refine wp_region_lit ?_
              refine lW (.map (some mb)) he261 rfl (rn_mv rfl (he261.op rfl) w257) ?_
              intro a262 he262
              clear he261 a261
              refine lW (.int .i64 R.nx) he262 rfl (rn_mv rfl (he262.op rfl) w257) ?_
              intro a263 he263
              clear he262 a262
              refine lW (.agg #[.slice At 1 ct, .bool false]) he263 rfl (rn_ldp _ rfl (he263.op rfl) undL rfl infoL2 (hH257.at (i := 0) rfl) rfl) ?_
              intro a264 he264
              clear he263 a263
              replace hD := hD.pick 1 rfl
              replace hD := hD.pick 2 rfl
              obtain ⟨F_, hsep, hF, hstep⟩ := Dt.step (A := [mapD mb nn va vc f, cellsD (.slice At 1 ct) [tc (1024 + (k : Int))]]) (D := [ringD ps (pushR R ([tc (1024 + (k : Int))], false)).1]) hD
              refine lEs0 he264 rfl (wanted_plain rfl _) (upd_map rfl (he264.op rfl) (he264.op rfl) (he264.op rfl) hsep (wf64_of (by omega) (by omega)) (by omega)) ?_
              rintro _ w265 ⟨rfl, ht⟩
              obtain ⟨hD2, hHs⟩ := hstep _ _ ht
              have hH265 := hHs _ rfl hH257
              clear hHs hstep hsep hF
              replace hD := hD2
              clear hD2 ht
              intro a266 he266
              clear he264 a264 hH257
              refine wpList_nil ?_
              refine block_ok ?_
              refine then_ok ?_
              have he267 : Env 175 [(1, .int .u8 K), (7, .pointer (some ⟨ps, 0, none⟩)), (9, .map (some mb)), (10, .int .i64 R.mo), (52, .slice (some ⟨bz, oz, none⟩) n c), (53, .int .i64 n), (54, .int .i64 k)] a266 := he266.mem ⟨rfl, rfl, rfl, rfl, rfl, rfl, rfl, trivial⟩
              clear he266
              have he268 : Env 175 [(1, .int .u8 K), (7, .pointer (some ⟨ps, 0, none⟩)), (9, .map (some mb)), (10, .int .i64 ((pushR R ([tc (1024 + (k : Int))], false)).1.mo : Int)), (52, .slice (some ⟨bz, oz, none⟩) n c), (53, .int .i64 n), (54, .int .i64 k)] a266 := by rw [hsm]; exact he267
              clear he267
              have hH269 := hH265.tail rfl
              clear hH265
              replace hD := hD.tail
              replace hD := hD.pick 1 rfl
              exact ⟨(nn + 1), (pushR R ([tc (1024 + (k : Int))], false)).1, (setF va ((R.nx : Nat) : Int) At), (setF vc ((R.nx : Nat) : Int) ct), (setF f ((R.nx : Nat) : Int) [tc (1024 + (k : Int))]), by omega, hI.push hok hor, he268.mem ⟨rfl, rfl, rfl, rfl, rfl, rfl, rfl, trivial⟩, hH269, Dt.first (A := [ringD ps (pushR R ([tc (1024 + (k : Int))], false)).1, mapD mb (nn + 1) (setF va ((R.nx : Nat) : Int) At) (setF vc ((R.nx : Nat) : Int) ct) (setF f ((R.nx : Nat) : Int) [tc (1024 + (k : Int))])]) hD⟩
            refine wp_seq (wp_region_lit ?_)
            refine lW (.int .u8 y) he207 rfl (rn_mv rfl (he207.op rfl) w117) ?_
            intro a270 he270
            clear he207 a207
            refine lW (.int .u8 (y % 8)) he270 rfl (rn_rem8 rfl (he270.op rfl) (he270.op rfl) (by decide) (Int.tmod_eq_emod_of_nonneg hyb.1) w117) ?_
            intro a271 he271
            clear he270 a270
            refine lW (.bool false) he271 rfl (rn_eq8 rfl (he271.op rfl) (he271.op rfl) (by simpa using hb7) w117) ?_
            intro a272 he272
            clear he271 a271
            refine lW (.bool false) he272 rfl (rn_mv rfl (he272.op rfl) w117) ?_
            intro a273 he273
            clear he272 a272
            refine lSkip he273 rfl rfl (he273.wantNot rfl rfl rfl rfl rfl rfl) ?_
            intro a274 he274
            clear he273 a273
            refine lSkip he274 rfl rfl (he274.wantNot rfl rfl rfl rfl rfl rfl) ?_
            intro a275 he275
            clear he274 a274
            refine lSkip he275 rfl rfl (he275.wantNot rfl rfl rfl rfl rfl rfl) ?_
            intro a276 he276
            clear he275 a275
            refine lW (.bool false) he276 rfl (rn_pk0 rfl (he276.op rfl) (he276.op rfl) w117) ?_
            intro a277 he277
            clear he276 a276
            refine lW (.bool false) he277 rfl (rn_asg rfl (he277.op rfl) w117) ?_
            intro a278 he278
            clear he277 a277
            refine wpList_nil (then_ok ?_)
            refine wp_cond_false (he278.op rfl) ?_
            have hnlt : R.nx < bigN := by omega
            have hor := ok_rune k (by omega)
            have hpv : (pushR R ([tc (1024 + (k : Int))], false)).2 = ((R.nx : Int), 0) := by rw [push_t hor]
            have hsn : (pushR R ([tc (1024 + (k : Int))], false)).1.nx = R.nx + 1 := by rw [push_t hor]; show (evR (adR R _)).nx = _; rw [evR_nx (addP_ok hok.pl1 hok.pg), adR_nx]
            have hsm : (pushR R ([tc (1024 + (k : Int))], false)).1.mo = R.mo := by rw [push_t hor]; exact (evR_keep _).1
            refine wp_seq (wp_region_lit ?_)
            refine lW (.int .i64 k) he278 rfl (rn_mv rfl (he278.op rfl) w117) ?_
            intro a279 he279
            clear he278 a278
            refine lW (.int .i64 (1024 + (k : Int))) he279 rfl (rn_add1 rfl (he279.op rfl) (he279.op rfl) (by rw [IntWalk.i64_in _ ⟨by omega, by omega⟩]) w117) ?_
            intro a280 he280
            clear he279 a279
            refine lW (.int .i32 (1024 + (k : Int))) he280 rfl (rn_cvI32 rfl (he280.op rfl) (IntWalk.i32_in _ ⟨by omega, by omega⟩) w117) ?_
            intro a281 he281
            clear he280 a280
            refine lCx he281 rfl rfl Tryd.func18 (by kernel_rfl) rfl rfl (wanted_plain rfl _) rfl (text_b (1024 + (k : Int)) w117) ?_
            rintro _ w282 ⟨At, ct, rfl, ht⟩
            have hD2 := hD.made ht
            have hH282 := hH117.call ht.new
            replace hD := hD2
            clear hD2 ht
            refine ⟨_, rfl, ?_⟩
            intro a283 he283
            clear he281 a281 hH117
            refine lNewP (fun p => .pointer (some ⟨p, 0, none⟩)) he283 hH282 rfl rfl (wanted_plain rfl _) (rn_allocL rfl w282) ?_
            intro p284 w284 a285 hp hn hH284 he285
            replace hD := hD.cons hn hp (hH284.at (i := 0) rfl).lt
            clear he283 a283 hH282 hn hp
            refine lSetF 0 #[.slice At 1 ct, .bool false] (cs := #[.slice At 1 ct, .bool false]) he285 hH284 rfl (wanted_plain rfl _) rfl rfl rfl rfl rfl (by kernel_rfl) (by kernel_rfl) (by kernel_rfl) rfl ?_
            intro w286 a287 hH286 hf he287
            replace hD := hD.setb (i := 0) rfl rfl hf
            replace hH286 : Hp w [⟨p284, 36, #[.slice At 1 ct, .bool false]⟩] w286 := hH286
            clear hf
            clear he285 a285 hH284
            refine wpList_nil (then_ok ?_)
            refine wp_seq (wp_region_lit ?_)
            refine lW (.pointer (some ⟨ps, 0, none⟩)) he287 rfl (rn_mv rfl (he287.op rfl) w286) ?_
            intro a288 he288
            clear he287 a287
            refine lW (.agg #[.slice At 1 ct, .bool false]) he288 rfl (rn_ldp _ rfl (he288.op rfl) undL rfl infoL2 (hH286.at (i := 0) rfl) rfl) ?_
            intro a289 he289
            clear he288 a288
            replace hD := hD.pick 1 rfl
            obtain ⟨F_, G_, hsep, hrd_, hdj, hF, hstep⟩ := Dt.stepR (A := [ringD ps R]) (d := cellsD (.slice At 1 ct) [tc (1024 + (k : Int))]) (D := [mapD mb nn va vc f]) hD
            refine lCx he289 rfl rfl Tryd.func32 (by kernel_rfl) rfl rfl (wanted_plain rfl _) rfl ((by have hc_ := rPush ps R _ [tc (1024 + (k : Int))] false F_ G_ w286 hsep.the hnlt (cells_f hrd_) hdj hF hD.tab; rw [hpv] at hc_; exact hc_)) ?_
            rintro _ w290 ⟨rfl, ht⟩
            obtain ⟨hD2, hHs⟩ := hstep _ _ ht
            have hH290 := hHs _ rfl hH286
            clear hHs hstep hsep hF hrd_ hdj
            replace hD := hD2
            clear hD2 ht
            refine ⟨_, rfl, ?_⟩
            intro a291 he291
            clear he289 a289 hH286
            refine lW (.tuple #[.int .i64 R.nx, .int .i64 0]) he291 rfl (rn_mv rfl (he291.op rfl) w290) ?_
            intro a292 he292
            clear he291 a291
            refine lW (.int .i64 R.nx) he292 rfl (rn_ext rfl (he292.op rfl) rfl w290) ?_
            intro a293 he293
            clear he292 a292
            refine lW (.int .i64 0) he293 rfl (rn_ext rfl (he293.op rfl) rfl w290) ?_
            intro a294 he294
            clear he293 a293
            refine lW (.int .i64 R.nx) he294 rfl (rn_asg rfl (he294.op rfl) w290) ?_
            intro a295 he295
            clear he294 a294
            refine lW (.int .i64 0) he295 rfl (rn_asg rfl (he295.op rfl) w290) ?_
            intro a296 he296
            clear he295 a295
            refine wpList_nil (then_ok ?_)
            refine wp_seq ?_
            refine wp_seq (wp_region_lit ?_)
            refine lW (.int .i64 0) he296 rfl (rn_mv rfl (he296.op rfl) w290) ?_
            intro a297 he297
            clear he296 a296
            refine lW (.bool false) he297 rfl (rn_neE rfl (he297.op rfl) (he297.op rfl) (by simp) w290) ?_
            intro a298 he298
            clear he297 a297
            refine lW (.bool false) he298 rfl (rn_mv rfl (he298.op rfl) w290) ?_
            intro a299 he299
            clear he298 a298
            refine lV (.int .i64 R.nx) he299 rfl rfl (he299.want rfl rfl rfl rfl rfl) (rn_mv rfl (he299.op rfl) w290) ?_
            intro a300 he300
            clear he299 a299
            refine lV (.pointer (some ⟨ps, 0, none⟩)) he300 rfl rfl (he300.want rfl rfl rfl rfl rfl) (rn_mv rfl (he300.op rfl) w290) ?_
            intro a301 he301
            clear he300 a300
            obtain ⟨Fs_, hs_⟩ := hD.get (i := 0) rfl
            refine lC he301 rfl rfl Tryd.func20 (by kernel_rfl) rfl rfl (he301.want rfl rfl rfl rfl rfl) rfl (rNext_d (R := (pushR R ([tc (1024 + (k : Int))], false)).1) hs_ hD.tab) ?_
            intro w302 a303 hn he303
            have hH302 := hH290.call hn
            replace hD := (hD).new hn
            clear he301 a301 hH290 hn
            clear hs_ Fs_
            refine lV (.int .i64 R.nx) he303 rfl rfl (he303.want rfl rfl rfl rfl rfl) (rn_subI rfl (he303.op rfl) (he303.op rfl) (by rw [hsn, IntWalk.i64_in _ ⟨by omega, by omega⟩]; omega) w302) ?_
            intro a304 he304
            clear he303 a303
            refine lV (.bool false) he304 rfl rfl (he304.want rfl rfl rfl rfl rfl) (rn_neI rfl (he304.op rfl) (he304.op rfl) (by simp) w302) ?_
            intro a305 he305
            clear he304 a304
            refine lW (.bool false) he305 rfl (rn_pk0 rfl (he305.op rfl) (he305.op rfl) w302) ?_
            intro a306 he306
            clear he305 a305
            refine wpList_nil (then_ok ?_)
            refine wp_cond_false (he306.op rfl) ?_
            refine wp_skip ?_
            refine then_ok ?_
            refine wp_region_lit ?_
            refine lW (.map (some mb)) he306 rfl (rn_mv rfl (he306.op rfl) w302) ?_
            intro a307 he307
            clear he306 a306
            refine lW (.int .i64 R.nx) he307 rfl (rn_mv rfl (he307.op rfl) w302) ?_
            intro a308 he308
            clear he307 a307
            refine lW (.agg #[.slice At 1 ct, .bool false]) he308 rfl (rn_ldp _ rfl (he308.op rfl) undL rfl infoL2 (hH302.at (i := 0) rfl) rfl) ?_
            intro a309 he309
            clear he308 a308
            replace hD := hD.pick 1 rfl
            replace hD := hD.pick 2 rfl
            obtain ⟨F_, hsep, hF, hstep⟩ := Dt.step (A := [mapD mb nn va vc f, cellsD (.slice At 1 ct) [tc (1024 + (k : Int))]]) (D := [ringD ps (pushR R ([tc (1024 + (k : Int))], false)).1]) hD
            refine lEs0 he309 rfl (wanted_plain rfl _) (upd_map rfl (he309.op rfl) (he309.op rfl) (he309.op rfl) hsep (wf64_of (by omega) (by omega)) (by omega)) ?_
            rintro _ w310 ⟨rfl, ht⟩
            obtain ⟨hD2, hHs⟩ := hstep _ _ ht
            have hH310 := hHs _ rfl hH302
            clear hHs hstep hsep hF
            replace hD := hD2
            clear hD2 ht
            intro a311 he311
            clear he309 a309 hH302
            refine wpList_nil ?_
            refine block_ok ?_
            refine then_ok ?_
            have he312 : Env 175 [(1, .int .u8 K), (7, .pointer (some ⟨ps, 0, none⟩)), (9, .map (some mb)), (10, .int .i64 R.mo), (52, .slice (some ⟨bz, oz, none⟩) n c), (53, .int .i64 n), (54, .int .i64 k)] a311 := he311.mem ⟨rfl, rfl, rfl, rfl, rfl, rfl, rfl, trivial⟩
            clear he311
            have he313 : Env 175 [(1, .int .u8 K), (7, .pointer (some ⟨ps, 0, none⟩)), (9, .map (some mb)), (10, .int .i64 ((pushR R ([tc (1024 + (k : Int))], false)).1.mo : Int)), (52, .slice (some ⟨bz, oz, none⟩) n c), (53, .int .i64 n), (54, .int .i64 k)] a311 := by rw [hsm]; exact he312
            clear he312
            have hH314 := hH310.tail rfl
            clear hH310
            replace hD := hD.tail
            replace hD := hD.pick 1 rfl
            exact ⟨(nn + 1), (pushR R ([tc (1024 + (k : Int))], false)).1, (setF va ((R.nx : Nat) : Int) At), (setF vc ((R.nx : Nat) : Int) ct), (setF f ((R.nx : Nat) : Int) [tc (1024 + (k : Int))]), by omega, hI.push hok hor, he313.mem ⟨rfl, rfl, rfl, rfl, rfl, rfl, rfl, trivial⟩, hH314, Dt.first (A := [ringD ps (pushR R ([tc (1024 + (k : Int))], false)).1, mapD mb (nn + 1) (setF va ((R.nx : Nat) : Int) At) (setF vc ((R.nx : Nat) : Int) ct) (setF f ((R.nx : Nat) : Int) [tc (1024 + (k : Int))])]) hD⟩
          clear he124 hH117 hD hok hI hnn hn8
          rintro a315 w315 ⟨nn2, R2, va2, vc2, f2, hnn9b, hI, he315, hH315, hD⟩
          have hok := hD.ring_ok
          have hn8 := hI.hnx
          have hnn : R2.nx = R2.fi + R2.L.length := rfl
          have hlm := hok.len
          have hm20 := hI.hmo
          obtain ⟨qq, hqq⟩ : ∃ q, R2.mo / K = q := ⟨_, rfl⟩
          have hq9 : qq ≤ R2.mo := hqq ▸ Nat.div_le_self _ _
          have hpg : R2.P.length ≤ qq + 2 := by have h_ := pages_le hok; rwa [hI.hpl, hqq] at h_
          refine wp_seq ?_
          refine wp_seq ?_
          refine wp_region_held_drew (S := Hp w []) (by kernel_rfl) (hH315.drew) (fun _ => ?_)
          have hn : New w315 (World.drew w315) := (Fr.refl _ _).drew
          replace hD := (hD).new hn
          clear hn
          have hH316 := hH315.drew
          clear hH315
          generalize World.drew w315 = w316 at *
          refine hW (fuel := 23) (i := 0) (.pointer (some ⟨ps, 0, none⟩)) he315 rfl (by kernel_rfl) (fun _ _ _ h => h) (fun w' _ => rn_mv rfl (he315.op rfl) w') hH316 ?_
          intro a317 he317
          clear he315 a315
          refine hW (fuel := 22) (i := 2) (.int .i64 R2.mo) he317 rfl (by kernel_rfl) (fun _ _ _ h => h) (fun w' _ => rn_mv rfl (he317.op rfl) w') hH316 ?_
          intro a318 he318
          clear he317 a317
          obtain ⟨Fs_, hs_⟩ := hD.get (i := 0) rfl
          refine hC (fuel := 21) (i := 1) he318 (by kernel_rfl) rfl rfl rfl Tryd.func28 (by kernel_rfl) rfl rfl (wanted_plain rfl _) rfl (rLen_d (R := R2) hs_ hD.tab) ?_
          rintro _ w319 ⟨rfl, hn⟩
          have hH319 := hH316.call hn
          replace hD := (hD).new hn
          refine ⟨_, rfl, hH319, ?_⟩
          intro a320 he320
          clear he318 a318 hH316 hn
          clear hs_ Fs_
          refine hW (fuel := 20) (i := 3) (.bool false) he320 rfl (by kernel_rfl) (fun _ _ _ h => h) (fun w' _ => rn_gtr rfl (he320.op rfl) (he320.op rfl) (decide_eq_false (by omega)) w') hH319 ?_
          intro a321 he321
          clear he320 a320
          refine hW (fuel := 19) (i := 4) (.bool false) he321 rfl (by kernel_rfl) (fun _ _ _ h => h) (fun w' _ => rn_mv rfl (he321.op rfl) w') hH319 ?_
          intro a322 he322
          clear he321 a321
          refine hV (fuel := 18) (i := 5) (.pointer (some ⟨ps, 0, none⟩)) he322 rfl rfl rfl (by kernel_rfl) (by kernel_rfl) (by kernel_rfl) (fun _ _ _ h => h) (he322.want rfl rfl rfl rfl rfl) (fun w' _ => rn_mv rfl (he322.op rfl) w') hH319 ?_
          intro a323 he323
          clear he322 a322
          refine hV (fuel := 17) (i := 7) (.pointer (some ⟨ps, 0, none⟩)) he323 rfl rfl rfl (by kernel_rfl) (by kernel_rfl) (by kernel_rfl) (fun _ _ _ h => h) (he323.want rfl rfl rfl rfl rfl) (fun w' _ => rn_mv rfl (he323.op rfl) w') hH319 ?_
          intro a324 he324
          clear he323 a323
          refine hV (fuel := 16) (i := 9) (.pointer (some ⟨ps, 0, none⟩)) he324 rfl rfl rfl (by kernel_rfl) (by kernel_rfl) (by kernel_rfl) (fun _ _ _ h => h) (he324.want rfl rfl rfl rfl rfl) (fun w' _ => rn_mv rfl (he324.op rfl) w') hH319 ?_
          intro a325 he325
          clear he324 a324
          obtain ⟨Fs_, hs_⟩ := hD.get (i := 0) rfl
          refine hC (fuel := 15) (i := 6) he325 (by kernel_rfl) rfl rfl rfl Tryd.func28 (by kernel_rfl) rfl rfl (he325.want rfl rfl rfl rfl rfl) rfl (rLen_d (R := R2) hs_ hD.tab) ?_
          rintro _ w326 ⟨rfl, hn⟩
          have hH326 := hH319.call hn
          replace hD := (hD).new hn
          refine ⟨_, rfl, hH326, ?_⟩
          intro a327 he327
          clear he325 a325 hH319 hn
          clear hs_ Fs_
          obtain ⟨Fs_, hs_⟩ := hD.get (i := 0) rfl
          refine hC (fuel := 14) (i := 8) he327 (by kernel_rfl) rfl rfl rfl Tryd.func20 (by kernel_rfl) rfl rfl (he327.want rfl rfl rfl rfl rfl) rfl (rNext_d (R := R2) hs_ hD.tab) ?_
          rintro _ w328 ⟨rfl, hn⟩
          have hH328 := hH326.call hn
          replace hD := (hD).new hn
          refine ⟨_, rfl, hH328, ?_⟩
          intro a329 he329
          clear he327 a327 hH326 hn
          clear hs_ Fs_
          obtain ⟨Fs_, hs_⟩ := hD.get (i := 0) rfl
          refine hC (fuel := 13) (i := 10) he329 (by kernel_rfl) rfl rfl rfl Tryd.func19 (by kernel_rfl) rfl rfl (he329.want rfl rfl rfl rfl rfl) rfl (rFirst_d (R := R2) hs_ hD.tab) ?_
          rintro _ w330 ⟨rfl, hn⟩
          have hH330 := hH328.call hn
          replace hD := (hD).new hn
          refine ⟨_, rfl, hH330, ?_⟩
          intro a331 he331
          clear he329 a329 hH328 hn
          clear hs_ Fs_
          refine hV (fuel := 12) (i := 11) (.int .i64 ((R2.nx : Int) - (R2.fi : Int))) he331 rfl rfl rfl (by kernel_rfl) (by kernel_rfl) (by kernel_rfl) (fun _ _ _ h => h) (he331.want rfl rfl rfl rfl rfl) (fun w' _ => rn_subI rfl (he331.op rfl) (he331.op rfl) (by rw [IntWalk.i64_in _ ⟨by omega, by omega⟩]) w') hH330 ?_
          intro a332 he332
          clear he331 a331
          refine hV (fuel := 11) (i := 12) (.bool false) he332 rfl rfl rfl (by kernel_rfl) (by kernel_rfl) (by kernel_rfl) (fun _ _ _ h => h) (he332.want rfl rfl rfl rfl rfl) (fun w' _ => rn_neI rfl (he332.op rfl) (he332.op rfl) (by simp only [bne_eq_false_iff_eq]; omega) w') hH330 ?_
          intro a333 he333
          clear he332 a332
          refine hW (fuel := 10) (i := 13) (.bool false) he333 rfl (by kernel_rfl) (fun _ _ _ h => h) (fun w' _ => rn_pk0 rfl (he333.op rfl) (he333.op rfl) w') hH330 ?_
          intro a334 he334
          clear he333 a333
          refine hW (fuel := 9) (i := 14) (.bool false) he334 rfl (by kernel_rfl) (fun _ _ _ h => h) (fun w' _ => rn_mv rfl (he334.op rfl) w') hH330 ?_
          intro a335 he335
          clear he334 a334
          refine hV (fuel := 8) (i := 15) (.pointer (some ⟨ps, 0, none⟩)) he335 rfl rfl rfl (by kernel_rfl) (by kernel_rfl) (by kernel_rfl) (fun _ _ _ h => h) (he335.want rfl rfl rfl rfl rfl) (fun w' _ => rn_mv rfl (he335.op rfl) w') hH330 ?_
          intro a336 he336
          clear he335 a335
          refine hV (fuel := 7) (i := 17) (.int .i64 R2.mo) he336 rfl rfl rfl (by kernel_rfl) (by kernel_rfl) (by kernel_rfl) (fun _ _ _ h => h) (he336.want rfl rfl rfl rfl rfl) (fun w' _ => rn_mv rfl (he336.op rfl) w') hH330 ?_
          intro a337 he337
          clear he336 a336
          refine hV (fuel := 6) (i := 18) (.int .u8 K) he337 rfl rfl rfl (by kernel_rfl) (by kernel_rfl) (by kernel_rfl) (fun _ _ _ h => h) (he337.want rfl rfl rfl rfl rfl) (fun w' _ => rn_mv rfl (he337.op rfl) w') hH330 ?_
          intro a338 he338
          clear he337 a337
          refine hV (fuel := 5) (i := 19) (.int .i64 K) he338 rfl rfl rfl (by kernel_rfl) (by kernel_rfl) (by kernel_rfl) (fun _ _ _ h => h) (he338.want rfl rfl rfl rfl rfl) (fun w' _ => rn_cv8I rfl (he338.op rfl) (IntWalk.i64_in _ ⟨by omega, by omega⟩) w') hH330 ?_
          intro a339 he339
          clear he338 a338
          refine hV (fuel := 4) (i := 20) (.int .i64 qq) he339 rfl rfl rfl (by kernel_rfl) (by kernel_rfl) (by kernel_rfl) (fun _ _ _ h => h) (he339.want rfl rfl rfl rfl rfl) (fun w' _ => rn_quoI rfl (he339.op rfl) (he339.op rfl) (by omega) (by rw [show ((R2.mo : Int).tdiv (K : Int)) = ((R2.mo / K : Nat) : Int) from rfl, hqq, IntWalk.i64_in _ ⟨by omega, by omega⟩]) w') hH330 ?_
          intro a340 he340
          clear he339 a339
          refine hV (fuel := 3) (i := 21) (.int .i64 ((qq : Int) + 2)) he340 rfl rfl rfl (by kernel_rfl) (by kernel_rfl) (by kernel_rfl) (fun _ _ _ h => h) (he340.want rfl rfl rfl rfl rfl) (fun w' _ => rn_add1 rfl (he340.op rfl) (he340.op rfl) (by rw [IntWalk.i64_in _ ⟨by omega, by omega⟩]) w') hH330 ?_
          intro a341 he341
          clear he340 a340
          obtain ⟨Fs_, hs_⟩ := hD.get (i := 0) rfl
          refine hC (fuel := 2) (i := 16) he341 (by kernel_rfl) rfl rfl rfl Tryd.func21 (by kernel_rfl) rfl rfl (he341.want rfl rfl rfl rfl rfl) rfl (rPages_d (R := R2) hs_ hD.tab) ?_
          rintro _ w342 ⟨rfl, hn⟩
          have hH342 := hH330.call hn
          replace hD := (hD).new hn
          refine ⟨_, rfl, hH342, ?_⟩
          intro a343 he343
          clear he341 a341 hH330 hn
          clear hs_ Fs_
          refine hV (fuel := 1) (i := 22) (.bool false) he343 rfl rfl rfl (by kernel_rfl) (by kernel_rfl) (by kernel_rfl) (fun _ _ _ h => h) (he343.want rfl rfl rfl rfl rfl) (fun w' _ => rn_gtr rfl (he343.op rfl) (he343.op rfl) (decide_eq_false (by omega)) w') hH342 ?_
          intro a344 he344
          clear he343 a343
          refine hW (fuel := 0) (i := 23) (.bool false) he344 rfl (by kernel_rfl) (fun _ _ _ h => h) (fun w' _ => rn_pk0 rfl (he344.op rfl) (he344.op rfl) w') hH342 ?_
          intro a345 he345
          clear he344 a344
          refine wpAnyH_done (by kernel_rfl) ?_ _
          refine then_ok ?_
          refine wp_cond_false (he345.op rfl) ?_
          refine wp_skip ?_
          refine then_ok ?_
          have he346 : Env 175 [(1, .int .u8 K), (7, .pointer (some ⟨ps, 0, none⟩)), (9, .map (some mb)), (10, .int .i64 R2.mo), (52, .slice (some ⟨bz, oz, none⟩) n c), (53, .int .i64 n), (54, .int .i64 k)] a345 := he345.mem ⟨rfl, rfl, rfl, rfl, rfl, rfl, rfl, trivial⟩
          clear he345
          as_aux_lemma =>
            refine wp_seq (wp_region_lit ?_)
            refine lW (.pointer (some ⟨ps, 0, none⟩)) he346 rfl (rn_mv rfl (he346.op rfl) w342) ?_
            intro a347 he347
            clear he346 a345
            obtain ⟨Fs_, hs_⟩ := hD.get (i := 0) rfl
            refine lC he347 rfl rfl Tryd.func19 (by kernel_rfl) rfl rfl (wanted_plain rfl _) rfl (rFirst_d (R := R2) hs_ hD.tab) ?_
            intro w348 a349 hn he349
            have hH348 := hH342.call hn
            replace hD := (hD).new hn
            clear he347 a347 hH342 hn
            clear hs_ Fs_
            refine lW (.int .i64 R2.fi) he349 rfl (rn_asg rfl (he349.op rfl) w348) ?_
            intro a350 he350
            clear he349 a349
            refine wpList_nil (then_ok ?_)
            have he351 : Env 175 [(18, .int .i64 R2.fi), (1, .int .u8 K), (7, .pointer (some ⟨ps, 0, none⟩)), (9, .map (some mb)), (10, .int .i64 R2.mo), (52, .slice (some ⟨bz, oz, none⟩) n c), (53, .int .i64 n), (54, .int .i64 k)] a350 := he350.mem ⟨rfl, rfl, rfl, rfl, rfl, rfl, rfl, rfl, trivial⟩
            clear he350
            refine wp_block ?_
            refine loop_nat (fun q a w' => ∃ (j : Nat), q = R2.L.length - j ∧ j ≤ R2.L.length ∧ Env 175 [(1, .int .u8 K), (7, .pointer (some ⟨ps, 0, none⟩)), (9, .map (some mb)), (10, .int .i64 R2.mo), (18, .int .i64 ((R2.fi + j : Nat) : Int)), (52, .slice (some ⟨bz, oz, none⟩) n c), (53, .int .i64 n), (54, .int .i64 k)] a ∧ Hp w [] w' ∧ Dt w w (fun _ => False) 0 [] [ringD ps R2, mapD mb nn2 va2 vc2 f2] w') R2.L.length ⟨0, by omega, by omega, he351.mem ⟨rfl, rfl, rfl, rfl, rfl, rfl, rfl, rfl, trivial⟩, hH348, hD⟩ ?_
            clear he351 hH348
            rintro q a352 w352 ⟨j, rfl, hj, he352, hH352, hD⟩
            by_cases hjn : j < R2.L.length
            · skip
              refine wp_seq ?_
              refine wp_seq (wp_region_lit ?_)
              refine lW (.int .i64 ((R2.fi + j : Nat) : Int)) he352 rfl (rn_mv rfl (he352.op rfl) w352) ?_
              intro a353 he353
              clear he352 a352
              refine lW (.pointer (some ⟨ps, 0, none⟩)) he353 rfl (rn_mv rfl (he353.op rfl) w352) ?_
              intro a354 he354
              clear he353 a353
              obtain ⟨Fs_, hs_⟩ := hD.get (i := 0) rfl
              refine lC he354 rfl rfl Tryd.func20 (by kernel_rfl) rfl rfl (wanted_plain rfl _) rfl (rNext_d (R := R2) hs_ hD.tab) ?_
              intro w355 a356 hn he356
              have hH355 := hH352.call hn
              replace hD := (hD).new hn
              clear he354 a354 hH352 hn
              clear hs_ Fs_
              refine lW (.bool true) he356 rfl (rn_lss rfl (he356.op rfl) (he356.op rfl) (decide_eq_true (by omega)) w355) ?_
              intro a357 he357
              clear he356 a356
              refine lW (.bool true) he357 rfl (rn_mv rfl (he357.op rfl) w355) ?_
              intro a358 he358
              clear he357 a357
              refine lV (.int .i64 ((R2.fi + j : Nat) : Int)) he358 rfl rfl (he358.want rfl rfl rfl rfl rfl) (rn_mv rfl (he358.op rfl) w355) ?_
              intro a359 he359
              clear he358 a358
              refine lV (.pointer (some ⟨ps, 0, none⟩)) he359 rfl rfl (he359.want rfl rfl rfl rfl rfl) (rn_mv rfl (he359.op rfl) w355) ?_
              intro a360 he360
              clear he359 a359
              obtain ⟨Fs_, hs_⟩ := hD.get (i := 0) rfl
              refine lC he360 rfl rfl Tryd.func19 (by kernel_rfl) rfl rfl (he360.want rfl rfl rfl rfl rfl) rfl (rFirst_d (R := R2) hs_ hD.tab) ?_
              intro w361 a362 hn he362
              have hH361 := hH355.call hn
              replace hD := (hD).new hn
              clear he360 a360 hH355 hn
              clear hs_ Fs_
              refine lV (.int .i64 ((R2.fi : Int) + 20)) he362 rfl rfl (he362.want rfl rfl rfl rfl rfl) (rn_add1 rfl (he362.op rfl) (he362.op rfl) (by rw [IntWalk.i64_in _ ⟨by omega, by omega⟩]) w361) ?_
              intro a363 he363
              clear he362 a362
              refine lV (.bool true) he363 rfl rfl (he363.want rfl rfl rfl rfl rfl) (rn_leq rfl (he363.op rfl) (he363.op rfl) (decide_eq_true (by omega)) w361) ?_
              intro a364 he364
              clear he363 a363
              refine lW (.bool true) he364 rfl (rn_pk rfl (he364.op rfl) (he364.op rfl) w361) ?_
              intro a365 he365
              clear he364 a364
              refine wpList_nil (then_ok ?_)
              refine wp_cond_true (he365.op rfl) ?_
              refine wp_skip ?_
              refine then_ok ?_
              refine wp_seq ?_
              refine wp_block ?_
              refine wp_seq (wp_region_lit ?_)
              refine lW (.pointer (some ⟨ps, 0, none⟩)) he365 rfl (rn_mv rfl (he365.op rfl) w361) ?_
              intro a366 he366
              clear he365 a365
              refine lW (.int .i64 ((R2.fi + j : Nat) : Int)) he366 rfl (rn_mv rfl (he366.op rfl) w361) ?_
              intro a367 he367
              clear he366 a366
              refine lW (.map (some mb)) he367 rfl (rn_mv rfl (he367.op rfl) w361) ?_
              intro a368 he368
              clear he367 a367
              refine lW (.int .i64 ((R2.fi + j : Nat) : Int)) he368 rfl (rn_mv rfl (he368.op rfl) w361) ?_
              intro a369 he369
              clear he368 a368
              refine lW (.agg #[.slice (va2 ((R2.fi + j : Nat) : Int)) (f2 ((R2.fi + j : Nat) : Int)).length (vc2 ((R2.fi + j : Nat) : Int)), .bool false]) he369 rfl (look_map rfl (he369.op rfl) (he369.op rfl) (hD.get (i := 1) rfl).choose_spec (wf64_of (by omega) (by omega))) ?_
              intro a370 he370
              clear he369 a369
              obtain ⟨Fs_, hs_⟩ := hD.get (i := 0) rfl
              refine lC he370 rfl rfl Tryd.func15 (by kernel_rfl) rfl rfl (wanted_plain rfl _) rfl (gets_b ps R2 ((R2.fi + j : Nat) : Int) _ (f2 ((R2.fi + j : Nat) : Int)) false 0 Fs_ w361 hs_ (hI.get hjn) (mapD_sl (hD.get (i := 1) rfl).choose_spec _) hD.tab) ?_
              intro w371 a372 hn he372
              have hH371 := hH361.call hn
              replace hD := (hD).new hn
              clear he370 a370 hH361 hn
              clear hs_ Fs_
              refine lW (.bool false) he372 rfl (rn_not (b := true) rfl (he372.op rfl) w371) ?_
              intro a373 he373
              clear he372 a372
              refine wpList_nil (then_ok ?_)
              refine wp_cond_false (he373.op rfl) ?_
              refine wp_skip ?_
              refine block_ok ?_
              refine then_ok ?_
              refine wp_region_lit ?_
              refine lW (.int .i64 ((R2.fi + j : Nat) : Int)) he373 rfl (rn_mv rfl (he373.op rfl) w371) ?_
              intro a374 he374
              clear he373 a373
              refine lW (.int .i64 ((R2.fi + (j + 1) : Nat) : Int)) he374 rfl (rn_add1 rfl (he374.op rfl) (he374.op rfl) (by rw [IntWalk.i64_in _ ⟨by omega, by omega⟩]; omega) w371) ?_
              intro a375 he375
              clear he374 a374
              refine lW (.int .i64 ((R2.fi + (j + 1) : Nat) : Int)) he375 rfl (rn_asg rfl (he375.op rfl) w371) ?_
              intro a376 he376
              clear he375 a375
              refine wpList_nil (then_ok ?_)
              exact ⟨R2.L.length - (j + 1), by omega, j + 1, rfl, by omega, he376.mem ⟨rfl, rfl, rfl, rfl, rfl, rfl, rfl, rfl, trivial⟩, hH371, hD⟩
            refine wp_seq ?_
            refine wp_seq (wp_region_lit ?_)
            refine lW (.int .i64 ((R2.fi + j : Nat) : Int)) he352 rfl (rn_mv rfl (he352.op rfl) w352) ?_
            intro a377 he377
            clear he352 a352
            refine lW (.pointer (some ⟨ps, 0, none⟩)) he377 rfl (rn_mv rfl (he377.op rfl) w352) ?_
            intro a378 he378
            clear he377 a377
            obtain ⟨Fs_, hs_⟩ := hD.get (i := 0) rfl
            refine lC he378 rfl rfl Tryd.func20 (by kernel_rfl) rfl rfl (wanted_plain rfl _) rfl (rNext_d (R := R2) hs_ hD.tab) ?_
            intro w379 a380 hn he380
            have hH379 := hH352.call hn
            replace hD := (hD).new hn
            clear he378 a378 hH352 hn
            clear hs_ Fs_
            refine lW (.bool false) he380 rfl (rn_lss rfl (he380.op rfl) (he380.op rfl) (decide_eq_false (by omega)) w379) ?_
            intro a381 he381
            clear he380 a380
            refine lW (.bool false) he381 rfl (rn_mv rfl (he381.op rfl) w379) ?_
            intro a382 he382
            clear he381 a381
            refine lSkip he382 rfl rfl (he382.wantNot rfl rfl rfl rfl rfl rfl) ?_
            intro a383 he383
            clear he382 a382
            refine lSkip he383 rfl rfl (he383.wantNot rfl rfl rfl rfl rfl rfl) ?_
            intro a384 he384
            clear he383 a383
            refine lSkip he384 rfl rfl (he384.wantNot rfl rfl rfl rfl rfl rfl) ?_
            intro a385 he385
            clear he384 a384
            refine lSkip he385 rfl rfl (he385.wantNot rfl rfl rfl rfl rfl rfl) ?_
            intro a386 he386
            clear he385 a385
            refine lSkip he386 rfl rfl (he386.wantNot rfl rfl rfl rfl rfl rfl) ?_
            intro a387 he387
            clear he386 a386
            refine lW (.bool false) he387 rfl (rn_pk0 rfl (he387.op rfl) (he387.op rfl) w379) ?_
            intro a388 he388
            clear he387 a387
            refine wpList_nil (then_ok ?_)
            refine wp_cond_false (he388.op rfl) ?_
            refine wp_exit ?_
            simp only [Exit.then, Exit.inBlock, if_true]
            refine wp_region_lit ?_
            refine lW (.int .i64 ((k + 1 : Nat) : Int)) he388 rfl (rn_add1 rfl (he388.op rfl) (he388.op rfl) (by rw [IntWalk.i64_in _ ⟨by omega, by omega⟩]; omega) w379) ?_
            intro a389 he389
            clear he388 a388
            refine lW (.int .i64 ((k + 1 : Nat) : Int)) he389 rfl (rn_mv rfl (he389.op rfl) w379) ?_
            intro a390 he390
            clear he389 a389
            refine wpList_nil (then_ok ?_)
            exact ⟨n - (k + 1), by omega, k + 1, nn2, R2, va2, vc2, f2, rfl, by omega, by omega, hI, he390.mem ⟨rfl, rfl, rfl, rfl, rfl, rfl, rfl, trivial⟩, hH379, hD⟩
      refine wp_seq (wp_region_lit ?_)
      refine lW (.bool false) he117 rfl (rn_lss rfl (he117.op rfl) (he117.op rfl) (decide_eq_false (by omega)) w117) ?_
      intro a391 he391
      clear he117 a117
      refine wpList_nil (then_ok ?_)
      refine wp_seq ?_
      refine wp_cond_false (he391.op rfl) ?_
      refine wp_exit ?_
      simp only [Exit.then, Exit.inBlock, if_true]
      refine wp_seq (wp_region_lit ?_)
      refine lC he391 rfl rfl Tryd.func8 (by kernel_rfl) rfl rfl (wanted_plain rfl _) rfl (known_any w117 hD.tab) ?_
      intro w392 a393 hn he393
      have hH392 := hH117.call hn
      replace hD := (hD).new hn
      clear he391 a391 hH117 hn
      refine lW (.bool true) he393 rfl (rn_asg rfl (he393.op rfl) w392) ?_
      intro a394 he394
      clear he393 a393
      refine wpList_nil (then_ok ?_)
      refine wp_ret ?_
      try simp only [Exit.then, Exit.inBlock]
      exact ret_env rfl he394 rfl ⟨rfl, hD.fr.new_below⟩

end Go.Proofs.YtlpjhaghphmbeaaDoor
