/-
  Package ring: what only reads.
-/
import Derived.Test.YtlpjhaghphmbeaaDoorB1
namespace Go.Proofs.YtlpjhaghphmbeaaDoor
open Go.RowKit

set_option linter.unusedSimpArgs false in
set_option maxRecDepth 100000 in
set_option maxHeartbeats 1600000 in
theorem rUnmade_f (A : Option Addr) (n c p : Nat) (mo pl fi nx : Int) (w : World) (hB : Blk w p 60 (rgCs (.slice A n c) mo pl fi nx)) (hpl : (pl == 0) = false) (hT : Tab w) : Calls Tryd.prog 45 #[.pointer (some ⟨p, 0, none⟩)] w fun e w' => e = .returned (.bool false) ∧ New w w' := by
  refine calls_args (vl := [.pointer (some ⟨p, 0, none⟩)]) 12 Tryd.func45 rfl Tryd.ntmps45 (by kernel_rfl) (fun a he => ?_)
  have he0 : Env 12 [(0, .pointer (some ⟨p, 0, none⟩))] a := he
  clear he
  have hH := Hp.bare1 hB
  have hD := Dt.read1 hT hB.lt
  refine wp_seq (wp_region_lit ?_)
  refine lW (.bool false) he0 rfl (rn_asg rfl (he0.op rfl) w) ?_
  intro a1 he1
  clear he0 a
  refine wpList_nil (then_ok ?_)
  refine wp_seq (wp_region_lit ?_)
  refine lW (.pointer (some ⟨p, 0, none⟩)) he1 rfl (rn_mv rfl (he1.op rfl) w) ?_
  intro a2 he2
  clear he1 a1
  refine lW (.bool false) he2 rfl (rn_eqPr1 rfl (he2.op rfl) (fun _ => rfl) w) ?_
  intro a3 he3
  clear he2 a2
  refine lW (.bool false) he3 rfl (rn_mv rfl (he3.op rfl) w) ?_
  intro a4 he4
  clear he3 a3
  refine lV (.pointer (some ⟨p, 0, none⟩)) he4 rfl rfl (he4.want rfl rfl rfl rfl rfl) (rn_mv rfl (he4.op rfl) w) ?_
  intro a5 he5
  clear he4 a4
  refine lV (.pointer (some ⟨p, 0, none⟩)) he5 rfl rfl (he5.want rfl rfl rfl rfl rfl) (rn_nilck rfl (he5.op rfl) w) ?_
  intro a6 he6
  clear he5 a5
  refine lV (.pointer (some ⟨p, 2, none⟩)) he6 rfl rfl (he6.want rfl rfl rfl rfl rfl) (rn_faH2 rfl (he6.op rfl) rfl w) ?_
  intro a7 he7
  clear he6 a6
  refine lV (.int .i64 pl) he7 rfl rfl (he7.want rfl rfl rfl rfl rfl) (rn_ld1 rfl (he7.op rfl) Tryd.underlying3 (hH.at (i := 0) rfl) rfl) ?_
  intro a8 he8
  clear he7 a7
  refine lV (.bool false) he8 rfl rfl (he8.want rfl rfl rfl rfl rfl) (rn_eqI rfl (he8.op rfl) (he8.op rfl) hpl w) ?_
  intro a9 he9
  clear he8 a8
  refine lW (.bool false) he9 rfl (rn_pk0 rfl (he9.op rfl) (he9.op rfl) w) ?_
  intro a10 he10
  clear he9 a9
  refine lW (.bool false) he10 rfl (rn_asg rfl (he10.op rfl) w) ?_
  intro a11 he11
  clear he10 a10
  refine wpList_nil (then_ok ?_)
  refine wp_ret ?_
  try simp only [Exit.then, Exit.inBlock]
  exact ret_env rfl he11 rfl ⟨rfl, hD.fr⟩
/-- A ring that is nil or zero. -/
def UmR (w : World) (a : Option Addr) : Prop := a = none ∨ ∃ q, a = some ⟨q, 0, none⟩ ∧ Blk w q 60 (rgCs (.slice none 0 0) 0 0 0 0)
theorem UmR.new {w w' : World} {a : Option Addr} (h : UmR w a) (hn : New w w') : UmR w' a := by
  rcases h with h | ⟨q, h1, h2⟩
  · exact .inl h
  · exact .inr ⟨q, h1, h2.fr hn (fun h => h)⟩
set_option linter.unusedSimpArgs false in
set_option maxRecDepth 100000 in
set_option maxHeartbeats 1600000 in
theorem rFirst (A : Option Addr) (n c p : Nat) (mo pl fi nx : Int) (w : World) (hB : Blk w p 60 (rgCs (.slice A n c) mo pl fi nx)) (hpl : (pl == 0) = false) (hT : Tab w) : Calls Tryd.prog 19 #[.pointer (some ⟨p, 0, none⟩)] w fun e w' => e = .returned (.int .i64 fi) ∧ New w w' := by
  refine calls_args (vl := [.pointer (some ⟨p, 0, none⟩)]) 9 Tryd.func19 rfl Tryd.ntmps19 (by kernel_rfl) (fun a he => ?_)
  have he0 : Env 9 [(0, .pointer (some ⟨p, 0, none⟩))] a := he
  clear he
  have hH := Hp.bare1 hB
  have hD := Dt.read1 hT hB.lt
  refine wp_seq (wp_region_lit ?_)
  refine lW (.int .i64 0) he0 rfl (rn_asg rfl (he0.op rfl) w) ?_
  intro a1 he1
  clear he0 a
  refine wpList_nil (then_ok ?_)
  refine wp_seq ?_
  refine wp_seq (wp_region_lit ?_)
  refine lW (.pointer (some ⟨p, 0, none⟩)) he1 rfl (rn_mv rfl (he1.op rfl) w) ?_
  intro a2 he2
  clear he1 a1
  refine lC he2 rfl rfl Tryd.func45 (by kernel_rfl) rfl rfl (wanted_plain rfl _) rfl (rUnmade_f _ _ _ _ mo pl fi nx w (hH.at (i := 0) rfl) hpl hD.tab) ?_
  intro w3 a4 hn he4
  have hH3 := hH.call hn
  replace hD := (hD).new hn
  clear he2 a2 hH hn
  refine wpList_nil (then_ok ?_)
  refine wp_cond_false (he4.op rfl) ?_
  refine wp_skip ?_
  refine then_ok ?_
  refine wp_seq (wp_region_lit ?_)
  refine lW (.pointer (some ⟨p, 0, none⟩)) he4 rfl (rn_mv rfl (he4.op rfl) w3) ?_
  intro a5 he5
  clear he4 a4
  refine lW (.pointer (some ⟨p, 0, none⟩)) he5 rfl (rn_nilck rfl (he5.op rfl) w3) ?_
  intro a6 he6
  clear he5 a5
  refine lW (.pointer (some ⟨p, 3, none⟩)) he6 rfl (rn_faH3 rfl (he6.op rfl) rfl w3) ?_
  intro a7 he7
  clear he6 a6
  refine lW (.int .i64 fi) he7 rfl (rn_ld1 rfl (he7.op rfl) Tryd.underlying3 (hH3.at (i := 0) rfl) rfl) ?_
  intro a8 he8
  clear he7 a7
  refine lW (.int .i64 fi) he8 rfl (rn_asg rfl (he8.op rfl) w3) ?_
  intro a9 he9
  clear he8 a8
  refine wpList_nil (then_ok ?_)
  refine wp_ret ?_
  try simp only [Exit.then, Exit.inBlock]
  exact ret_env rfl he9 rfl ⟨rfl, hD.fr⟩
set_option linter.unusedSimpArgs false in
set_option maxRecDepth 100000 in
set_option maxHeartbeats 1600000 in
theorem rNext (A : Option Addr) (n c p : Nat) (mo pl fi nx : Int) (w : World) (hB : Blk w p 60 (rgCs (.slice A n c) mo pl fi nx)) (hpl : (pl == 0) = false) (hT : Tab w) : Calls Tryd.prog 20 #[.pointer (some ⟨p, 0, none⟩)] w fun e w' => e = .returned (.int .i64 nx) ∧ New w w' := by
  refine calls_args (vl := [.pointer (some ⟨p, 0, none⟩)]) 9 Tryd.func20 rfl Tryd.ntmps20 (by kernel_rfl) (fun a he => ?_)
  have he0 : Env 9 [(0, .pointer (some ⟨p, 0, none⟩))] a := he
  clear he
  have hH := Hp.bare1 hB
  have hD := Dt.read1 hT hB.lt
  refine wp_seq (wp_region_lit ?_)
  refine lW (.int .i64 0) he0 rfl (rn_asg rfl (he0.op rfl) w) ?_
  intro a1 he1
  clear he0 a
  refine wpList_nil (then_ok ?_)
  refine wp_seq ?_
  refine wp_seq (wp_region_lit ?_)
  refine lW (.pointer (some ⟨p, 0, none⟩)) he1 rfl (rn_mv rfl (he1.op rfl) w) ?_
  intro a2 he2
  clear he1 a1
  refine lC he2 rfl rfl Tryd.func45 (by kernel_rfl) rfl rfl (wanted_plain rfl _) rfl (rUnmade_f _ _ _ _ mo pl fi nx w (hH.at (i := 0) rfl) hpl hD.tab) ?_
  intro w3 a4 hn he4
  have hH3 := hH.call hn
  replace hD := (hD).new hn
  clear he2 a2 hH hn
  refine wpList_nil (then_ok ?_)
  refine wp_cond_false (he4.op rfl) ?_
  refine wp_skip ?_
  refine then_ok ?_
  refine wp_seq (wp_region_lit ?_)
  refine lW (.pointer (some ⟨p, 0, none⟩)) he4 rfl (rn_mv rfl (he4.op rfl) w3) ?_
  intro a5 he5
  clear he4 a4
  refine lW (.pointer (some ⟨p, 0, none⟩)) he5 rfl (rn_nilck rfl (he5.op rfl) w3) ?_
  intro a6 he6
  clear he5 a5
  refine lW (.pointer (some ⟨p, 4, none⟩)) he6 rfl (rn_faH4 rfl (he6.op rfl) rfl w3) ?_
  intro a7 he7
  clear he6 a6
  refine lW (.int .i64 nx) he7 rfl (rn_ld1 rfl (he7.op rfl) Tryd.underlying3 (hH3.at (i := 0) rfl) rfl) ?_
  intro a8 he8
  clear he7 a7
  refine lW (.int .i64 nx) he8 rfl (rn_asg rfl (he8.op rfl) w3) ?_
  intro a9 he9
  clear he8 a8
  refine wpList_nil (then_ok ?_)
  refine wp_ret ?_
  try simp only [Exit.then, Exit.inBlock]
  exact ret_env rfl he9 rfl ⟨rfl, hD.fr⟩
set_option linter.unusedSimpArgs false in
set_option maxRecDepth 100000 in
set_option maxHeartbeats 1600000 in
theorem rMost (A : Option Addr) (n c p : Nat) (mo pl fi nx : Int) (w : World) (hB : Blk w p 60 (rgCs (.slice A n c) mo pl fi nx)) (hpl : (pl == 0) = false) (hT : Tab w) : Calls Tryd.prog 29 #[.pointer (some ⟨p, 0, none⟩)] w fun e w' => e = .returned (.int .i64 mo) ∧ New w w' := by
  refine calls_args (vl := [.pointer (some ⟨p, 0, none⟩)]) 9 Tryd.func29 rfl Tryd.ntmps29 (by kernel_rfl) (fun a he => ?_)
  have he0 : Env 9 [(0, .pointer (some ⟨p, 0, none⟩))] a := he
  clear he
  have hH := Hp.bare1 hB
  have hD := Dt.read1 hT hB.lt
  refine wp_seq (wp_region_lit ?_)
  refine lW (.int .i64 0) he0 rfl (rn_asg rfl (he0.op rfl) w) ?_
  intro a1 he1
  clear he0 a
  refine wpList_nil (then_ok ?_)
  refine wp_seq ?_
  refine wp_seq (wp_region_lit ?_)
  refine lW (.pointer (some ⟨p, 0, none⟩)) he1 rfl (rn_mv rfl (he1.op rfl) w) ?_
  intro a2 he2
  clear he1 a1
  refine lC he2 rfl rfl Tryd.func45 (by kernel_rfl) rfl rfl (wanted_plain rfl _) rfl (rUnmade_f _ _ _ _ mo pl fi nx w (hH.at (i := 0) rfl) hpl hD.tab) ?_
  intro w3 a4 hn he4
  have hH3 := hH.call hn
  replace hD := (hD).new hn
  clear he2 a2 hH hn
  refine wpList_nil (then_ok ?_)
  refine wp_cond_false (he4.op rfl) ?_
  refine wp_skip ?_
  refine then_ok ?_
  refine wp_seq (wp_region_lit ?_)
  refine lW (.pointer (some ⟨p, 0, none⟩)) he4 rfl (rn_mv rfl (he4.op rfl) w3) ?_
  intro a5 he5
  clear he4 a4
  refine lW (.pointer (some ⟨p, 0, none⟩)) he5 rfl (rn_nilck rfl (he5.op rfl) w3) ?_
  intro a6 he6
  clear he5 a5
  refine lW (.pointer (some ⟨p, 1, none⟩)) he6 rfl (rn_faH1 rfl (he6.op rfl) rfl w3) ?_
  intro a7 he7
  clear he6 a6
  refine lW (.int .i64 mo) he7 rfl (rn_ld1 rfl (he7.op rfl) Tryd.underlying3 (hH3.at (i := 0) rfl) rfl) ?_
  intro a8 he8
  clear he7 a7
  refine lW (.int .i64 mo) he8 rfl (rn_asg rfl (he8.op rfl) w3) ?_
  intro a9 he9
  clear he8 a8
  refine wpList_nil (then_ok ?_)
  refine wp_ret ?_
  try simp only [Exit.then, Exit.inBlock]
  exact ret_env rfl he9 rfl ⟨rfl, hD.fr⟩
set_option linter.unusedSimpArgs false in
set_option maxRecDepth 100000 in
set_option maxHeartbeats 1600000 in
theorem rPages (A : Option Addr) (n c p : Nat) (mo pl fi nx : Int) (w : World) (hB : Blk w p 60 (rgCs (.slice A n c) mo pl fi nx)) (hpl : (pl == 0) = false) (hT : Tab w) : Calls Tryd.prog 21 #[.pointer (some ⟨p, 0, none⟩)] w fun e w' => e = .returned (.int .i64 n) ∧ New w w' := by
  refine calls_args (vl := [.pointer (some ⟨p, 0, none⟩)]) 10 Tryd.func21 rfl Tryd.ntmps21 (by kernel_rfl) (fun a he => ?_)
  have he0 : Env 10 [(0, .pointer (some ⟨p, 0, none⟩))] a := he
  clear he
  have hH := Hp.bare1 hB
  have hD := Dt.read1 hT hB.lt
  refine wp_seq (wp_region_lit ?_)
  refine lW (.int .i64 0) he0 rfl (rn_asg rfl (he0.op rfl) w) ?_
  intro a1 he1
  clear he0 a
  refine wpList_nil (then_ok ?_)
  refine wp_seq ?_
  refine wp_seq (wp_region_lit ?_)
  refine lW (.pointer (some ⟨p, 0, none⟩)) he1 rfl (rn_mv rfl (he1.op rfl) w) ?_
  intro a2 he2
  clear he1 a1
  refine lC he2 rfl rfl Tryd.func45 (by kernel_rfl) rfl rfl (wanted_plain rfl _) rfl (rUnmade_f _ _ _ _ mo pl fi nx w (hH.at (i := 0) rfl) hpl hD.tab) ?_
  intro w3 a4 hn he4
  have hH3 := hH.call hn
  replace hD := (hD).new hn
  clear he2 a2 hH hn
  refine wpList_nil (then_ok ?_)
  refine wp_cond_false (he4.op rfl) ?_
  refine wp_skip ?_
  refine then_ok ?_
  refine wp_seq (wp_region_lit ?_)
  refine lW (.pointer (some ⟨p, 0, none⟩)) he4 rfl (rn_mv rfl (he4.op rfl) w3) ?_
  intro a5 he5
  clear he4 a4
  refine lW (.pointer (some ⟨p, 0, none⟩)) he5 rfl (rn_nilck rfl (he5.op rfl) w3) ?_
  intro a6 he6
  clear he5 a5
  refine lW (.pointer (some ⟨p, 0, none⟩)) he6 rfl (rn_faH0 rfl (he6.op rfl) rfl w3) ?_
  intro a7 he7
  clear he6 a6
  refine lW (.slice A n c) he7 rfl (rn_ldGps rfl (he7.op rfl) (hH3.at (i := 0) rfl) rfl) ?_
  intro a8 he8
  clear he7 a7
  refine lW (.int .i64 n) he8 rfl (rn_lenGp rfl (he8.op rfl) w3) ?_
  intro a9 he9
  clear he8 a8
  refine lW (.int .i64 n) he9 rfl (rn_asg rfl (he9.op rfl) w3) ?_
  intro a10 he10
  clear he9 a9
  refine wpList_nil (then_ok ?_)
  refine wp_ret ?_
  try simp only [Exit.then, Exit.inBlock]
  exact ret_env rfl he10 rfl ⟨rfl, hD.fr⟩
set_option linter.unusedSimpArgs false in
set_option maxRecDepth 100000 in
set_option maxHeartbeats 1600000 in
theorem rLen (A : Option Addr) (n c p : Nat) (mo pl fi nx : Int) (w : World) (hB : Blk w p 60 (rgCs (.slice A n c) mo pl fi nx)) (k : Nat) (hk : nx = fi + k) (hf : 0 ≤ fi) (hn : nx ≤ 4000000000) (hpl : (pl == 0) = false) (hT : Tab w) : Calls Tryd.prog 28 #[.pointer (some ⟨p, 0, none⟩)] w fun e w' => e = .returned (.int .i64 k) ∧ New w w' := by
  refine calls_args (vl := [.pointer (some ⟨p, 0, none⟩)]) 8 Tryd.func28 rfl Tryd.ntmps28 (by kernel_rfl) (fun a he => ?_)
  have he0 : Env 8 [(0, .pointer (some ⟨p, 0, none⟩))] a := he
  clear he
  have hH := Hp.bare1 hB
  have hD := Dt.read1 hT hB.lt
  refine wp_seq (wp_region_lit ?_)
  refine lW (.int .i64 0) he0 rfl (rn_asg rfl (he0.op rfl) w) ?_
  intro a1 he1
  clear he0 a
  refine wpList_nil (then_ok ?_)
  refine wp_seq (wp_region_lit ?_)
  refine lW (.pointer (some ⟨p, 0, none⟩)) he1 rfl (rn_mv rfl (he1.op rfl) w) ?_
  intro a2 he2
  clear he1 a1
  refine lC he2 rfl rfl Tryd.func20 (by kernel_rfl) rfl rfl (wanted_plain rfl _) rfl (rNext _ _ _ _ mo pl fi nx w (hH.at (i := 0) rfl) hpl hD.tab) ?_
  intro w3 a4 hn he4
  have hH3 := hH.call hn
  replace hD := (hD).new hn
  clear he2 a2 hH hn
  refine lW (.pointer (some ⟨p, 0, none⟩)) he4 rfl (rn_mv rfl (he4.op rfl) w3) ?_
  intro a5 he5
  clear he4 a4
  refine lC he5 rfl rfl Tryd.func19 (by kernel_rfl) rfl rfl (wanted_plain rfl _) rfl (rFirst _ _ _ _ mo pl fi nx w3 (hH3.at (i := 0) rfl) hpl hD.tab) ?_
  intro w6 a7 hn he7
  have hH6 := hH3.call hn
  replace hD := (hD).new hn
  clear he5 a5 hH3 hn
  refine lW (.int .i64 k) he7 rfl (rn_subI rfl (he7.op rfl) (he7.op rfl) (by rw [IntWalk.i64_in _ ⟨by omega, by omega⟩]; omega) w6) ?_
  intro a8 he8
  clear he7 a7
  refine lW (.int .i64 k) he8 rfl (rn_asg rfl (he8.op rfl) w6) ?_
  intro a9 he9
  clear he8 a8
  refine wpList_nil (then_ok ?_)
  refine wp_ret ?_
  try simp only [Exit.then, Exit.inBlock]
  exact ret_env rfl he9 rfl ⟨rfl, hD.fr⟩
set_option linter.unusedSimpArgs false in
set_option maxRecDepth 100000 in
set_option maxHeartbeats 1600000 in
theorem rAllowed (k : Int) (v : Bool) (hv : (decide (0 ≤ k) && decide (k ≤ 1048576)) = v) (w : World) : Calls Tryd.prog 33 #[.int .i64 k] w fun e w' => e = .returned (.bool v) ∧ New w w' := by
  subst hv
  by_cases h0 : 0 ≤ k
  · skip
    refine calls_args (vl := [.int .i64 k]) 9 Tryd.func33 rfl Tryd.ntmps33 (by kernel_rfl) (fun a he => ?_)
    have he0 : Env 9 [(0, .int .i64 k)] a := he
    clear he
    have hH := Hp.start w
    refine wp_seq (wp_region_lit ?_)
    refine lW (.bool false) he0 rfl (rn_asg rfl (he0.op rfl) w) ?_
    intro a1 he1
    clear he0 a
    refine wpList_nil (then_ok ?_)
    obtain ⟨b, hb⟩ : ∃ b, decide (k ≤ 1048576) = b := ⟨_, rfl⟩
    rw [decide_eq_true h0, Bool.true_and, hb]
    refine wp_seq (wp_region_lit ?_)
    refine lW (.int .i64 k) he1 rfl (rn_mv rfl (he1.op rfl) w) ?_
    intro a2 he2
    clear he1 a1
    refine lW (.bool true) he2 rfl (rn_geq rfl (he2.op rfl) (he2.op rfl) (decide_eq_true h0) w) ?_
    intro a3 he3
    clear he2 a2
    refine lW (.bool true) he3 rfl (rn_mv rfl (he3.op rfl) w) ?_
    intro a4 he4
    clear he3 a3
    refine lV (.int .i64 k) he4 rfl rfl (he4.want rfl rfl rfl rfl rfl) (rn_mv rfl (he4.op rfl) w) ?_
    intro a5 he5
    clear he4 a4
    refine lV (.bool b) he5 rfl rfl (he5.want rfl rfl rfl rfl rfl) (rn_leq rfl (he5.op rfl) (he5.op rfl) hb w) ?_
    intro a6 he6
    clear he5 a5
    refine lW (.bool b) he6 rfl (rn_pk rfl (he6.op rfl) (he6.op rfl) w) ?_
    intro a7 he7
    clear he6 a6
    refine lW (.bool b) he7 rfl (rn_asg rfl (he7.op rfl) w) ?_
    intro a8 he8
    clear he7 a7
    refine wpList_nil (then_ok ?_)
    refine wp_ret ?_
    try simp only [Exit.then, Exit.inBlock]
    exact ret_env rfl he8 rfl ⟨rfl, hH.new⟩
  refine calls_args (vl := [.int .i64 k]) 9 Tryd.func33 rfl Tryd.ntmps33 (by kernel_rfl) (fun a he => ?_)
  have he0 : Env 9 [(0, .int .i64 k)] a := he
  clear he
  have hH := Hp.start w
  refine wp_seq (wp_region_lit ?_)
  refine lW (.bool false) he0 rfl (rn_asg rfl (he0.op rfl) w) ?_
  intro a1 he1
  clear he0 a
  refine wpList_nil (then_ok ?_)
  rw [decide_eq_false h0, Bool.false_and]
  refine wp_seq (wp_region_lit ?_)
  refine lW (.int .i64 k) he1 rfl (rn_mv rfl (he1.op rfl) w) ?_
  intro a2 he2
  clear he1 a1
  refine lW (.bool false) he2 rfl (rn_geq rfl (he2.op rfl) (he2.op rfl) (decide_eq_false h0) w) ?_
  intro a3 he3
  clear he2 a2
  refine lW (.bool false) he3 rfl (rn_mv rfl (he3.op rfl) w) ?_
  intro a4 he4
  clear he3 a3
  refine lSkip he4 rfl rfl (he4.wantNot rfl rfl rfl rfl rfl rfl) ?_
  intro a5 he5
  clear he4 a4
  refine lSkip he5 rfl rfl (he5.wantNot rfl rfl rfl rfl rfl rfl) ?_
  intro a6 he6
  clear he5 a5
  refine lW (.bool false) he6 rfl (rn_pk0 rfl (he6.op rfl) (he6.op rfl) w) ?_
  intro a7 he7
  clear he6 a6
  refine lW (.bool false) he7 rfl (rn_asg rfl (he7.op rfl) w) ?_
  intro a8 he8
  clear he7 a7
  refine wpList_nil (then_ok ?_)
  refine wp_ret ?_
  try simp only [Exit.then, Exit.inBlock]
  exact ret_env rfl he8 rfl ⟨rfl, hH.new⟩
set_option linter.unusedSimpArgs false in
set_option maxRecDepth 100000 in
set_option maxHeartbeats 1600000 in
theorem rMissing (A : Option Addr) (n c p : Nat) (mo pl fi nx : Int) (w : World) (hB : Blk w p 60 (rgCs (.slice A n c) mo pl fi nx)) (i : Int) (hT : Tab w) : Calls Tryd.prog 52 #[.pointer (some ⟨p, 0, none⟩), .int .i64 i] w fun e w' => e = .returned (.int .i64 (if i < 0 ∨ nx ≤ i then 3 else if i < fi then 14 else 0)) ∧ New w w' := by
  refine calls_args (vl := [.pointer (some ⟨p, 0, none⟩), .int .i64 i]) 23 Tryd.func52 rfl Tryd.ntmps52 (by kernel_rfl) (fun a he => ?_)
  have he0 : Env 23 [(0, .pointer (some ⟨p, 0, none⟩)), (1, .int .i64 i)] a := he
  clear he
  have hH := Hp.bare1 hB
  have hD := Dt.read1 hT hB.lt
  refine wp_seq (wp_region_lit ?_)
  refine lW (.int .i64 0) he0 rfl (rn_asg rfl (he0.op rfl) w) ?_
  intro a1 he1
  clear he0 a
  refine wpList_nil (then_ok ?_)
  refine wp_seq ?_
  refine wp_block ?_
  by_cases h0 : i < 0
  · skip
    refine wp_seq (wp_region_lit ?_)
    refine lW (.int .i64 i) he1 rfl (rn_mv rfl (he1.op rfl) w) ?_
    intro a2 he2
    clear he1 a1
    refine lW (.bool true) he2 rfl (rn_lss rfl (he2.op rfl) (he2.op rfl) (decide_eq_true h0) w) ?_
    intro a3 he3
    clear he2 a2
    refine lW (.bool true) he3 rfl (rn_mv rfl (he3.op rfl) w) ?_
    intro a4 he4
    clear he3 a3
    refine lSkip he4 rfl rfl (he4.wantNot rfl rfl rfl rfl rfl rfl) ?_
    intro a5 he5
    clear he4 a4
    refine lSkip he5 rfl rfl (he5.wantNot rfl rfl rfl rfl rfl rfl) ?_
    intro a6 he6
    clear he5 a5
    refine lSkip he6 rfl rfl (he6.wantNot rfl rfl rfl rfl rfl rfl) ?_
    intro a7 he7
    clear he6 a6
    refine lSkip he7 rfl rfl (he7.wantNot rfl rfl rfl rfl rfl rfl) ?_
    intro a8 he8
    clear he7 a7
    refine lSkip he8 rfl rfl (he8.wantNot rfl rfl rfl rfl rfl rfl) ?_
    intro a9 he9
    clear he8 a8
    refine lSkip he9 rfl rfl (he9.wantNot rfl rfl rfl rfl rfl rfl) ?_
    intro a10 he10
    clear he9 a9
    refine lW (.bool true) he10 rfl (rn_pk rfl (he10.op rfl) (he10.op rfl) w) ?_
    intro a11 he11
    clear he10 a10
    refine lW (.bool true) he11 rfl (rn_asg rfl (he11.op rfl) w) ?_
    intro a12 he12
    clear he11 a11
    refine wpList_nil (then_ok ?_)
    refine wp_cond_true (he12.op rfl) ?_
    refine wp_seq (wp_region_lit ?_)
    refine lW (.int .i64 3) he12 rfl (rn_asg rfl (he12.op rfl) w) ?_
    intro a13 he13
    clear he12 a12
    refine wpList_nil (then_ok ?_)
    rw [if_pos (.inl h0)]
    refine wp_ret ?_
    try simp only [Exit.then, Exit.inBlock]
    exact ret_env rfl he13 rfl ⟨rfl, hD.fr⟩
  by_cases h1 : nx ≤ i
  · skip
    refine wp_seq (wp_region_lit ?_)
    refine lW (.int .i64 i) he1 rfl (rn_mv rfl (he1.op rfl) w) ?_
    intro a14 he14
    clear he1 a1
    refine lW (.bool false) he14 rfl (rn_lss rfl (he14.op rfl) (he14.op rfl) (decide_eq_false h0) w) ?_
    intro a15 he15
    clear he14 a14
    refine lW (.bool false) he15 rfl (rn_mv rfl (he15.op rfl) w) ?_
    intro a16 he16
    clear he15 a15
    refine lV (.int .i64 i) he16 rfl rfl (he16.want rfl rfl rfl rfl rfl) (rn_mv rfl (he16.op rfl) w) ?_
    intro a17 he17
    clear he16 a16
    refine lV (.pointer (some ⟨p, 0, none⟩)) he17 rfl rfl (he17.want rfl rfl rfl rfl rfl) (rn_mv rfl (he17.op rfl) w) ?_
    intro a18 he18
    clear he17 a17
    refine lV (.pointer (some ⟨p, 0, none⟩)) he18 rfl rfl (he18.want rfl rfl rfl rfl rfl) (rn_nilck rfl (he18.op rfl) w) ?_
    intro a19 he19
    clear he18 a18
    refine lV (.pointer (some ⟨p, 4, none⟩)) he19 rfl rfl (he19.want rfl rfl rfl rfl rfl) (rn_faH4 rfl (he19.op rfl) rfl w) ?_
    intro a20 he20
    clear he19 a19
    refine lV (.int .i64 nx) he20 rfl rfl (he20.want rfl rfl rfl rfl rfl) (rn_ld1 rfl (he20.op rfl) Tryd.underlying3 (hH.at (i := 0) rfl) rfl) ?_
    intro a21 he21
    clear he20 a20
    refine lV (.bool true) he21 rfl rfl (he21.want rfl rfl rfl rfl rfl) (rn_geq rfl (he21.op rfl) (he21.op rfl) (decide_eq_true h1) w) ?_
    intro a22 he22
    clear he21 a21
    refine lW (.bool true) he22 rfl (rn_pk0 rfl (he22.op rfl) (he22.op rfl) w) ?_
    intro a23 he23
    clear he22 a22
    refine lW (.bool true) he23 rfl (rn_asg rfl (he23.op rfl) w) ?_
    intro a24 he24
    clear he23 a23
    refine wpList_nil (then_ok ?_)
    refine wp_cond_true (he24.op rfl) ?_
    refine wp_seq (wp_region_lit ?_)
    refine lW (.int .i64 3) he24 rfl (rn_asg rfl (he24.op rfl) w) ?_
    intro a25 he25
    clear he24 a24
    refine wpList_nil (then_ok ?_)
    rw [if_pos (.inr h1)]
    refine wp_ret ?_
    try simp only [Exit.then, Exit.inBlock]
    exact ret_env rfl he25 rfl ⟨rfl, hD.fr⟩
  refine wp_seq (wp_region_lit ?_)
  refine lW (.int .i64 i) he1 rfl (rn_mv rfl (he1.op rfl) w) ?_
  intro a26 he26
  clear he1 a1
  refine lW (.bool false) he26 rfl (rn_lss rfl (he26.op rfl) (he26.op rfl) (decide_eq_false h0) w) ?_
  intro a27 he27
  clear he26 a26
  refine lW (.bool false) he27 rfl (rn_mv rfl (he27.op rfl) w) ?_
  intro a28 he28
  clear he27 a27
  refine lV (.int .i64 i) he28 rfl rfl (he28.want rfl rfl rfl rfl rfl) (rn_mv rfl (he28.op rfl) w) ?_
  intro a29 he29
  clear he28 a28
  refine lV (.pointer (some ⟨p, 0, none⟩)) he29 rfl rfl (he29.want rfl rfl rfl rfl rfl) (rn_mv rfl (he29.op rfl) w) ?_
  intro a30 he30
  clear he29 a29
  refine lV (.pointer (some ⟨p, 0, none⟩)) he30 rfl rfl (he30.want rfl rfl rfl rfl rfl) (rn_nilck rfl (he30.op rfl) w) ?_
  intro a31 he31
  clear he30 a30
  refine lV (.pointer (some ⟨p, 4, none⟩)) he31 rfl rfl (he31.want rfl rfl rfl rfl rfl) (rn_faH4 rfl (he31.op rfl) rfl w) ?_
  intro a32 he32
  clear he31 a31
  refine lV (.int .i64 nx) he32 rfl rfl (he32.want rfl rfl rfl rfl rfl) (rn_ld1 rfl (he32.op rfl) Tryd.underlying3 (hH.at (i := 0) rfl) rfl) ?_
  intro a33 he33
  clear he32 a32
  refine lV (.bool false) he33 rfl rfl (he33.want rfl rfl rfl rfl rfl) (rn_geq rfl (he33.op rfl) (he33.op rfl) (decide_eq_false h1) w) ?_
  intro a34 he34
  clear he33 a33
  refine lW (.bool false) he34 rfl (rn_pk0 rfl (he34.op rfl) (he34.op rfl) w) ?_
  intro a35 he35
  clear he34 a34
  refine lW (.bool false) he35 rfl (rn_asg rfl (he35.op rfl) w) ?_
  intro a36 he36
  clear he35 a35
  refine wpList_nil (then_ok ?_)
  refine wp_cond_false (he36.op rfl) ?_
  rw [if_neg (by omega)]
  by_cases h2 : i < fi
  · skip
    refine wp_seq (wp_region_lit ?_)
    refine lW (.int .i64 i) he36 rfl (rn_mv rfl (he36.op rfl) w) ?_
    intro a37 he37
    clear he36 a36
    refine lW (.pointer (some ⟨p, 0, none⟩)) he37 rfl (rn_mv rfl (he37.op rfl) w) ?_
    intro a38 he38
    clear he37 a37
    refine lW (.pointer (some ⟨p, 0, none⟩)) he38 rfl (rn_nilck rfl (he38.op rfl) w) ?_
    intro a39 he39
    clear he38 a38
    refine lW (.pointer (some ⟨p, 3, none⟩)) he39 rfl (rn_faH3 rfl (he39.op rfl) rfl w) ?_
    intro a40 he40
    clear he39 a39
    refine lW (.int .i64 fi) he40 rfl (rn_ld1 rfl (he40.op rfl) Tryd.underlying3 (hH.at (i := 0) rfl) rfl) ?_
    intro a41 he41
    clear he40 a40
    refine lW (.bool true) he41 rfl (rn_lss rfl (he41.op rfl) (he41.op rfl) (decide_eq_true h2) w) ?_
    intro a42 he42
    clear he41 a41
    refine lW (.bool true) he42 rfl (rn_asg rfl (he42.op rfl) w) ?_
    intro a43 he43
    clear he42 a42
    refine wpList_nil (then_ok ?_)
    refine wp_cond_true (he43.op rfl) ?_
    refine wp_seq (wp_region_lit ?_)
    refine lW (.int .i64 14) he43 rfl (rn_asg rfl (he43.op rfl) w) ?_
    intro a44 he44
    clear he43 a43
    refine wpList_nil (then_ok ?_)
    rw [if_pos h2]
    refine wp_ret ?_
    try simp only [Exit.then, Exit.inBlock]
    exact ret_env rfl he44 rfl ⟨rfl, hD.fr⟩
  refine wp_seq (wp_region_lit ?_)
  refine lW (.int .i64 i) he36 rfl (rn_mv rfl (he36.op rfl) w) ?_
  intro a45 he45
  clear he36 a36
  refine lW (.pointer (some ⟨p, 0, none⟩)) he45 rfl (rn_mv rfl (he45.op rfl) w) ?_
  intro a46 he46
  clear he45 a45
  refine lW (.pointer (some ⟨p, 0, none⟩)) he46 rfl (rn_nilck rfl (he46.op rfl) w) ?_
  intro a47 he47
  clear he46 a46
  refine lW (.pointer (some ⟨p, 3, none⟩)) he47 rfl (rn_faH3 rfl (he47.op rfl) rfl w) ?_
  intro a48 he48
  clear he47 a47
  refine lW (.int .i64 fi) he48 rfl (rn_ld1 rfl (he48.op rfl) Tryd.underlying3 (hH.at (i := 0) rfl) rfl) ?_
  intro a49 he49
  clear he48 a48
  refine lW (.bool false) he49 rfl (rn_lss rfl (he49.op rfl) (he49.op rfl) (decide_eq_false h2) w) ?_
  intro a50 he50
  clear he49 a49
  refine lW (.bool false) he50 rfl (rn_asg rfl (he50.op rfl) w) ?_
  intro a51 he51
  clear he50 a50
  refine wpList_nil (then_ok ?_)
  refine wp_cond_false (he51.op rfl) ?_
  rw [if_neg h2]
  refine wp_skip ?_
  refine block_ok ?_
  refine then_ok ?_
  refine wp_seq (wp_region_lit ?_)
  refine lW (.int .i64 0) he51 rfl (rn_asg rfl (he51.op rfl) w) ?_
  intro a52 he52
  clear he51 a51
  refine wpList_nil (then_ok ?_)
  refine wp_ret ?_
  try simp only [Exit.then, Exit.inBlock]
  exact ret_env rfl he52 rfl ⟨rfl, hD.fr⟩
set_option linter.unusedSimpArgs false in
set_option maxRecDepth 100000 in
set_option maxHeartbeats 1600000 in
theorem rFind (p pl k : Nat) (mo fi nx : Int) (X : List PV) (F : FP) (w : World) (hs : (rawD p mo pl fi nx (X.map (·.q)) X).P w F) (hp1 : 1 ≤ pl) (hp2 : pl ≤ 1024) (_ : 0 ≤ fi) (_ : fi + k ≤ 4000000000) (hk2 : k ≤ 4000000000) (hT : Tab w) : Calls Tryd.prog 46 #[.pointer (some ⟨p, 0, none⟩), .int .i64 (fi + k)] w fun e w' => e = .returned (.tuple #[.int .i64 ((fndP pl (g0P (X.map PV.pg)) k).1 : Nat), .int .i64 ((fndP pl (g0P (X.map PV.pg)) k).2 : Nat)]) ∧ New w w' := by
  obtain ⟨A, c, G, hB, hsep, hG, hFp, hGp⟩ := hs
  obtain ⟨F1, F2, hrow, hpag, -⟩ := hsep
  have hrow : OwnO rPt w F1 (.slice A (X.map (·.q)).length c) ((X.map (·.q)).map some) := hrow
  have hpag : (pagsD pl X).P w F2 := hpag.the
  obtain ⟨g0, hg0⟩ : ∃ g, g0P (X.map PV.pg) = g := ⟨_, rfl⟩
  have hgl : g0 ≤ 1024 := by
    subst hg0
    cases X with
    | nil => exact Nat.zero_le _
    | cons x X =>
      obtain ⟨U, V, k1, _⟩ := hpag
      have := (sh_ok k1).2.2.1
      show x.gn ≤ 1024
      omega
  rw [hg0]
  obtain ⟨m, hm⟩ : ∃ m, (X.map (·.q)).length = m := ⟨_, rfl⟩
  rw [hm] at hB hrow
  have hmX : X.length = m := by simpa using hm
  refine calls_args (vl := [.pointer (some ⟨p, 0, none⟩), .int .i64 (fi + k)]) 48 Tryd.func46 rfl Tryd.ntmps46 (by kernel_rfl) (fun a he => ?_)
  have he0 : Env 48 [(0, .pointer (some ⟨p, 0, none⟩)), (1, .int .i64 (fi + k))] a := he
  clear he
  have hH := Hp.bare1 hB
  have hD := Dt.read1 hT hB.lt
  refine wp_seq (wp_region_lit ?_)
  refine lW (.int .i64 0) he0 rfl (rn_asg rfl (he0.op rfl) w) ?_
  intro a1 he1
  clear he0 a
  refine lW (.int .i64 0) he1 rfl (rn_asg rfl (he1.op rfl) w) ?_
  intro a2 he2
  clear he1 a1
  refine wpList_nil (then_ok ?_)
  refine wp_seq (wp_region_lit ?_)
  refine lW (.int .i64 0) he2 rfl (rn_asg rfl (he2.op rfl) w) ?_
  intro a3 he3
  clear he2 a2
  refine wpList_nil (then_ok ?_)
  have hj : 0 < m ∨ m = 0 := by omega
  refine wp_seq ?_
  refine reg_cut (fun a w1 => Env 48 [(0, .pointer (some ⟨p, 0, none⟩)), (1, .int .i64 (fi + k)), (6, .int .i64 g0)] a ∧ Hp (bare w) [⟨p, 60, #[.slice A m c, .int .i64 mo, .int .i64 pl, .int .i64 fi, .int .i64 nx]⟩] w1 ∧ Dt (bare w) w (fun _ => False) 1 [p] [] w1) ?_ ?_
  · skip
    rcases hj with hj | hj
    · skip
      refine wp_seq (wp_region_lit ?_)
      refine lW (.pointer (some ⟨p, 0, none⟩)) he3 rfl (rn_mv rfl (he3.op rfl) w) ?_
      intro a4 he4
      clear he3 a3
      refine lW (.pointer (some ⟨p, 0, none⟩)) he4 rfl (rn_nilck rfl (he4.op rfl) w) ?_
      intro a5 he5
      clear he4 a4
      refine lW (.pointer (some ⟨p, 0, none⟩)) he5 rfl (rn_faH0 rfl (he5.op rfl) rfl w) ?_
      intro a6 he6
      clear he5 a5
      refine lW (.slice A m c) he6 rfl (rn_ldGps rfl (he6.op rfl) (hH.at (i := 0) rfl) rfl) ?_
      intro a7 he7
      clear he6 a6
      refine lW (.int .i64 m) he7 rfl (rn_lenGp rfl (he7.op rfl) w) ?_
      intro a8 he8
      clear he7 a7
      refine lW (.bool true) he8 rfl (rn_gtr rfl (he8.op rfl) (he8.op rfl) (decide_eq_true (by omega)) w) ?_
      intro a9 he9
      clear he8 a8
      refine wpList_nil (then_ok ?_)
      refine wp_cond_true (he9.op rfl) ?_
      obtain ⟨x, X, rfl⟩ : ∃ x Y, X = x :: Y := by cases X with | nil => simp at hmX; omega | cons x Y => exact ⟨x, Y, rfl⟩
      have eg : x.gn = g0 := hg0
      subst eg
      obtain ⟨U, V, k1, -⟩ := hpag
      have k1 : (shD x.q x.L pl x.gn).P w U := k1
      obtain ⟨bb, hrd, -, -, -⟩ := hrow.rdg
      obtain ⟨oo, eA⟩ := hrd.base (by omega)
      subst eA
      replace hrd := RdG.new hrd hD.fr
      refine wp_region_lit ?_
      refine lW (.pointer (some ⟨p, 0, none⟩)) he9 rfl (rn_mv rfl (he9.op rfl) w) ?_
      intro a10 he10
      clear he9 a9
      refine lW (.pointer (some ⟨p, 0, none⟩)) he10 rfl (rn_nilck rfl (he10.op rfl) w) ?_
      intro a11 he11
      clear he10 a10
      refine lW (.pointer (some ⟨p, 0, none⟩)) he11 rfl (rn_faH0 rfl (he11.op rfl) rfl w) ?_
      intro a12 he12
      clear he11 a11
      refine lW (.slice (some ⟨bb, oo, none⟩) m c) he12 rfl (rn_ldGps rfl (he12.op rfl) (hH.at (i := 0) rfl) rfl) ?_
      intro a13 he13
      clear he12 a12
      refine lW (.pointer (some ⟨bb, oo + 0 * 1, none⟩)) he13 rfl (rn_idxGp (i := 0) rfl (he13.op rfl) rfl (by omega) (by rw [addr_add]) w) ?_
      intro a14 he14
      clear he13 a13
      refine lW (.pointer (some ⟨x.q, 0, none⟩)) he14 rfl (rn_ldPt (i := 0) rfl (he14.op rfl) hrd rfl rfl) ?_
      intro a15 he15
      clear he14 a14
      refine lC he15 rfl rfl Tryd.func62 (by kernel_rfl) rfl rfl (wanted_plain rfl _) rfl (goneS_b U x.q pl x.gn x.L w ((shD _ _ _ _).fr k1 hD.fr (fun _ _ h => h)) hD.tab) ?_
      intro w16 a17 hn he17
      have hH16 := hH.call hn
      replace hD := (hD).new hn
      replace hrd := hrd.new hn
      clear he15 a15 hH hn
      refine lW (.int .i64 x.gn) he17 rfl (rn_asg rfl (he17.op rfl) w16) ?_
      intro a18 he18
      clear he17 a17
      refine wpList_nil ?_
      exact ⟨he18.mem ⟨rfl, rfl, rfl, trivial⟩, hH16, hD⟩
    refine wp_seq (wp_region_lit ?_)
    refine lW (.pointer (some ⟨p, 0, none⟩)) he3 rfl (rn_mv rfl (he3.op rfl) w) ?_
    intro a19 he19
    clear he3 a3
    refine lW (.pointer (some ⟨p, 0, none⟩)) he19 rfl (rn_nilck rfl (he19.op rfl) w) ?_
    intro a20 he20
    clear he19 a19
    refine lW (.pointer (some ⟨p, 0, none⟩)) he20 rfl (rn_faH0 rfl (he20.op rfl) rfl w) ?_
    intro a21 he21
    clear he20 a20
    refine lW (.slice A m c) he21 rfl (rn_ldGps rfl (he21.op rfl) (hH.at (i := 0) rfl) rfl) ?_
    intro a22 he22
    clear he21 a21
    refine lW (.int .i64 m) he22 rfl (rn_lenGp rfl (he22.op rfl) w) ?_
    intro a23 he23
    clear he22 a22
    refine lW (.bool false) he23 rfl (rn_gtr rfl (he23.op rfl) (he23.op rfl) (decide_eq_false (by omega)) w) ?_
    intro a24 he24
    clear he23 a23
    refine wpList_nil (then_ok ?_)
    refine wp_cond_false (he24.op rfl) ?_
    have e0 : g0 = 0 := by subst hg0; cases X with | nil => rfl | cons x Y => simp at hmX; omega
    subst e0
    refine wp_skip ?_
    exact ⟨he24.mem ⟨rfl, rfl, rfl, trivial⟩, hH, hD⟩
  clear he3 hH hD
  rintro a9 w9 ⟨he9, hH9, hD⟩
  refine wp_seq (wp_region_lit ?_)
  refine lW (.int .i64 (fi + k)) he9 rfl (rn_mv rfl (he9.op rfl) w9) ?_
  intro a25 he25
  clear he9 a9
  refine lW (.pointer (some ⟨p, 0, none⟩)) he25 rfl (rn_mv rfl (he25.op rfl) w9) ?_
  intro a26 he26
  clear he25 a25
  refine lW (.pointer (some ⟨p, 0, none⟩)) he26 rfl (rn_nilck rfl (he26.op rfl) w9) ?_
  intro a27 he27
  clear he26 a26
  refine lW (.pointer (some ⟨p, 3, none⟩)) he27 rfl (rn_faH3 rfl (he27.op rfl) rfl w9) ?_
  intro a28 he28
  clear he27 a27
  refine lW (.int .i64 fi) he28 rfl (rn_ld1 rfl (he28.op rfl) Tryd.underlying3 (hH9.at (i := 0) rfl) rfl) ?_
  intro a29 he29
  clear he28 a28
  refine lW (.int .i64 k) he29 rfl (rn_subI rfl (he29.op rfl) (he29.op rfl) (by rw [IntWalk.i64_in _ ⟨by omega, by omega⟩]; omega) w9) ?_
  intro a30 he30
  clear he29 a29
  refine lW (.int .i64 g0) he30 rfl (rn_mv rfl (he30.op rfl) w9) ?_
  intro a31 he31
  clear he30 a30
  refine lW (.int .i64 ((k + g0 : Nat) : Int)) he31 rfl (rn_add1 rfl (he31.op rfl) (he31.op rfl) (by rw [IntWalk.i64_in _ ⟨by omega, by omega⟩]; omega) w9) ?_
  intro a32 he32
  clear he31 a31
  refine lW (.int .i64 ((k + g0 : Nat) : Int)) he32 rfl (rn_asg rfl (he32.op rfl) w9) ?_
  intro a33 he33
  clear he32 a32
  refine wpList_nil (then_ok ?_)
  have hq1 : ((k + g0 : Nat) : Int).tdiv (pl : Nat) = (((k + g0) / pl : Nat) : Int) := rfl
  have hq2 : ((k + g0 : Nat) : Int).tmod (pl : Nat) = (((k + g0) % pl : Nat) : Int) := rfl
  have hq3 : (k + g0) / pl ≤ k + g0 := Nat.div_le_self _ _
  have hq4 : (k + g0) % pl ≤ k + g0 := Nat.mod_le _ _
  obtain ⟨pg, hpg⟩ : ∃ q, (k + g0) / pl = q := ⟨_, rfl⟩
  obtain ⟨ix, hix⟩ : ∃ q, (k + g0) % pl = q := ⟨_, rfl⟩
  have hfd : fndP pl g0 k = (pg, if pg = 0 then ix - g0 else ix) := by unfold fndP; rw [hpg, hix]
  rw [hfd]
  rw [hpg] at hq1 hq3
  rw [hix] at hq2 hq4
  refine wp_seq ?_
  refine wp_region_held_drew (S := Hp (bare w) [⟨p, 60, #[.slice A m c, .int .i64 mo, .int .i64 pl, .int .i64 fi, .int .i64 nx]⟩]) (by kernel_rfl) (hH9.drew) (fun _ => ?_)
  have hn : New w9 (World.drew w9) := (Fr.refl _ _).drew
  replace hD := (hD).new hn
  clear hn
  have hH34 := hH9.drew
  clear hH9
  generalize World.drew w9 = w34 at *
  refine hW (fuel := 13) (i := 0) (.int .i64 ((k + g0 : Nat) : Int)) he33 rfl (by kernel_rfl) (fun _ _ _ h => h) (fun w' _ => rn_mv rfl (he33.op rfl) w') hH34 ?_
  intro a35 he35
  clear he33 a33
  refine hW (fuel := 12) (i := 1) (.pointer (some ⟨p, 0, none⟩)) he35 rfl (by kernel_rfl) (fun _ _ _ h => h) (fun w' _ => rn_mv rfl (he35.op rfl) w') hH34 ?_
  intro a36 he36
  clear he35 a35
  refine hW (fuel := 11) (i := 2) (.pointer (some ⟨p, 0, none⟩)) he36 rfl (by kernel_rfl) (fun _ _ _ h => h) (fun w' _ => rn_nilck rfl (he36.op rfl) w') hH34 ?_
  intro a37 he37
  clear he36 a36
  refine hW (fuel := 10) (i := 3) (.pointer (some ⟨p, 2, none⟩)) he37 rfl (by kernel_rfl) (fun _ _ _ h => h) (fun w' _ => rn_faH2 rfl (he37.op rfl) rfl w') hH34 ?_
  intro a38 he38
  clear he37 a37
  refine hW (fuel := 9) (i := 4) (.int .i64 pl) he38 rfl (by kernel_rfl) (fun _ _ _ h => h) (fun w' hw' => rn_ld1 rfl (he38.op rfl) Tryd.underlying3 (hw'.at (i := 0) rfl) rfl) hH34 ?_
  intro a39 he39
  clear he38 a38
  refine hW (fuel := 8) (i := 5) (.int .i64 pg) he39 rfl (by kernel_rfl) (fun _ _ _ h => h) (fun w' _ => rn_quoI rfl (he39.op rfl) (he39.op rfl) (by omega) (by rw [hq1, IntWalk.i64_in _ ⟨by omega, by omega⟩]) w') hH34 ?_
  intro a40 he40
  clear he39 a39
  refine hW (fuel := 7) (i := 6) (.int .i64 ((k + g0 : Nat) : Int)) he40 rfl (by kernel_rfl) (fun _ _ _ h => h) (fun w' _ => rn_mv rfl (he40.op rfl) w') hH34 ?_
  intro a41 he41
  clear he40 a40
  refine hW (fuel := 6) (i := 7) (.pointer (some ⟨p, 0, none⟩)) he41 rfl (by kernel_rfl) (fun _ _ _ h => h) (fun w' _ => rn_mv rfl (he41.op rfl) w') hH34 ?_
  intro a42 he42
  clear he41 a41
  refine hW (fuel := 5) (i := 8) (.pointer (some ⟨p, 0, none⟩)) he42 rfl (by kernel_rfl) (fun _ _ _ h => h) (fun w' _ => rn_nilck rfl (he42.op rfl) w') hH34 ?_
  intro a43 he43
  clear he42 a42
  refine hW (fuel := 4) (i := 9) (.pointer (some ⟨p, 2, none⟩)) he43 rfl (by kernel_rfl) (fun _ _ _ h => h) (fun w' _ => rn_faH2 rfl (he43.op rfl) rfl w') hH34 ?_
  intro a44 he44
  clear he43 a43
  refine hW (fuel := 3) (i := 10) (.int .i64 pl) he44 rfl (by kernel_rfl) (fun _ _ _ h => h) (fun w' hw' => rn_ld1 rfl (he44.op rfl) Tryd.underlying3 (hw'.at (i := 0) rfl) rfl) hH34 ?_
  intro a45 he45
  clear he44 a44
  refine hW (fuel := 2) (i := 11) (.int .i64 ix) he45 rfl (by kernel_rfl) (fun _ _ _ h => h) (fun w' _ => rn_remI rfl (he45.op rfl) (he45.op rfl) (by omega) hq2 w') hH34 ?_
  intro a46 he46
  clear he45 a45
  refine hW (fuel := 1) (i := 12) (.int .i64 pg) he46 rfl (by kernel_rfl) (fun _ _ _ h => h) (fun w' _ => rn_asg rfl (he46.op rfl) w') hH34 ?_
  intro a47 he47
  clear he46 a46
  refine hW (fuel := 0) (i := 13) (.int .i64 ix) he47 rfl (by kernel_rfl) (fun _ _ _ h => h) (fun w' _ => rn_asg rfl (he47.op rfl) w') hH34 ?_
  intro a48 he48
  clear he47 a47
  refine wpAnyH_done (by kernel_rfl) ?_ _
  refine then_ok ?_
  refine wp_seq ?_
  refine wp_seq ?_
  by_cases hz : pg = 0
  · skip
    subst hz
    have hg9 : g0 ≤ ix := by have := Nat.div_add_mod (k + g0) pl; rw [hpg, hix] at this; omega
    refine wp_region_lit ?_
    refine lW (.int .i64 (0 : Nat)) he48 rfl (rn_mv rfl (he48.op rfl) w34) ?_
    intro a49 he49
    clear he48 a48
    refine lW (.bool true) he49 rfl (rn_eqI rfl (he49.op rfl) (he49.op rfl) (by simp) w34) ?_
    intro a50 he50
    clear he49 a49
    refine wpList_nil (then_ok ?_)
    refine wp_cond_true (he50.op rfl) ?_
    refine wp_region_lit ?_
    refine lW (.int .i64 ix) he50 rfl (rn_mv rfl (he50.op rfl) w34) ?_
    intro a51 he51
    clear he50 a50
    refine lW (.int .i64 g0) he51 rfl (rn_mv rfl (he51.op rfl) w34) ?_
    intro a52 he52
    clear he51 a51
    refine lW (.int .i64 ((ix - g0 : Nat) : Int)) he52 rfl (rn_subI rfl (he52.op rfl) (he52.op rfl) (by rw [IntWalk.i64_in _ ⟨by omega, by omega⟩]; omega) w34) ?_
    intro a53 he53
    clear he52 a52
    refine lW (.int .i64 ((ix - g0 : Nat) : Int)) he53 rfl (rn_asg rfl (he53.op rfl) w34) ?_
    intro a54 he54
    clear he53 a53
    refine wpList_nil (then_ok ?_)
    refine wp_seq (wp_region_lit ?_)
    refine lW (.int .i64 (0 : Nat)) he54 rfl (rn_mv rfl (he54.op rfl) w34) ?_
    intro a55 he55
    clear he54 a54
    refine lW (.int .i64 ((ix - g0 : Nat) : Int)) he55 rfl (rn_mv rfl (he55.op rfl) w34) ?_
    intro a56 he56
    clear he55 a55
    refine lW (.int .i64 (0 : Nat)) he56 rfl (rn_asg rfl (he56.op rfl) w34) ?_
    intro a57 he57
    clear he56 a56
    refine lW (.int .i64 ((ix - g0 : Nat) : Int)) he57 rfl (rn_asg rfl (he57.op rfl) w34) ?_
    intro a58 he58
    clear he57 a57
    refine wpList_nil (then_ok ?_)
    rw [if_pos rfl]
    refine wp_ret ?_
    try simp only [Exit.then, Exit.inBlock, Exit.noGoto]
    exact ret_tt rfl he58 rfl rfl ⟨rfl, hD.fr⟩
  refine wp_region_lit ?_
  refine lW (.int .i64 pg) he48 rfl (rn_mv rfl (he48.op rfl) w34) ?_
  intro a59 he59
  clear he48 a48
  refine lW (.bool false) he59 rfl (rn_eqI rfl (he59.op rfl) (he59.op rfl) (by simpa using hz) w34) ?_
  intro a60 he60
  clear he59 a59
  refine wpList_nil (then_ok ?_)
  refine wp_cond_false (he60.op rfl) ?_
  refine wp_skip ?_
  refine then_ok ?_
  refine wp_seq (wp_region_lit ?_)
  refine lW (.int .i64 pg) he60 rfl (rn_mv rfl (he60.op rfl) w34) ?_
  intro a61 he61
  clear he60 a60
  refine lW (.int .i64 ix) he61 rfl (rn_mv rfl (he61.op rfl) w34) ?_
  intro a62 he62
  clear he61 a61
  refine lW (.int .i64 pg) he62 rfl (rn_asg rfl (he62.op rfl) w34) ?_
  intro a63 he63
  clear he62 a62
  refine lW (.int .i64 ix) he63 rfl (rn_asg rfl (he63.op rfl) w34) ?_
  intro a64 he64
  clear he63 a63
  refine wpList_nil (then_ok ?_)
  rw [if_neg hz]
  refine wp_ret ?_
  try simp only [Exit.then, Exit.inBlock, Exit.noGoto]
  exact ret_tt rfl he64 rfl rfl ⟨rfl, hD.fr⟩
end Go.Proofs.YtlpjhaghphmbeaaDoor
