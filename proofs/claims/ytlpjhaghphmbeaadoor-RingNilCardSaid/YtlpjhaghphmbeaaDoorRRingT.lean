/-
  Package ring: what only reads, at a nil or zero ring.
-/
import Derived.Test.YtlpjhaghphmbeaaDoorRRing
namespace Go.Proofs.YtlpjhaghphmbeaaDoor
open Go.RowKit

set_option linter.unusedSimpArgs false in
set_option maxRecDepth 100000 in
set_option maxHeartbeats 1600000 in
theorem rUnmade_t (ad : Option Addr) (w : World) (h : UmR w ad) (hT : Tab w) : Calls Tryd.prog 45 #[.pointer ad] w fun e w' => e = .returned (.bool true) ∧ New w w' := by
  rcases h with rfl | ⟨p, rfl, hB⟩
  · skip
    refine calls_args (vl := [.pointer none]) 12 Tryd.func45 rfl Tryd.ntmps45 (by kernel_rfl) (fun a he => ?_)
    have he0 : Env 12 [(0, .pointer none)] a := he
    clear he
    have hH := Hp.start w
    refine wp_seq (wp_region_lit ?_)
    refine lW (.bool false) he0 rfl (rn_asg rfl (he0.op rfl) w) ?_
    intro a1 he1
    clear he0 a
    refine wpList_nil (then_ok ?_)
    refine wp_seq (wp_region_lit ?_)
    refine lW (.pointer none) he1 rfl (rn_mv rfl (he1.op rfl) w) ?_
    intro a2 he2
    clear he1 a1
    refine lW (.bool true) he2 rfl (rn_eqPr0 rfl (he2.op rfl) (fun _ => rfl) w) ?_
    intro a3 he3
    clear he2 a2
    refine lW (.bool true) he3 rfl (rn_mv rfl (he3.op rfl) w) ?_
    intro a4 he4
    clear he3 a3
    refine lSkip he4 rfl rfl (he4.wantNot rfl rfl rfl rfl rfl rfl) ?_
    intro a5 he5
    clear he4 a4
    refine lSkip he5 rfl rfl (he5.wantNot rfl rfl rfl rfl rfl rfl) ?_
    intro a6 he6
    clear he5 a5
    refine lSkip he6 rfl rfl (he6.wantNot rfl rfl rfl rfl rfl rfl) ?_
    intro a7 he7
    clear he6 a6
    refine lSkip he7 rfl rfl (he7.wantNot rfl rfl rfl rfl rfl rfl) ?_
    intro a8 he8
    clear he7 a7
    refine lSkip he8 rfl rfl (he8.wantNot rfl rfl rfl rfl rfl rfl) ?_
    intro a9 he9
    clear he8 a8
    refine lW (.bool true) he9 rfl (rn_pk rfl (he9.op rfl) (he9.op rfl) w) ?_
    intro a10 he10
    clear he9 a9
    refine lW (.bool true) he10 rfl (rn_asg rfl (he10.op rfl) w) ?_
    intro a11 he11
    clear he10 a10
    refine wpList_nil (then_ok ?_)
    refine wp_ret ?_
    try simp only [Exit.then, Exit.inBlock]
    exact ret_env rfl he11 rfl ⟨rfl, hH.new⟩
  refine calls_args (vl := [.pointer (some ⟨p, 0, none⟩)]) 12 Tryd.func45 rfl Tryd.ntmps45 (by kernel_rfl) (fun a he => ?_)
  have he0 : Env 12 [(0, .pointer (some ⟨p, 0, none⟩))] a := he
  clear he
  have hH := Hp.bare1 hB
  have hD := Dt.read1 hT hB.lt
  refine wp_seq (wp_region_lit ?_)
  refine lW (.bool false) he0 rfl (rn_asg rfl (he0.op rfl) w) ?_
  intro a1 he1
  clear he0 a
  refine wpList_nil (then_ok ?_)
  refine wp_seq (wp_region_lit ?_)
  refine lW (.pointer (some ⟨p, 0, none⟩)) he1 rfl (rn_mv rfl (he1.op rfl) w) ?_
  intro a2 he2
  clear he1 a1
  refine lW (.bool false) he2 rfl (rn_eqPr1 rfl (he2.op rfl) (fun _ => rfl) w) ?_
  intro a3 he3
  clear he2 a2
  refine lW (.bool false) he3 rfl (rn_mv rfl (he3.op rfl) w) ?_
  intro a4 he4
  clear he3 a3
  refine lV (.pointer (some ⟨p, 0, none⟩)) he4 rfl rfl (he4.want rfl rfl rfl rfl rfl) (rn_mv rfl (he4.op rfl) w) ?_
  intro a5 he5
  clear he4 a4
  refine lV (.pointer (some ⟨p, 0, none⟩)) he5 rfl rfl (he5.want rfl rfl rfl rfl rfl) (rn_nilck rfl (he5.op rfl) w) ?_
  intro a6 he6
  clear he5 a5
  refine lV (.pointer (some ⟨p, 2, none⟩)) he6 rfl rfl (he6.want rfl rfl rfl rfl rfl) (rn_faH2 rfl (he6.op rfl) rfl w) ?_
  intro a7 he7
  clear he6 a6
  refine lV (.int .i64 0) he7 rfl rfl (he7.want rfl rfl rfl rfl rfl) (rn_ld1 rfl (he7.op rfl) Tryd.underlying3 (hH.at (i := 0) rfl) rfl) ?_
  intro a8 he8
  clear he7 a7
  refine lV (.bool true) he8 rfl rfl (he8.want rfl rfl rfl rfl rfl) (rn_eqI rfl (he8.op rfl) (he8.op rfl) (by simp) w) ?_
  intro a9 he9
  clear he8 a8
  refine lW (.bool true) he9 rfl (rn_pk0 rfl (he9.op rfl) (he9.op rfl) w) ?_
  intro a10 he10
  clear he9 a9
  refine lW (.bool true) he10 rfl (rn_asg rfl (he10.op rfl) w) ?_
  intro a11 he11
  clear he10 a10
  refine wpList_nil (then_ok ?_)
  refine wp_ret ?_
  try simp only [Exit.then, Exit.inBlock]
  exact ret_env rfl he11 rfl ⟨rfl, hD.fr⟩
set_option linter.unusedSimpArgs false in
set_option maxRecDepth 100000 in
set_option maxHeartbeats 1600000 in
theorem rFirst_t (ad : Option Addr) (w : World) (h : UmR w ad) (hT : Tab w) : Calls Tryd.prog 19 #[.pointer ad] w fun e w' => e = .returned (.int .i64 0) ∧ New w w' := by
  refine calls_args (vl := [.pointer ad]) 9 Tryd.func19 rfl Tryd.ntmps19 (by kernel_rfl) (fun a he => ?_)
  have he0 : Env 9 [(0, .pointer ad)] a := he
  clear he
  have hH := Hp.start w
  refine wp_seq (wp_region_lit ?_)
  refine lW (.int .i64 0) he0 rfl (rn_asg rfl (he0.op rfl) w) ?_
  intro a1 he1
  clear he0 a
  refine wpList_nil (then_ok ?_)
  refine wp_seq ?_
  refine wp_seq (wp_region_lit ?_)
  refine lW (.pointer ad) he1 rfl (rn_mv rfl (he1.op rfl) w) ?_
  intro a2 he2
  clear he1 a1
  refine lC he2 rfl rfl Tryd.func45 (by kernel_rfl) rfl rfl (wanted_plain rfl _) rfl (rUnmade_t ad w (h.new hH.new) (hT.new hH.new)) ?_
  intro w3 a4 hn he4
  have hH3 := hH.call hn
  clear he2 a2 hH hn
  refine wpList_nil (then_ok ?_)
  refine wp_cond_true (he4.op rfl) ?_
  refine wp_seq (wp_region_lit ?_)
  refine lW (.int .i64 0) he4 rfl (rn_asg rfl (he4.op rfl) w3) ?_
  intro a5 he5
  clear he4 a4
  refine wpList_nil (then_ok ?_)
  refine wp_ret ?_
  try simp only [Exit.then, Exit.inBlock]
  exact ret_env rfl he5 rfl ⟨rfl, hH3.new⟩
set_option linter.unusedSimpArgs false in
set_option maxRecDepth 100000 in
set_option maxHeartbeats 1600000 in
theorem rNext_t (ad : Option Addr) (w : World) (h : UmR w ad) (hT : Tab w) : Calls Tryd.prog 20 #[.pointer ad] w fun e w' => e = .returned (.int .i64 0) ∧ New w w' := by
  refine calls_args (vl := [.pointer ad]) 9 Tryd.func20 rfl Tryd.ntmps20 (by kernel_rfl) (fun a he => ?_)
  have he0 : Env 9 [(0, .pointer ad)] a := he
  clear he
  have hH := Hp.start w
  refine wp_seq (wp_region_lit ?_)
  refine lW (.int .i64 0) he0 rfl (rn_asg rfl (he0.op rfl) w) ?_
  intro a1 he1
  clear he0 a
  refine wpList_nil (then_ok ?_)
  refine wp_seq ?_
  refine wp_seq (wp_region_lit ?_)
  refine lW (.pointer ad) he1 rfl (rn_mv rfl (he1.op rfl) w) ?_
  intro a2 he2
  clear he1 a1
  refine lC he2 rfl rfl Tryd.func45 (by kernel_rfl) rfl rfl (wanted_plain rfl _) rfl (rUnmade_t ad w (h.new hH.new) (hT.new hH.new)) ?_
  intro w3 a4 hn he4
  have hH3 := hH.call hn
  clear he2 a2 hH hn
  refine wpList_nil (then_ok ?_)
  refine wp_cond_true (he4.op rfl) ?_
  refine wp_seq (wp_region_lit ?_)
  refine lW (.int .i64 0) he4 rfl (rn_asg rfl (he4.op rfl) w3) ?_
  intro a5 he5
  clear he4 a4
  refine wpList_nil (then_ok ?_)
  refine wp_ret ?_
  try simp only [Exit.then, Exit.inBlock]
  exact ret_env rfl he5 rfl ⟨rfl, hH3.new⟩
set_option linter.unusedSimpArgs false in
set_option maxRecDepth 100000 in
set_option maxHeartbeats 1600000 in
theorem rMost_t (ad : Option Addr) (w : World) (h : UmR w ad) (hT : Tab w) : Calls Tryd.prog 29 #[.pointer ad] w fun e w' => e = .returned (.int .i64 0) ∧ New w w' := by
  refine calls_args (vl := [.pointer ad]) 9 Tryd.func29 rfl Tryd.ntmps29 (by kernel_rfl) (fun a he => ?_)
  have he0 : Env 9 [(0, .pointer ad)] a := he
  clear he
  have hH := Hp.start w
  refine wp_seq (wp_region_lit ?_)
  refine lW (.int .i64 0) he0 rfl (rn_asg rfl (he0.op rfl) w) ?_
  intro a1 he1
  clear he0 a
  refine wpList_nil (then_ok ?_)
  refine wp_seq ?_
  refine wp_seq (wp_region_lit ?_)
  refine lW (.pointer ad) he1 rfl (rn_mv rfl (he1.op rfl) w) ?_
  intro a2 he2
  clear he1 a1
  refine lC he2 rfl rfl Tryd.func45 (by kernel_rfl) rfl rfl (wanted_plain rfl _) rfl (rUnmade_t ad w (h.new hH.new) (hT.new hH.new)) ?_
  intro w3 a4 hn he4
  have hH3 := hH.call hn
  clear he2 a2 hH hn
  refine wpList_nil (then_ok ?_)
  refine wp_cond_true (he4.op rfl) ?_
  refine wp_seq (wp_region_lit ?_)
  refine lW (.int .i64 0) he4 rfl (rn_asg rfl (he4.op rfl) w3) ?_
  intro a5 he5
  clear he4 a4
  refine wpList_nil (then_ok ?_)
  refine wp_ret ?_
  try simp only [Exit.then, Exit.inBlock]
  exact ret_env rfl he5 rfl ⟨rfl, hH3.new⟩
set_option linter.unusedSimpArgs false in
set_option maxRecDepth 100000 in
set_option maxHeartbeats 1600000 in
theorem rPages_t (ad : Option Addr) (w : World) (h : UmR w ad) (hT : Tab w) : Calls Tryd.prog 21 #[.pointer ad] w fun e w' => e = .returned (.int .i64 0) ∧ New w w' := by
  refine calls_args (vl := [.pointer ad]) 10 Tryd.func21 rfl Tryd.ntmps21 (by kernel_rfl) (fun a he => ?_)
  have he0 : Env 10 [(0, .pointer ad)] a := he
  clear he
  have hH := Hp.start w
  refine wp_seq (wp_region_lit ?_)
  refine lW (.int .i64 0) he0 rfl (rn_asg rfl (he0.op rfl) w) ?_
  intro a1 he1
  clear he0 a
  refine wpList_nil (then_ok ?_)
  refine wp_seq ?_
  refine wp_seq (wp_region_lit ?_)
  refine lW (.pointer ad) he1 rfl (rn_mv rfl (he1.op rfl) w) ?_
  intro a2 he2
  clear he1 a1
  refine lC he2 rfl rfl Tryd.func45 (by kernel_rfl) rfl rfl (wanted_plain rfl _) rfl (rUnmade_t ad w (h.new hH.new) (hT.new hH.new)) ?_
  intro w3 a4 hn he4
  have hH3 := hH.call hn
  clear he2 a2 hH hn
  refine wpList_nil (then_ok ?_)
  refine wp_cond_true (he4.op rfl) ?_
  refine wp_seq (wp_region_lit ?_)
  refine lW (.int .i64 0) he4 rfl (rn_asg rfl (he4.op rfl) w3) ?_
  intro a5 he5
  clear he4 a4
  refine wpList_nil (then_ok ?_)
  refine wp_ret ?_
  try simp only [Exit.then, Exit.inBlock]
  exact ret_env rfl he5 rfl ⟨rfl, hH3.new⟩
set_option linter.unusedSimpArgs false in
set_option maxRecDepth 100000 in
set_option maxHeartbeats 1600000 in
theorem rLen_t (ad : Option Addr) (w : World) (h : UmR w ad) (hT : Tab w) : Calls Tryd.prog 28 #[.pointer ad] w fun e w' => e = .returned (.int .i64 0) ∧ New w w' := by
  refine calls_args (vl := [.pointer ad]) 8 Tryd.func28 rfl Tryd.ntmps28 (by kernel_rfl) (fun a he => ?_)
  have he0 : Env 8 [(0, .pointer ad)] a := he
  clear he
  have hH := Hp.start w
  refine wp_seq (wp_region_lit ?_)
  refine lW (.int .i64 0) he0 rfl (rn_asg rfl (he0.op rfl) w) ?_
  intro a1 he1
  clear he0 a
  refine wpList_nil (then_ok ?_)
  refine wp_seq (wp_region_lit ?_)
  refine lW (.pointer ad) he1 rfl (rn_mv rfl (he1.op rfl) w) ?_
  intro a2 he2
  clear he1 a1
  refine lC he2 rfl rfl Tryd.func20 (by kernel_rfl) rfl rfl (wanted_plain rfl _) rfl (rNext_t ad w (h.new hH.new) (hT.new hH.new)) ?_
  intro w3 a4 hn he4
  have hH3 := hH.call hn
  clear he2 a2 hH hn
  refine lW (.pointer ad) he4 rfl (rn_mv rfl (he4.op rfl) w3) ?_
  intro a5 he5
  clear he4 a4
  refine lC he5 rfl rfl Tryd.func19 (by kernel_rfl) rfl rfl (wanted_plain rfl _) rfl (rFirst_t ad w3 (h.new hH3.new) (hT.new hH3.new)) ?_
  intro w6 a7 hn he7
  have hH6 := hH3.call hn
  clear he5 a5 hH3 hn
  refine lW (.int .i64 0) he7 rfl (rn_subI rfl (he7.op rfl) (he7.op rfl) (by decide) w6) ?_
  intro a8 he8
  clear he7 a7
  refine lW (.int .i64 0) he8 rfl (rn_asg rfl (he8.op rfl) w6) ?_
  intro a9 he9
  clear he8 a8
  refine wpList_nil (then_ok ?_)
  refine wp_ret ?_
  try simp only [Exit.then, Exit.inBlock]
  exact ret_env rfl he9 rfl ⟨rfl, hH6.new⟩
end Go.Proofs.YtlpjhaghphmbeaaDoor
