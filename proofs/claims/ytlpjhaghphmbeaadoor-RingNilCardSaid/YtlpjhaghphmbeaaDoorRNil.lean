/-
  Package ring: what is nil or zero.
-/
import Derived.Test.YtlpjhaghphmbeaaDoorRRingT
namespace Go.Proofs.YtlpjhaghphmbeaaDoor
open Go.RowKit

set_option linter.unusedSimpArgs false in
set_option maxRecDepth 100000 in
set_option maxHeartbeats 1600000 in
theorem rPush_n (pa : Option Addr) (A : Option Addr) (n c : Nat) (s : Bool) (w : World) (h : UmR w pa) (hT : Tab w) : Calls Tryd.prog 32 #[.pointer pa, .agg #[.slice A n c, .bool s]] w fun e w' => e = .returned (.tuple #[.int .i64 0, .int .i64 1]) ∧ New w w' := by
  refine calls_args (vl := [.pointer pa, .agg #[.slice A n c, .bool s]]) 32 Tryd.func32 rfl Tryd.ntmps32 (by kernel_rfl) (fun a he => ?_)
  have he0 : Env 32 [(0, .pointer pa), (1, .agg #[.slice A n c, .bool s])] a := he
  clear he
  have hH := Hp.start w
  refine wp_seq (wp_region_lit ?_)
  refine lNewP (fun p => .pointer (some ⟨p, 0, none⟩)) he0 hH rfl rfl (wanted_plain rfl _) (rn_boxL rfl (he0.op rfl) w) ?_
  intro p1 w1 a2 hp hn hH1 he2
  clear he0 a hH hn hp
  refine lW (.int .i64 0) he2 rfl (rn_asg rfl (he2.op rfl) w1) ?_
  intro a3 he3
  clear he2 a2
  refine lW (.int .i64 0) he3 rfl (rn_asg rfl (he3.op rfl) w1) ?_
  intro a4 he4
  clear he3 a3
  refine wpList_nil (then_ok ?_)
  refine wp_seq ?_
  refine wp_block ?_
  refine wp_seq (wp_region_lit ?_)
  refine lW (.pointer pa) he4 rfl (rn_mv rfl (he4.op rfl) w1) ?_
  intro a5 he5
  clear he4 a4
  refine lC he5 rfl rfl Tryd.func45 (by kernel_rfl) rfl rfl (wanted_plain rfl _) rfl (rUnmade_t pa w1 (h.new hH1.new) (hT.new hH1.new)) ?_
  intro w6 a7 hn he7
  have hH6 := hH1.call hn
  clear he5 a5 hH1 hn
  refine lW (.bool true) he7 rfl (rn_asg rfl (he7.op rfl) w6) ?_
  intro a8 he8
  clear he7 a7
  refine wpList_nil (then_ok ?_)
  refine wp_cond_true (he8.op rfl) ?_
  refine wp_seq (wp_region_lit ?_)
  refine lW (.int .i64 0) he8 rfl (rn_asg rfl (he8.op rfl) w6) ?_
  intro a9 he9
  clear he8 a8
  refine lW (.int .i64 1) he9 rfl (rn_asg rfl (he9.op rfl) w6) ?_
  intro a10 he10
  clear he9 a9
  refine wpList_nil (then_ok ?_)
  refine wp_ret ?_
  try simp only [Exit.then, Exit.inBlock]
  exact ret_tt rfl he10 rfl rfl ⟨rfl, hH6.new⟩
set_option linter.unusedSimpArgs false in
set_option maxRecDepth 100000 in
set_option maxHeartbeats 1600000 in
theorem rSet_n (pa : Option Addr) (i : Int) (A : Option Addr) (n c : Nat) (s : Bool) (w : World) (h : UmR w pa) (hT : Tab w) : Calls Tryd.prog 26 #[.pointer pa, .int .i64 i, .agg #[.slice A n c, .bool s]] w fun e w' => e = .returned (.int .i64 1) ∧ New w w' := by
  refine calls_args (vl := [.pointer pa, .int .i64 i, .agg #[.slice A n c, .bool s]]) 39 Tryd.func26 rfl Tryd.ntmps26 (by kernel_rfl) (fun a he => ?_)
  have he0 : Env 39 [(0, .pointer pa), (1, .int .i64 i), (2, .agg #[.slice A n c, .bool s])] a := he
  clear he
  have hH := Hp.start w
  refine wp_seq (wp_region_lit ?_)
  refine lNewP (fun p => .pointer (some ⟨p, 0, none⟩)) he0 hH rfl rfl (wanted_plain rfl _) (rn_boxL rfl (he0.op rfl) w) ?_
  intro p1 w1 a2 hp hn hH1 he2
  clear he0 a hH hn hp
  refine lW (.int .i64 0) he2 rfl (rn_asg rfl (he2.op rfl) w1) ?_
  intro a3 he3
  clear he2 a2
  refine wpList_nil (then_ok ?_)
  refine wp_seq ?_
  refine wp_block ?_
  refine wp_seq (wp_region_lit ?_)
  refine lW (.pointer pa) he3 rfl (rn_mv rfl (he3.op rfl) w1) ?_
  intro a4 he4
  clear he3 a3
  refine lC he4 rfl rfl Tryd.func45 (by kernel_rfl) rfl rfl (wanted_plain rfl _) rfl (rUnmade_t pa w1 (h.new hH1.new) (hT.new hH1.new)) ?_
  intro w5 a6 hn he6
  have hH5 := hH1.call hn
  clear he4 a4 hH1 hn
  refine lW (.bool true) he6 rfl (rn_asg rfl (he6.op rfl) w5) ?_
  intro a7 he7
  clear he6 a6
  refine wpList_nil (then_ok ?_)
  refine wp_cond_true (he7.op rfl) ?_
  refine wp_seq (wp_region_lit ?_)
  refine lW (.int .i64 1) he7 rfl (rn_asg rfl (he7.op rfl) w5) ?_
  intro a8 he8
  clear he7 a7
  refine wpList_nil (then_ok ?_)
  refine wp_ret ?_
  try simp only [Exit.then, Exit.inBlock]
  exact ret_env rfl he8 rfl ⟨rfl, hH5.new⟩
set_option linter.unusedSimpArgs false in
set_option maxRecDepth 100000 in
set_option maxHeartbeats 1600000 in
theorem rLimit_n (pa : Option Addr) (i : Int) (w : World) (h : UmR w pa) (hT : Tab w) : Calls Tryd.prog 27 #[.pointer pa, .int .i64 i] w fun e w' => e = .returned (.int .i64 1) ∧ New w w' := by
  refine calls_args (vl := [.pointer pa, .int .i64 i]) 18 Tryd.func27 rfl Tryd.ntmps27 (by kernel_rfl) (fun a he => ?_)
  have he0 : Env 18 [(0, .pointer pa), (1, .int .i64 i)] a := he
  clear he
  have hH := Hp.start w
  refine wp_seq (wp_region_lit ?_)
  refine lW (.int .i64 0) he0 rfl (rn_asg rfl (he0.op rfl) w) ?_
  intro a1 he1
  clear he0 a
  refine wpList_nil (then_ok ?_)
  refine wp_seq ?_
  refine wp_block ?_
  refine wp_seq (wp_region_lit ?_)
  refine lW (.pointer pa) he1 rfl (rn_mv rfl (he1.op rfl) w) ?_
  intro a2 he2
  clear he1 a1
  refine lC he2 rfl rfl Tryd.func45 (by kernel_rfl) rfl rfl (wanted_plain rfl _) rfl (rUnmade_t pa w (h.new hH.new) (hT.new hH.new)) ?_
  intro w3 a4 hn he4
  have hH3 := hH.call hn
  clear he2 a2 hH hn
  refine lW (.bool true) he4 rfl (rn_asg rfl (he4.op rfl) w3) ?_
  intro a5 he5
  clear he4 a4
  refine wpList_nil (then_ok ?_)
  refine wp_cond_true (he5.op rfl) ?_
  refine wp_seq (wp_region_lit ?_)
  refine lW (.int .i64 1) he5 rfl (rn_asg rfl (he5.op rfl) w3) ?_
  intro a6 he6
  clear he5 a5
  refine wpList_nil (then_ok ?_)
  refine wp_ret ?_
  try simp only [Exit.then, Exit.inBlock]
  exact ret_env rfl he6 rfl ⟨rfl, hH3.new⟩
set_option linter.unusedSimpArgs false in
set_option maxRecDepth 100000 in
set_option maxHeartbeats 1600000 in
theorem rPop_n (pa : Option Addr)  (w : World) (h : UmR w pa) (hT : Tab w) : Calls Tryd.prog 31 #[.pointer pa] w fun e w' => e = .returned (.tuple #[.agg #[.slice none 0 0, .bool false], .int .i64 1]) ∧ New w w' := by
  refine calls_args (vl := [.pointer pa]) 66 Tryd.func31 rfl Tryd.ntmps31 (by kernel_rfl) (fun a he => ?_)
  have he0 : Env 66 [(0, .pointer pa)] a := he
  clear he
  have hH := Hp.start w
  refine wp_seq (wp_region_lit ?_)
  refine lNewP (fun p => .pointer (some ⟨p, 0, none⟩)) he0 hH rfl rfl (wanted_plain rfl _) (rn_allocL rfl w) ?_
  intro p1 w1 a2 hp hn hH1 he2
  clear he0 a hH hn hp
  refine lW (.int .i64 0) he2 rfl (rn_asg rfl (he2.op rfl) w1) ?_
  intro a3 he3
  clear he2 a2
  refine wpList_nil (then_ok ?_)
  refine wp_seq ?_
  refine wp_block ?_
  refine wp_seq (wp_region_lit ?_)
  refine lW (.pointer pa) he3 rfl (rn_mv rfl (he3.op rfl) w1) ?_
  intro a4 he4
  clear he3 a3
  refine lC he4 rfl rfl Tryd.func45 (by kernel_rfl) rfl rfl (wanted_plain rfl _) rfl (rUnmade_t pa w1 (h.new hH1.new) (hT.new hH1.new)) ?_
  intro w5 a6 hn he6
  have hH5 := hH1.call hn
  clear he4 a4 hH1 hn
  refine lW (.bool true) he6 rfl (rn_asg rfl (he6.op rfl) w5) ?_
  intro a7 he7
  clear he6 a6
  refine wpList_nil (then_ok ?_)
  refine wp_cond_true (he7.op rfl) ?_
  refine wp_seq (wp_region_lit ?_)
  refine lW (.agg #[.slice none 0 0, .bool false]) he7 rfl (rn_bL rfl  w5) ?_
  intro a8 he8
  clear he7 a7
  refine lSetF 0 #[.slice none 0 0, .bool false] (cs := #[.slice none 0 0, .bool false]) he8 hH5 rfl (wanted_plain rfl _) rfl rfl rfl rfl rfl (by kernel_rfl) (by kernel_rfl) (by kernel_rfl) rfl ?_
  intro w9 a10 hH9 hf he10
  replace hH9 : Hp w [⟨p1, 36, #[.slice none 0 0, .bool false]⟩] w9 := hH9
  clear hf
  clear he8 a8 hH5
  refine lW (.int .i64 1) he10 rfl (rn_asg rfl (he10.op rfl) w9) ?_
  intro a11 he11
  clear he10 a10
  refine wpList_nil (then_ok ?_)
  refine wp_ret ?_
  try simp only [Exit.then, Exit.inBlock]
  exact ret_rowt rfl he11 rfl rfl (hH9.at (i := 0) rfl) undL rfl infoL2 ⟨rfl, hH9.new⟩
set_option linter.unusedSimpArgs false in
set_option maxRecDepth 100000 in
set_option maxHeartbeats 1600000 in
theorem rGet_n (pa : Option Addr) (i : Int) (w : World) (h : UmR w pa) (hT : Tab w) : Calls Tryd.prog 44 #[.pointer pa, .int .i64 i] w fun e w' => e = .returned (.tuple #[.agg #[.slice none 0 0, .bool false], .int .i64 1]) ∧ New w w' := by
  refine calls_args (vl := [.pointer pa, .int .i64 i]) 36 Tryd.func44 rfl Tryd.ntmps44 (by kernel_rfl) (fun a he => ?_)
  have he0 : Env 36 [(0, .pointer pa), (1, .int .i64 i)] a := he
  clear he
  have hH := Hp.start w
  refine wp_seq (wp_region_lit ?_)
  refine lNewP (fun p => .pointer (some ⟨p, 0, none⟩)) he0 hH rfl rfl (wanted_plain rfl _) (rn_allocL rfl w) ?_
  intro p1 w1 a2 hp hn hH1 he2
  clear he0 a hH hn hp
  refine lW (.int .i64 0) he2 rfl (rn_asg rfl (he2.op rfl) w1) ?_
  intro a3 he3
  clear he2 a2
  refine wpList_nil (then_ok ?_)
  refine wp_seq ?_
  refine wp_seq (wp_region_lit ?_)
  refine lW (.pointer pa) he3 rfl (rn_mv rfl (he3.op rfl) w1) ?_
  intro a4 he4
  clear he3 a3
  refine lC he4 rfl rfl Tryd.func45 (by kernel_rfl) rfl rfl (wanted_plain rfl _) rfl (rUnmade_t pa w1 (h.new hH1.new) (hT.new hH1.new)) ?_
  intro w5 a6 hn he6
  have hH5 := hH1.call hn
  clear he4 a4 hH1 hn
  refine wpList_nil (then_ok ?_)
  refine wp_cond_true (he6.op rfl) ?_
  refine wp_seq (wp_region_lit ?_)
  refine lW (.agg #[.slice none 0 0, .bool false]) he6 rfl (rn_bL rfl  w5) ?_
  intro a7 he7
  clear he6 a6
  refine lSetF 0 #[.slice none 0 0, .bool false] (cs := #[.slice none 0 0, .bool false]) he7 hH5 rfl (wanted_plain rfl _) rfl rfl rfl rfl rfl (by kernel_rfl) (by kernel_rfl) (by kernel_rfl) rfl ?_
  intro w8 a9 hH8 hf he9
  replace hH8 : Hp w [⟨p1, 36, #[.slice none 0 0, .bool false]⟩] w8 := hH8
  clear hf
  clear he7 a7 hH5
  refine lW (.int .i64 1) he9 rfl (rn_asg rfl (he9.op rfl) w8) ?_
  intro a10 he10
  clear he9 a9
  refine wpList_nil (then_ok ?_)
  refine wp_ret ?_
  try simp only [Exit.then, Exit.inBlock]
  exact ret_rowt rfl he10 rfl rfl (hH8.at (i := 0) rfl) undL rfl infoL2 ⟨rfl, hH8.new⟩
set_option linter.unusedSimpArgs false in
set_option maxRecDepth 100000 in
set_option maxHeartbeats 1600000 in
theorem rClear_n (pa : Option Addr)  (w : World) (h : UmR w pa) (hT : Tab w) : Calls Tryd.prog 24 #[.pointer pa] w fun e w' => e = .returned (.tuple #[]) ∧ New w w' := by
  refine calls_args (vl := [.pointer pa]) 14 Tryd.func24 rfl Tryd.ntmps24 (by kernel_rfl) (fun a he => ?_)
  have he0 : Env 14 [(0, .pointer pa)] a := he
  clear he
  have hH := Hp.start w
  refine wp_seq ?_
  refine wp_seq (wp_region_lit ?_)
  refine lW (.pointer pa) he0 rfl (rn_mv rfl (he0.op rfl) w) ?_
  intro a1 he1
  clear he0 a
  refine lC he1 rfl rfl Tryd.func45 (by kernel_rfl) rfl rfl (wanted_plain rfl _) rfl (rUnmade_t pa w (h.new hH.new) (hT.new hH.new)) ?_
  intro w2 a3 hn he3
  have hH2 := hH.call hn
  clear he1 a1 hH hn
  refine wpList_nil (then_ok ?_)
  refine wp_cond_true (he3.op rfl) ?_
  refine wp_ret ?_
  try simp only [Exit.then, Exit.inBlock, Exit.noGoto]
  exact ret_unit rfl he3 ⟨rfl, hH2.new⟩
set_option linter.unusedSimpArgs false in
set_option maxRecDepth 100000 in
set_option maxHeartbeats 1600000 in
theorem rCopy_n (pa : Option Addr)  (w : World) (h : UmR w pa) (hT : Tab w) : Calls Tryd.prog 30 #[.pointer pa] w fun e w' => e = .returned (.pointer none) ∧ New w w' := by
  refine calls_envM (vl := [.pointer pa]) 43 Tryd.func30 rfl Tryd.ntmps30 (by kernel_rfl) (fun a he => ?_)
  have he0 : Env 43 [(0, .pointer pa)] a := he
  clear he
  have hH := Hp.start w
  refine wp_seq (wp_region_lit ?_)
  refine lW (.pointer none) he0 rfl (rn_asg rfl (he0.op rfl) w) ?_
  intro a1 he1
  clear he0 a
  refine wpList_nil (then_ok ?_)
  refine wp_seq ?_
  refine wp_seq (wp_region_lit ?_)
  refine lW (.pointer pa) he1 rfl (rn_mv rfl (he1.op rfl) w) ?_
  intro a2 he2
  clear he1 a1
  refine lC he2 rfl rfl Tryd.func45 (by kernel_rfl) rfl rfl (wanted_plain rfl _) rfl (rUnmade_t pa w (h.new hH.new) (hT.new hH.new)) ?_
  intro w3 a4 hn he4
  have hH3 := hH.call hn
  clear he2 a2 hH hn
  refine wpList_nil (then_ok ?_)
  refine wp_cond_true (he4.op rfl) ?_
  refine wp_seq (wp_region_lit ?_)
  refine lW (.pointer none) he4 rfl (rn_asg rfl (he4.op rfl) w3) ?_
  intro a5 he5
  clear he4 a4
  refine wpList_nil (then_ok ?_)
  refine wp_ret ?_
  try simp only [Exit.then, Exit.inBlock, Exit.noGoto]
  exact out_plain (ret_env rfl he5 rfl ⟨rfl, hH3.new⟩)
set_option linter.unusedSimpArgs false in
set_option maxRecDepth 100000 in
set_option maxHeartbeats 1600000 in
theorem rRange_n (pa : Option Addr) (u v : Int) (w : World) (h : UmR w pa) (hT : Tab w) : Calls Tryd.prog 22 #[.pointer pa, .int .i64 u, .int .i64 v] w fun e w' => e = .returned (.tuple #[.slice none 0 0, .int .i64 1]) ∧ New w w' := by
  refine calls_envM (vl := [.pointer pa, .int .i64 u, .int .i64 v]) 82 Tryd.func22 rfl Tryd.ntmps22 (by kernel_rfl) (fun a he => ?_)
  have he0 : Env 82 [(0, .pointer pa), (1, .int .i64 u), (2, .int .i64 v)] a := he
  clear he
  have hH := Hp.start w
  refine wp_seq (wp_region_lit ?_)
  refine lNewP (fun p => .pointer (some ⟨p, 0, none⟩)) he0 hH rfl rfl (wanted_plain rfl _) (rn_box1i rfl (he0.op rfl) w) ?_
  intro p1 w1 a2 hp hn hH1 he2
  clear he0 a hH hn hp
  refine lNewP (fun p => .pointer (some ⟨p, 0, none⟩)) he2 hH1 rfl rfl (wanted_plain rfl _) (rn_box1i rfl (he2.op rfl) w1) ?_
  intro p3 w3 a4 hp hn hH3 he4
  clear he2 a2 hH1 hn hp
  refine lNewP (fun p => .pointer (some ⟨p, 0, none⟩)) he4 hH3 rfl rfl (wanted_plain rfl _) (rn_all1l rfl w3) ?_
  intro p5 w5 a6 hp hn hH5 he6
  clear he4 a4 hH3 hn hp
  refine lNewP (fun p => .pointer (some ⟨p, 0, none⟩)) he6 hH5 rfl rfl (wanted_plain rfl _) (rn_all1e rfl w5) ?_
  intro p7 w7 a8 hp hn hH7 he8
  clear he6 a6 hH5 hn hp
  refine wpList_nil (then_ok ?_)
  refine wp_seq ?_
  refine wp_block ?_
  refine wp_seq (wp_region_lit ?_)
  refine lW (.pointer pa) he8 rfl (rn_mv rfl (he8.op rfl) w7) ?_
  intro a9 he9
  clear he8 a8
  refine lC he9 rfl rfl Tryd.func45 (by kernel_rfl) rfl rfl (wanted_plain rfl _) rfl (rUnmade_t pa w7 (h.new hH7.new) (hT.new hH7.new)) ?_
  intro w10 a11 hn he11
  have hH10 := hH7.call hn
  clear he9 a9 hH7 hn
  refine lW (.bool true) he11 rfl (rn_asg rfl (he11.op rfl) w10) ?_
  intro a12 he12
  clear he11 a11
  refine wpList_nil (then_ok ?_)
  refine wp_cond_true (he12.op rfl) ?_
  refine wp_seq (wp_region_lit ?_)
  refine lSetF 1 #[.slice none 0 0] (cs := #[.slice none 0 0]) he12 hH10 rfl (wanted_plain rfl _) rfl rfl rfl rfl rfl (by kernel_rfl) (by kernel_rfl) (by kernel_rfl) rfl ?_
  intro w13 a14 hH13 hf he14
  replace hH13 : Hp w [⟨p7, 26, #[.int .i64 0]⟩, ⟨p5, 30, #[.slice none 0 0]⟩, ⟨p3, 3, #[.int .i64 v]⟩, ⟨p1, 3, #[.int .i64 u]⟩] w13 := hH13
  clear hf
  clear he12 a12 hH10
  refine lSetF 0 #[.int .i64 1] (cs := #[.int .i64 1]) he14 hH13 rfl (wanted_plain rfl _) rfl rfl rfl rfl rfl (by kernel_rfl) (by kernel_rfl) (by kernel_rfl) rfl ?_
  intro w15 a16 hH15 hf he16
  replace hH15 : Hp w [⟨p7, 26, #[.int .i64 1]⟩, ⟨p5, 30, #[.slice none 0 0]⟩, ⟨p3, 3, #[.int .i64 v]⟩, ⟨p1, 3, #[.int .i64 u]⟩] w15 := hH15
  clear hf
  clear he14 a14 hH13
  refine wpList_nil (then_ok ?_)
  refine wp_ret ?_
  try simp only [Exit.then, Exit.inBlock, Exit.noGoto]
  exact out_plain (bodyPost_ret (results_le rfl he16 rfl rfl (hH15.at (i := 1) rfl) (hH15.at (i := 0) rfl)) he16.df ⟨rfl, hH15.new⟩)
end Go.Proofs.YtlpjhaghphmbeaaDoor
