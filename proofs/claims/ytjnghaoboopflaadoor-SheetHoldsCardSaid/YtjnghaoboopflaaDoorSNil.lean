/-
  Package sheet: what is nil or zero.
-/
import Derived.Test.YtjnghaoboopflaaDoorA11
namespace Go.Proofs.YtjnghaoboopflaaDoor
open Go.RowKit

set_option linter.unusedSimpArgs false in
set_option maxRecDepth 100000 in
set_option maxHeartbeats 1600000 in
theorem len_n (pa : Option Addr)  (w : World) (h : Um w pa) (hT : Tab w) : Calls Tryd.prog 18 #[.pointer pa] w fun e w' => e = .returned (.int .i64 0) ∧ New w w' := by
  refine calls_args (vl := [Value.pointer pa]) 10 Tryd.func18 rfl Tryd.ntmps18 (by kernel_rfl) (fun a he => ?_)
  have he0 : Env 10 [(0, Value.pointer pa)] a := he
  clear he
  have hH := Hp.start w
  refine wp_seq ?_
  refine wp_region_lit ?_
  refine lV (Value.int .i64 0) he0 rfl rfl (wanted_plain rfl _) (rn_asg rfl (he0.op rfl) w) ?_
  intro a1 he1
  clear he0 a
  refine wpList_nil ?_
  refine then_ok ?_
  refine wp_seq ?_
  refine wp_seq ?_
  refine wp_region_lit ?_
  refine lV (Value.pointer pa) he1 rfl rfl (wanted_plain rfl _) (rn_mv rfl (he1.op rfl) w) ?_
  intro a2 he2
  clear he1 a1
  refine lC he2 rfl rfl Tryd.func36 (by kernel_rfl) rfl rfl (wanted_plain rfl _) rfl (unmade_t pa w (h.new hH.new) (hT.new hH.new)) ?_
  intro w3 a4 hn he4
  have hH3 := hH.call hn
  clear he2 a2 hH hn
  refine wpList_nil ?_
  refine then_ok ?_
  refine wp_cond_true (he4.op rfl) ?_
  refine wp_seq ?_
  refine wp_region_lit ?_
  refine lV (Value.int .i64 0) he4 rfl rfl (wanted_plain rfl _) (rn_asg rfl (he4.op rfl) w3) ?_
  intro a5 he5
  clear he4 a4
  refine wpList_nil ?_
  refine then_ok ?_
  refine wp_ret ?_
  try simp only [Exit.then, Exit.inBlock]
  exact ret_env rfl he5 rfl ⟨rfl, hH3.new⟩
set_option linter.unusedSimpArgs false in
set_option maxRecDepth 100000 in
set_option maxHeartbeats 1600000 in
theorem cap_n (pa : Option Addr)  (w : World) (h : Um w pa) (hT : Tab w) : Calls Tryd.prog 22 #[.pointer pa] w fun e w' => e = .returned (.int .i64 0) ∧ New w w' := by
  refine calls_args (vl := [Value.pointer pa]) 9 Tryd.func22 rfl Tryd.ntmps22 (by kernel_rfl) (fun a he => ?_)
  have he0 : Env 9 [(0, Value.pointer pa)] a := he
  clear he
  have hH := Hp.start w
  refine wp_seq ?_
  refine wp_region_lit ?_
  refine lV (Value.int .i64 0) he0 rfl rfl (wanted_plain rfl _) (rn_asg rfl (he0.op rfl) w) ?_
  intro a1 he1
  clear he0 a
  refine wpList_nil ?_
  refine then_ok ?_
  refine wp_seq ?_
  refine wp_seq ?_
  refine wp_region_lit ?_
  refine lV (Value.pointer pa) he1 rfl rfl (wanted_plain rfl _) (rn_mv rfl (he1.op rfl) w) ?_
  intro a2 he2
  clear he1 a1
  refine lC he2 rfl rfl Tryd.func36 (by kernel_rfl) rfl rfl (wanted_plain rfl _) rfl (unmade_t pa w (h.new hH.new) (hT.new hH.new)) ?_
  intro w3 a4 hn he4
  have hH3 := hH.call hn
  clear he2 a2 hH hn
  refine wpList_nil ?_
  refine then_ok ?_
  refine wp_cond_true (he4.op rfl) ?_
  refine wp_seq ?_
  refine wp_region_lit ?_
  refine lV (Value.int .i64 0) he4 rfl rfl (wanted_plain rfl _) (rn_asg rfl (he4.op rfl) w3) ?_
  intro a5 he5
  clear he4 a4
  refine wpList_nil ?_
  refine then_ok ?_
  refine wp_ret ?_
  try simp only [Exit.then, Exit.inBlock]
  exact ret_env rfl he5 rfl ⟨rfl, hH3.new⟩
set_option linter.unusedSimpArgs false in
set_option maxRecDepth 100000 in
set_option maxHeartbeats 1600000 in
theorem gone_n (pa : Option Addr)  (w : World) (h : Um w pa) (hT : Tab w) : Calls Tryd.prog 19 #[.pointer pa] w fun e w' => e = .returned (.int .i64 0) ∧ New w w' := by
  refine calls_args (vl := [Value.pointer pa]) 9 Tryd.func19 rfl Tryd.ntmps19 (by kernel_rfl) (fun a he => ?_)
  have he0 : Env 9 [(0, Value.pointer pa)] a := he
  clear he
  have hH := Hp.start w
  refine wp_seq ?_
  refine wp_region_lit ?_
  refine lV (Value.int .i64 0) he0 rfl rfl (wanted_plain rfl _) (rn_asg rfl (he0.op rfl) w) ?_
  intro a1 he1
  clear he0 a
  refine wpList_nil ?_
  refine then_ok ?_
  refine wp_seq ?_
  refine wp_seq ?_
  refine wp_region_lit ?_
  refine lV (Value.pointer pa) he1 rfl rfl (wanted_plain rfl _) (rn_mv rfl (he1.op rfl) w) ?_
  intro a2 he2
  clear he1 a1
  refine lC he2 rfl rfl Tryd.func36 (by kernel_rfl) rfl rfl (wanted_plain rfl _) rfl (unmade_t pa w (h.new hH.new) (hT.new hH.new)) ?_
  intro w3 a4 hn he4
  have hH3 := hH.call hn
  clear he2 a2 hH hn
  refine wpList_nil ?_
  refine then_ok ?_
  refine wp_cond_true (he4.op rfl) ?_
  refine wp_seq ?_
  refine wp_region_lit ?_
  refine lV (Value.int .i64 0) he4 rfl rfl (wanted_plain rfl _) (rn_asg rfl (he4.op rfl) w3) ?_
  intro a5 he5
  clear he4 a4
  refine wpList_nil ?_
  refine then_ok ?_
  refine wp_ret ?_
  try simp only [Exit.then, Exit.inBlock]
  exact ret_env rfl he5 rfl ⟨rfl, hH3.new⟩
set_option linter.unusedSimpArgs false in
set_option maxRecDepth 100000 in
set_option maxHeartbeats 1600000 in
theorem lines_n (pa : Option Addr)  (w : World) (h : Um w pa) (hT : Tab w) : Calls Tryd.prog 23 #[.pointer pa] w fun e w' => e = .returned (.slice none 0 0) ∧ New w w' := by
  refine calls_args (vl := [Value.pointer pa]) 31 Tryd.func23 rfl Tryd.ntmps23 (by kernel_rfl) (fun a he => ?_)
  have he0 : Env 31 [(0, Value.pointer pa)] a := he
  clear he
  have hH := Hp.start w
  refine wp_seq ?_
  refine wp_region_lit ?_
  refine lV (Value.slice none 0 0) he0 rfl rfl (wanted_plain rfl _) (rn_asg rfl (he0.op rfl) w) ?_
  intro a1 he1
  clear he0 a
  refine wpList_nil ?_
  refine then_ok ?_
  refine wp_seq ?_
  refine wp_seq ?_
  refine wp_region_lit ?_
  refine lV (Value.pointer pa) he1 rfl rfl (wanted_plain rfl _) (rn_mv rfl (he1.op rfl) w) ?_
  intro a2 he2
  clear he1 a1
  refine lC he2 rfl rfl Tryd.func36 (by kernel_rfl) rfl rfl (wanted_plain rfl _) rfl (unmade_t pa w (h.new hH.new) (hT.new hH.new)) ?_
  intro w3 a4 hn he4
  have hH3 := hH.call hn
  clear he2 a2 hH hn
  refine wpList_nil ?_
  refine then_ok ?_
  refine wp_cond_true (he4.op rfl) ?_
  refine wp_seq ?_
  refine wp_region_lit ?_
  refine lV (Value.slice none 0 0) he4 rfl rfl (wanted_plain rfl _) (rn_asg rfl (he4.op rfl) w3) ?_
  intro a5 he5
  clear he4 a4
  refine wpList_nil ?_
  refine then_ok ?_
  refine wp_ret ?_
  try simp only [Exit.then, Exit.inBlock]
  exact ret_env rfl he5 rfl ⟨rfl, hH3.new⟩
set_option linter.unusedSimpArgs false in
set_option maxRecDepth 100000 in
set_option maxHeartbeats 1600000 in
theorem copy_n (pa : Option Addr)  (w : World) (h : Um w pa) (hT : Tab w) : Calls Tryd.prog 24 #[.pointer pa] w fun e w' => e = .returned (.pointer none) ∧ New w w' := by
  refine calls_args (vl := [Value.pointer pa]) 17 Tryd.func24 rfl Tryd.ntmps24 (by kernel_rfl) (fun a he => ?_)
  have he0 : Env 17 [(0, Value.pointer pa)] a := he
  clear he
  have hH := Hp.start w
  refine wp_seq ?_
  refine wp_region_lit ?_
  refine lV (Value.pointer none) he0 rfl rfl (wanted_plain rfl _) (rn_asg rfl (he0.op rfl) w) ?_
  intro a1 he1
  clear he0 a
  refine wpList_nil ?_
  refine then_ok ?_
  refine wp_seq ?_
  refine wp_seq ?_
  refine wp_region_lit ?_
  refine lV (Value.pointer pa) he1 rfl rfl (wanted_plain rfl _) (rn_mv rfl (he1.op rfl) w) ?_
  intro a2 he2
  clear he1 a1
  refine lC he2 rfl rfl Tryd.func36 (by kernel_rfl) rfl rfl (wanted_plain rfl _) rfl (unmade_t pa w (h.new hH.new) (hT.new hH.new)) ?_
  intro w3 a4 hn he4
  have hH3 := hH.call hn
  clear he2 a2 hH hn
  refine wpList_nil ?_
  refine then_ok ?_
  refine wp_cond_true (he4.op rfl) ?_
  refine wp_seq ?_
  refine wp_region_lit ?_
  refine lV (Value.pointer none) he4 rfl rfl (wanted_plain rfl _) (rn_asg rfl (he4.op rfl) w3) ?_
  intro a5 he5
  clear he4 a4
  refine wpList_nil ?_
  refine then_ok ?_
  refine wp_ret ?_
  try simp only [Exit.then, Exit.inBlock]
  exact ret_env rfl he5 rfl ⟨rfl, hH3.new⟩
set_option linter.unusedSimpArgs false in
set_option maxRecDepth 100000 in
set_option maxHeartbeats 1600000 in
theorem push_n (pa : Option Addr) (A : Option Addr) (n c : Nat) (s : Bool) (w : World) (h : Um w pa) (hT : Tab w) : Calls Tryd.prog 13 #[.pointer pa, Value.agg #[Value.slice A n c, Value.bool s]] w fun e w' => e = .returned (.int .i64 1) ∧ New w w' := by
  refine calls_args (vl := [Value.pointer pa, Value.agg #[Value.slice A n c, Value.bool s]]) 27 Tryd.func13 rfl Tryd.ntmps13 (by kernel_rfl) (fun a he => ?_)
  have he0 : Env 27 [(0, Value.pointer pa), (1, Value.agg #[Value.slice A n c, Value.bool s])] a := he
  clear he
  have hH := Hp.start w
  refine wp_seq ?_
  refine wp_region_lit ?_
  refine lNewP (fun p => .pointer (some ⟨p, 0, none⟩)) he0 hH rfl rfl (wanted_plain rfl _) (rn_boxL rfl (he0.op rfl) w) ?_
  intro p1 w1 a2 hp hn hH1 he2
  clear he0 a hH hn hp
  refine lV (Value.int .i64 0) he2 rfl rfl (wanted_plain rfl _) (rn_asg rfl (he2.op rfl) w1) ?_
  intro a3 he3
  clear he2 a2
  refine wpList_nil ?_
  refine then_ok ?_
  refine wp_seq ?_
  refine wp_block ?_
  refine wp_seq ?_
  refine wp_region_lit ?_
  refine lV (Value.pointer pa) he3 rfl rfl (wanted_plain rfl _) (rn_mv rfl (he3.op rfl) w1) ?_
  intro a4 he4
  clear he3 a3
  refine lC he4 rfl rfl Tryd.func36 (by kernel_rfl) rfl rfl (wanted_plain rfl _) rfl (unmade_t pa w1 (h.new hH1.new) (hT.new hH1.new)) ?_
  intro w5 a6 hn he6
  have hH5 := hH1.call hn
  clear he4 a4 hH1 hn
  refine lV (Value.bool true) he6 rfl rfl (wanted_plain rfl _) (rn_asg rfl (he6.op rfl) w5) ?_
  intro a7 he7
  clear he6 a6
  refine wpList_nil ?_
  refine then_ok ?_
  refine wp_cond_true (he7.op rfl) ?_
  refine wp_seq ?_
  refine wp_region_lit ?_
  refine lV (Value.int .i64 1) he7 rfl rfl (wanted_plain rfl _) (rn_asg rfl (he7.op rfl) w5) ?_
  intro a8 he8
  clear he7 a7
  refine wpList_nil ?_
  refine then_ok ?_
  refine wp_ret ?_
  try simp only [Exit.then, Exit.inBlock]
  exact ret_env rfl he8 rfl ⟨rfl, hH5.new⟩
set_option linter.unusedSimpArgs false in
set_option maxRecDepth 100000 in
set_option maxHeartbeats 1600000 in
theorem set_n (pa : Option Addr) (i : Int) (A : Option Addr) (n c : Nat) (s : Bool) (w : World) (h : Um w pa) (hT : Tab w) : Calls Tryd.prog 21 #[.pointer pa, Value.int .i64 i, Value.agg #[Value.slice A n c, Value.bool s]] w fun e w' => e = .returned (.int .i64 1) ∧ New w w' := by
  refine calls_args (vl := [Value.pointer pa, Value.int .i64 i, Value.agg #[Value.slice A n c, Value.bool s]]) 27 Tryd.func21 rfl Tryd.ntmps21 (by kernel_rfl) (fun a he => ?_)
  have he0 : Env 27 [(0, Value.pointer pa), (1, Value.int .i64 i), (2, Value.agg #[Value.slice A n c, Value.bool s])] a := he
  clear he
  have hH := Hp.start w
  refine wp_seq ?_
  refine wp_region_lit ?_
  refine lNewP (fun p => .pointer (some ⟨p, 0, none⟩)) he0 hH rfl rfl (wanted_plain rfl _) (rn_boxL rfl (he0.op rfl) w) ?_
  intro p1 w1 a2 hp hn hH1 he2
  clear he0 a hH hn hp
  refine lV (Value.int .i64 0) he2 rfl rfl (wanted_plain rfl _) (rn_asg rfl (he2.op rfl) w1) ?_
  intro a3 he3
  clear he2 a2
  refine wpList_nil ?_
  refine then_ok ?_
  refine wp_seq ?_
  refine wp_block ?_
  refine wp_seq ?_
  refine wp_region_lit ?_
  refine lV (Value.pointer pa) he3 rfl rfl (wanted_plain rfl _) (rn_mv rfl (he3.op rfl) w1) ?_
  intro a4 he4
  clear he3 a3
  refine lC he4 rfl rfl Tryd.func36 (by kernel_rfl) rfl rfl (wanted_plain rfl _) rfl (unmade_t pa w1 (h.new hH1.new) (hT.new hH1.new)) ?_
  intro w5 a6 hn he6
  have hH5 := hH1.call hn
  clear he4 a4 hH1 hn
  refine lV (Value.bool true) he6 rfl rfl (wanted_plain rfl _) (rn_asg rfl (he6.op rfl) w5) ?_
  intro a7 he7
  clear he6 a6
  refine wpList_nil ?_
  refine then_ok ?_
  refine wp_cond_true (he7.op rfl) ?_
  refine wp_seq ?_
  refine wp_region_lit ?_
  refine lV (Value.int .i64 1) he7 rfl rfl (wanted_plain rfl _) (rn_asg rfl (he7.op rfl) w5) ?_
  intro a8 he8
  clear he7 a7
  refine wpList_nil ?_
  refine then_ok ?_
  refine wp_ret ?_
  try simp only [Exit.then, Exit.inBlock]
  exact ret_env rfl he8 rfl ⟨rfl, hH5.new⟩
set_option linter.unusedSimpArgs false in
set_option maxRecDepth 100000 in
set_option maxHeartbeats 1600000 in
theorem drop_n (pa : Option Addr) (i : Int) (w : World) (h : Um w pa) (hT : Tab w) : Calls Tryd.prog 16 #[.pointer pa, Value.int .i64 i] w fun e w' => e = .returned (.int .i64 1) ∧ New w w' := by
  refine calls_args (vl := [Value.pointer pa, Value.int .i64 i]) 43 Tryd.func16 rfl Tryd.ntmps16 (by kernel_rfl) (fun a he => ?_)
  have he0 : Env 43 [(0, Value.pointer pa), (1, Value.int .i64 i)] a := he
  clear he
  have hH := Hp.start w
  refine wp_seq ?_
  refine wp_region_lit ?_
  refine lV (Value.int .i64 0) he0 rfl rfl (wanted_plain rfl _) (rn_asg rfl (he0.op rfl) w) ?_
  intro a1 he1
  clear he0 a
  refine wpList_nil ?_
  refine then_ok ?_
  refine wp_seq ?_
  refine wp_block ?_
  refine wp_seq ?_
  refine wp_region_lit ?_
  refine lV (Value.pointer pa) he1 rfl rfl (wanted_plain rfl _) (rn_mv rfl (he1.op rfl) w) ?_
  intro a2 he2
  clear he1 a1
  refine lC he2 rfl rfl Tryd.func36 (by kernel_rfl) rfl rfl (wanted_plain rfl _) rfl (unmade_t pa w (h.new hH.new) (hT.new hH.new)) ?_
  intro w3 a4 hn he4
  have hH3 := hH.call hn
  clear he2 a2 hH hn
  refine lV (Value.bool true) he4 rfl rfl (wanted_plain rfl _) (rn_asg rfl (he4.op rfl) w3) ?_
  intro a5 he5
  clear he4 a4
  refine wpList_nil ?_
  refine then_ok ?_
  refine wp_cond_true (he5.op rfl) ?_
  refine wp_seq ?_
  refine wp_region_lit ?_
  refine lV (Value.int .i64 1) he5 rfl rfl (wanted_plain rfl _) (rn_asg rfl (he5.op rfl) w3) ?_
  intro a6 he6
  clear he5 a5
  refine wpList_nil ?_
  refine then_ok ?_
  refine wp_ret ?_
  try simp only [Exit.then, Exit.inBlock]
  exact ret_env rfl he6 rfl ⟨rfl, hH3.new⟩
set_option linter.unusedSimpArgs false in
set_option maxRecDepth 100000 in
set_option maxHeartbeats 1600000 in
theorem pop_n (pa : Option Addr)  (w : World) (h : Um w pa) (hT : Tab w) : Calls Tryd.prog 25 #[.pointer pa] w fun e w' => e = .returned (.tuple #[.agg #[.slice none 0 0, .bool false], .int .i64 1]) ∧ New w w' := by
  refine calls_args (vl := [Value.pointer pa]) 47 Tryd.func25 rfl Tryd.ntmps25 (by kernel_rfl) (fun a he => ?_)
  have he0 : Env 47 [(0, Value.pointer pa)] a := he
  clear he
  have hH := Hp.start w
  refine wp_seq ?_
  refine wp_region_lit ?_
  refine lNewP (fun p => .pointer (some ⟨p, 0, none⟩)) he0 hH rfl rfl (wanted_plain rfl _) (rn_allocL rfl w) ?_
  intro p1 w1 a2 hp hn hH1 he2
  clear he0 a hH hn hp
  refine lV (Value.int .i64 0) he2 rfl rfl (wanted_plain rfl _) (rn_asg rfl (he2.op rfl) w1) ?_
  intro a3 he3
  clear he2 a2
  refine wpList_nil ?_
  refine then_ok ?_
  refine wp_seq ?_
  refine wp_block ?_
  refine wp_seq ?_
  refine wp_region_lit ?_
  refine lV (Value.pointer pa) he3 rfl rfl (wanted_plain rfl _) (rn_mv rfl (he3.op rfl) w1) ?_
  intro a4 he4
  clear he3 a3
  refine lC he4 rfl rfl Tryd.func36 (by kernel_rfl) rfl rfl (wanted_plain rfl _) rfl (unmade_t pa w1 (h.new hH1.new) (hT.new hH1.new)) ?_
  intro w5 a6 hn he6
  have hH5 := hH1.call hn
  clear he4 a4 hH1 hn
  refine lV (Value.bool true) he6 rfl rfl (wanted_plain rfl _) (rn_asg rfl (he6.op rfl) w5) ?_
  intro a7 he7
  clear he6 a6
  refine wpList_nil ?_
  refine then_ok ?_
  refine wp_cond_true (he7.op rfl) ?_
  refine wp_seq ?_
  refine wp_region_lit ?_
  refine lV (Value.agg #[Value.slice none 0 0, Value.bool false]) he7 rfl rfl (wanted_plain rfl _) (rn_bL rfl  w5) ?_
  intro a8 he8
  clear he7 a7
  refine lSetF 0 #[Value.slice none 0 0, Value.bool false] (cs := #[Value.slice none 0 0, Value.bool false]) he8 hH5 rfl (wanted_plain rfl _) rfl rfl rfl rfl rfl (by kernel_rfl) (by kernel_rfl) (by kernel_rfl) rfl ?_
  intro w9 a10 hH9 hf he10
  replace hH9 : Hp w [⟨p1, 35, #[Value.slice none 0 0, Value.bool false]⟩] w9 := hH9
  clear hf
  clear he8 a8 hH5
  refine lV (Value.int .i64 1) he10 rfl rfl (wanted_plain rfl _) (rn_asg rfl (he10.op rfl) w9) ?_
  intro a11 he11
  clear he10 a10
  refine wpList_nil ?_
  refine then_ok ?_
  refine wp_ret ?_
  try simp only [Exit.then, Exit.inBlock]
  exact ret_rowt rfl he11 rfl rfl (hH9.at (i := 0) rfl) undL rfl infoL2 ⟨rfl, hH9.new⟩
set_option linter.unusedSimpArgs false in
set_option maxRecDepth 100000 in
set_option maxHeartbeats 1600000 in
theorem get_n (pa : Option Addr) (i : Int) (w : World) (h : Um w pa) (hT : Tab w) : Calls Tryd.prog 35 #[.pointer pa, Value.int .i64 i] w fun e w' => e = .returned (.tuple #[.agg #[.slice none 0 0, .bool false], .int .i64 1]) ∧ New w w' := by
  refine calls_args (vl := [Value.pointer pa, Value.int .i64 i]) 24 Tryd.func35 rfl Tryd.ntmps35 (by kernel_rfl) (fun a he => ?_)
  have he0 : Env 24 [(0, Value.pointer pa), (1, Value.int .i64 i)] a := he
  clear he
  have hH := Hp.start w
  refine wp_seq ?_
  refine wp_region_lit ?_
  refine lNewP (fun p => .pointer (some ⟨p, 0, none⟩)) he0 hH rfl rfl (wanted_plain rfl _) (rn_allocL rfl w) ?_
  intro p1 w1 a2 hp hn hH1 he2
  clear he0 a hH hn hp
  refine lV (Value.int .i64 0) he2 rfl rfl (wanted_plain rfl _) (rn_asg rfl (he2.op rfl) w1) ?_
  intro a3 he3
  clear he2 a2
  refine wpList_nil ?_
  refine then_ok ?_
  refine wp_seq ?_
  refine wp_block ?_
  refine wp_seq ?_
  refine wp_region_lit ?_
  refine lV (Value.pointer pa) he3 rfl rfl (wanted_plain rfl _) (rn_mv rfl (he3.op rfl) w1) ?_
  intro a4 he4
  clear he3 a3
  refine lC he4 rfl rfl Tryd.func36 (by kernel_rfl) rfl rfl (wanted_plain rfl _) rfl (unmade_t pa w1 (h.new hH1.new) (hT.new hH1.new)) ?_
  intro w5 a6 hn he6
  have hH5 := hH1.call hn
  clear he4 a4 hH1 hn
  refine lV (Value.bool true) he6 rfl rfl (wanted_plain rfl _) (rn_asg rfl (he6.op rfl) w5) ?_
  intro a7 he7
  clear he6 a6
  refine wpList_nil ?_
  refine then_ok ?_
  refine wp_cond_true (he7.op rfl) ?_
  refine wp_seq ?_
  refine wp_region_lit ?_
  refine lV (Value.agg #[Value.slice none 0 0, Value.bool false]) he7 rfl rfl (wanted_plain rfl _) (rn_bL rfl  w5) ?_
  intro a8 he8
  clear he7 a7
  refine lSetF 0 #[Value.slice none 0 0, Value.bool false] (cs := #[Value.slice none 0 0, Value.bool false]) he8 hH5 rfl (wanted_plain rfl _) rfl rfl rfl rfl rfl (by kernel_rfl) (by kernel_rfl) (by kernel_rfl) rfl ?_
  intro w9 a10 hH9 hf he10
  replace hH9 : Hp w [⟨p1, 35, #[Value.slice none 0 0, Value.bool false]⟩] w9 := hH9
  clear hf
  clear he8 a8 hH5
  refine lV (Value.int .i64 1) he10 rfl rfl (wanted_plain rfl _) (rn_asg rfl (he10.op rfl) w9) ?_
  intro a11 he11
  clear he10 a10
  refine wpList_nil ?_
  refine then_ok ?_
  refine wp_ret ?_
  try simp only [Exit.then, Exit.inBlock]
  exact ret_rowt rfl he11 rfl rfl (hH9.at (i := 0) rfl) undL rfl infoL2 ⟨rfl, hH9.new⟩
set_option linter.unusedSimpArgs false in
set_option maxRecDepth 100000 in
set_option maxHeartbeats 1600000 in
theorem room_n (pa : Option Addr) (w : World) (h : Um w pa) (hT : Tab w) : Calls Tryd.prog 15 #[.pointer pa] w fun e w' => e = .returned (.int .i64 0) ∧ New w w' := by
  refine calls_args (vl := [Value.pointer pa]) 11 Tryd.func15 rfl Tryd.ntmps15 (by kernel_rfl) (fun a he => ?_)
  have he0 : Env 11 [(0, Value.pointer pa)] a := he
  clear he
  have hH := Hp.start w
  refine wp_seq ?_
  refine wp_region_lit ?_
  refine lV (Value.int .i64 0) he0 rfl rfl (wanted_plain rfl _) (rn_asg rfl (he0.op rfl) w) ?_
  intro a1 he1
  clear he0 a
  refine wpList_nil ?_
  refine then_ok ?_
  refine wp_seq ?_
  refine wp_region_lit ?_
  refine lV (Value.pointer pa) he1 rfl rfl (wanted_plain rfl _) (rn_mv rfl (he1.op rfl) w) ?_
  intro a2 he2
  clear he1 a1
  refine lC he2 rfl rfl Tryd.func22 (by kernel_rfl) rfl rfl (wanted_plain rfl _) rfl (cap_n pa w (h.new hH.new) (hT.new hH.new)) ?_
  intro w3 a4 hn he4
  have hH3 := hH.call hn
  clear he2 a2 hH hn
  refine lV (Value.pointer pa) he4 rfl rfl (wanted_plain rfl _) (rn_mv rfl (he4.op rfl) w3) ?_
  intro a5 he5
  clear he4 a4
  refine lC he5 rfl rfl Tryd.func19 (by kernel_rfl) rfl rfl (wanted_plain rfl _) rfl (gone_n pa w3 (h.new hH3.new) (hT.new hH3.new)) ?_
  intro w6 a7 hn he7
  have hH6 := hH3.call hn
  clear he5 a5 hH3 hn
  refine lV (Value.int .i64 0) he7 rfl rfl (wanted_plain rfl _) (rn_subI rfl (he7.op rfl) (he7.op rfl) (by decide) w6) ?_
  intro a8 he8
  clear he7 a7
  refine lV (Value.pointer pa) he8 rfl rfl (wanted_plain rfl _) (rn_mv rfl (he8.op rfl) w6) ?_
  intro a9 he9
  clear he8 a8
  refine lC he9 rfl rfl Tryd.func18 (by kernel_rfl) rfl rfl (wanted_plain rfl _) rfl (len_n pa w6 (h.new hH6.new) (hT.new hH6.new)) ?_
  intro w10 a11 hn he11
  have hH10 := hH6.call hn
  clear he9 a9 hH6 hn
  refine lV (Value.int .i64 0) he11 rfl rfl (wanted_plain rfl _) (rn_subI rfl (he11.op rfl) (he11.op rfl) (by decide) w10) ?_
  intro a12 he12
  clear he11 a11
  refine lV (Value.int .i64 0) he12 rfl rfl (wanted_plain rfl _) (rn_asg rfl (he12.op rfl) w10) ?_
  intro a13 he13
  clear he12 a12
  refine wpList_nil ?_
  refine then_ok ?_
  refine wp_ret ?_
  try simp only [Exit.then, Exit.inBlock]
  exact ret_env rfl he13 rfl ⟨rfl, hH10.new⟩
end Go.Proofs.YtjnghaoboopflaaDoor
