/-
  The law's small functions at a nil or zero ring.
-/
import Derived.Test.YtlpjhaghphmbeaaDoorRLaws
import Derived.Test.YtlpjhaghphmbeaaDoorRNil
namespace Go.Proofs.YtlpjhaghphmbeaaDoor
open Go.RowKit

set_option linter.unusedSimpArgs false in
set_option maxRecDepth 100000 in
set_option maxHeartbeats 1600000 in
theorem pushes_n (pa : Option Addr) (A : Option Addr) (n c : Nat) (s : Bool) (w : World) (h : UmR w pa) (hT : Tab w) : Calls Tryd.prog 17 #[.pointer pa, .agg #[.slice A n c, .bool s], .int .i64 0, .int .i64 1] w fun e w' => e = .returned (.bool true) ∧ New w w' := by
  refine calls_args (vl := [.pointer pa, .agg #[.slice A n c, .bool s], .int .i64 0, .int .i64 1]) 25 Tryd.func17 rfl Tryd.ntmps17 (by kernel_rfl) (fun a he => ?_)
  have he0 : Env 25 [(0, .pointer pa), (1, .agg #[.slice A n c, .bool s]), (2, .int .i64 0), (3, .int .i64 1)] a := he
  clear he
  have hH := Hp.start w
  refine wp_seq (wp_region_lit ?_)
  refine lNewP (fun p => .pointer (some ⟨p, 0, none⟩)) he0 hH rfl rfl (wanted_plain rfl _) (rn_boxL rfl (he0.op rfl) w) ?_
  intro p1 w1 a2 hp hn hH1 he2
  clear he0 a hH hn hp
  refine lW (.bool false) he2 rfl (rn_asg rfl (he2.op rfl) w1) ?_
  intro a3 he3
  clear he2 a2
  refine wpList_nil (then_ok ?_)
  refine wp_seq (wp_region_lit ?_)
  refine lW (.pointer pa) he3 rfl (rn_mv rfl (he3.op rfl) w1) ?_
  intro a4 he4
  clear he3 a3
  refine lW (.agg #[.slice A n c, .bool s]) he4 rfl (rn_ldp _ rfl (he4.op rfl) undL rfl infoL2 (hH1.at (i := 0) rfl) rfl) ?_
  intro a5 he5
  clear he4 a4
  refine lC he5 rfl rfl Tryd.func32 (by kernel_rfl) rfl rfl (wanted_plain rfl _) rfl (rPush_n pa _ _ _ _ w1 (h.new hH1.new) (hT.new hH1.new)) ?_
  intro w6 a7 hn he7
  have hH6 := hH1.call hn
  clear he5 a5 hH1 hn
  refine lW (.tuple #[.int .i64 0, .int .i64 1]) he7 rfl (rn_mv rfl (he7.op rfl) w6) ?_
  intro a8 he8
  clear he7 a7
  refine lW (.int .i64 0) he8 rfl (rn_ext rfl (he8.op rfl) rfl w6) ?_
  intro a9 he9
  clear he8 a8
  refine lW (.int .i64 1) he9 rfl (rn_ext rfl (he9.op rfl) rfl w6) ?_
  intro a10 he10
  clear he9 a9
  refine lW (.int .i64 0) he10 rfl (rn_asg rfl (he10.op rfl) w6) ?_
  intro a11 he11
  clear he10 a10
  refine lW (.int .i64 1) he11 rfl (rn_asg rfl (he11.op rfl) w6) ?_
  intro a12 he12
  clear he11 a11
  refine wpList_nil (then_ok ?_)
  refine wp_seq (wp_region_lit ?_)
  refine lW (.int .i64 0) he12 rfl (rn_mv rfl (he12.op rfl) w6) ?_
  intro a13 he13
  clear he12 a12
  refine lW (.int .i64 0) he13 rfl (rn_mv rfl (he13.op rfl) w6) ?_
  intro a14 he14
  clear he13 a13
  refine lW (.bool true) he14 rfl (rn_eqI rfl (he14.op rfl) (he14.op rfl) (by rfl) w6) ?_
  intro a15 he15
  clear he14 a14
  refine lW (.bool true) he15 rfl (rn_mv rfl (he15.op rfl) w6) ?_
  intro a16 he16
  clear he15 a15
  refine lV (.int .i64 1) he16 rfl rfl (he16.want rfl rfl rfl rfl rfl) (rn_mv rfl (he16.op rfl) w6) ?_
  intro a17 he17
  clear he16 a16
  refine lV (.int .i64 1) he17 rfl rfl (he17.want rfl rfl rfl rfl rfl) (rn_mv rfl (he17.op rfl) w6) ?_
  intro a18 he18
  clear he17 a17
  refine lV (.bool true) he18 rfl rfl (he18.want rfl rfl rfl rfl rfl) (rn_eqE rfl (he18.op rfl) (he18.op rfl) (by rfl) w6) ?_
  intro a19 he19
  clear he18 a18
  refine lW (.bool true) he19 rfl (rn_pk rfl (he19.op rfl) (he19.op rfl) w6) ?_
  intro a20 he20
  clear he19 a19
  refine lW (.bool true) he20 rfl (rn_asg rfl (he20.op rfl) w6) ?_
  intro a21 he21
  clear he20 a20
  refine wpList_nil (then_ok ?_)
  refine wp_ret ?_
  try simp only [Exit.then, Exit.inBlock]
  exact ret_env rfl he21 rfl ⟨rfl, hH6.new⟩
set_option linter.unusedSimpArgs false in
set_option maxRecDepth 100000 in
set_option maxHeartbeats 1600000 in
theorem gets_n (pa : Option Addr) (i : Int) (w : World) (h : UmR w pa) (hT : Tab w) : Calls Tryd.prog 15 #[.pointer pa, .int .i64 i, .agg #[.slice none 0 0, .bool false], .int .i64 1] w fun e w' => e = .returned (.bool true) ∧ New w w' := by
  refine calls_args (vl := [.pointer pa, .int .i64 i, .agg #[.slice none 0 0, .bool false], .int .i64 1]) 25 Tryd.func15 rfl Tryd.ntmps15 (by kernel_rfl) (fun a he => ?_)
  have he0 : Env 25 [(0, .pointer pa), (1, .int .i64 i), (2, .agg #[.slice none 0 0, .bool false]), (3, .int .i64 1)] a := he
  clear he
  have hH := Hp.start w
  refine wp_seq (wp_region_lit ?_)
  refine lNewP (fun p => .pointer (some ⟨p, 0, none⟩)) he0 hH rfl rfl (wanted_plain rfl _) (rn_boxL rfl (he0.op rfl) w) ?_
  intro p1 w1 a2 hp hn hH1 he2
  clear he0 a hH hn hp
  refine lW (.bool false) he2 rfl (rn_asg rfl (he2.op rfl) w1) ?_
  intro a3 he3
  clear he2 a2
  refine wpList_nil (then_ok ?_)
  refine wp_seq (wp_region_lit ?_)
  refine lW (.pointer pa) he3 rfl (rn_mv rfl (he3.op rfl) w1) ?_
  intro a4 he4
  clear he3 a3
  refine lW (.int .i64 i) he4 rfl (rn_mv rfl (he4.op rfl) w1) ?_
  intro a5 he5
  clear he4 a4
  refine lC he5 rfl rfl Tryd.func44 (by kernel_rfl) rfl rfl (wanted_plain rfl _) rfl (rGet_n pa i w1 (h.new hH1.new) (hT.new hH1.new)) ?_
  intro w6 a7 hn he7
  have hH6 := hH1.call hn
  clear he5 a5 hH1 hn
  refine lW (.tuple #[.agg #[.slice none 0 0, .bool false], .int .i64 1]) he7 rfl (rn_mv rfl (he7.op rfl) w6) ?_
  intro a8 he8
  clear he7 a7
  refine lW (.agg #[.slice none 0 0, .bool false]) he8 rfl (rn_ext rfl (he8.op rfl) rfl w6) ?_
  intro a9 he9
  clear he8 a8
  refine lW (.int .i64 1) he9 rfl (rn_ext rfl (he9.op rfl) rfl w6) ?_
  intro a10 he10
  clear he9 a9
  refine lNewP (fun p => .pointer (some ⟨p, 0, none⟩)) he10 hH6 rfl rfl (wanted_plain rfl _) (rn_allocL rfl w6) ?_
  intro p11 w11 a12 hp hn hH11 he12
  clear he10 a10 hH6 hn hp
  refine lSetF 0 #[.slice none 0 0, .bool false] (cs := #[.slice none 0 0, .bool false]) he12 hH11 rfl (wanted_plain rfl _) rfl rfl rfl rfl rfl (by kernel_rfl) (by kernel_rfl) (by kernel_rfl) rfl ?_
  intro w13 a14 hH13 hf he14
  replace hH13 : Hp w [⟨p11, 36, #[.slice none 0 0, .bool false]⟩, ⟨p1, 36, #[.slice none 0 0, .bool false]⟩] w13 := hH13
  clear hf
  clear he12 a12 hH11
  refine lW (.int .i64 1) he14 rfl (rn_asg rfl (he14.op rfl) w13) ?_
  intro a15 he15
  clear he14 a14
  refine wpList_nil (then_ok ?_)
  refine wp_seq (wp_region_lit ?_)
  refine lW (.agg #[.slice none 0 0, .bool false]) he15 rfl (rn_ldp _ rfl (he15.op rfl) undL rfl infoL2 (hH13.at (i := 0) rfl) rfl) ?_
  intro a16 he16
  clear he15 a15
  refine lW (.agg #[.slice none 0 0, .bool false]) he16 rfl (rn_ldp _ rfl (he16.op rfl) undL rfl infoL2 (hH13.at (i := 1) rfl) rfl) ?_
  intro a17 he17
  clear he16 a16
  refine lC he17 rfl rfl Tryd.func23 (by kernel_rfl) rfl rfl (wanted_plain rfl _) rfl (same_s _ [] false _ [] false true (by simp) (by simp) (by simp) w13 (SlC.nil _) (SlC.nil _)) ?_
  intro w18 a19 hn he19
  have hH18 := hH13.call hn
  clear he17 a17 hH13 hn
  refine lW (.bool true) he19 rfl (rn_mv rfl (he19.op rfl) w18) ?_
  intro a20 he20
  clear he19 a19
  refine lV (.int .i64 1) he20 rfl rfl (he20.want rfl rfl rfl rfl rfl) (rn_mv rfl (he20.op rfl) w18) ?_
  intro a21 he21
  clear he20 a20
  refine lV (.int .i64 1) he21 rfl rfl (he21.want rfl rfl rfl rfl rfl) (rn_mv rfl (he21.op rfl) w18) ?_
  intro a22 he22
  clear he21 a21
  refine lV (.bool true) he22 rfl rfl (he22.want rfl rfl rfl rfl rfl) (rn_eqE rfl (he22.op rfl) (he22.op rfl) (by rfl) w18) ?_
  intro a23 he23
  clear he22 a22
  refine lW (.bool true) he23 rfl (rn_pk rfl (he23.op rfl) (he23.op rfl) w18) ?_
  intro a24 he24
  clear he23 a23
  refine lW (.bool true) he24 rfl (rn_asg rfl (he24.op rfl) w18) ?_
  intro a25 he25
  clear he24 a24
  refine wpList_nil (then_ok ?_)
  refine wp_ret ?_
  try simp only [Exit.then, Exit.inBlock]
  exact ret_env rfl he25 rfl ⟨rfl, hH18.new⟩
set_option linter.unusedSimpArgs false in
set_option maxRecDepth 100000 in
set_option maxHeartbeats 1600000 in
theorem pops_n (pa : Option Addr)  (w : World) (h : UmR w pa) (hT : Tab w) : Calls Tryd.prog 25 #[.pointer pa, .agg #[.slice none 0 0, .bool false], .int .i64 1] w fun e w' => e = .returned (.bool true) ∧ New w w' := by
  refine calls_args (vl := [.pointer pa, .agg #[.slice none 0 0, .bool false], .int .i64 1]) 22 Tryd.func25 rfl Tryd.ntmps25 (by kernel_rfl) (fun a he => ?_)
  have he0 : Env 22 [(0, .pointer pa), (1, .agg #[.slice none 0 0, .bool false]), (2, .int .i64 1)] a := he
  clear he
  have hH := Hp.start w
  refine wp_seq (wp_region_lit ?_)
  refine lNewP (fun p => .pointer (some ⟨p, 0, none⟩)) he0 hH rfl rfl (wanted_plain rfl _) (rn_boxL rfl (he0.op rfl) w) ?_
  intro p1 w1 a2 hp hn hH1 he2
  clear he0 a hH hn hp
  refine lW (.bool false) he2 rfl (rn_asg rfl (he2.op rfl) w1) ?_
  intro a3 he3
  clear he2 a2
  refine wpList_nil (then_ok ?_)
  refine wp_seq (wp_region_lit ?_)
  refine lW (.pointer pa) he3 rfl (rn_mv rfl (he3.op rfl) w1) ?_
  intro a4 he4
  clear he3 a3
  refine lC he4 rfl rfl Tryd.func31 (by kernel_rfl) rfl rfl (wanted_plain rfl _) rfl (rPop_n pa w1 (h.new hH1.new) (hT.new hH1.new)) ?_
  intro w5 a6 hn he6
  have hH5 := hH1.call hn
  clear he4 a4 hH1 hn
  refine lW (.tuple #[.agg #[.slice none 0 0, .bool false], .int .i64 1]) he6 rfl (rn_mv rfl (he6.op rfl) w5) ?_
  intro a7 he7
  clear he6 a6
  refine lW (.agg #[.slice none 0 0, .bool false]) he7 rfl (rn_ext rfl (he7.op rfl) rfl w5) ?_
  intro a8 he8
  clear he7 a7
  refine lW (.int .i64 1) he8 rfl (rn_ext rfl (he8.op rfl) rfl w5) ?_
  intro a9 he9
  clear he8 a8
  refine lNewP (fun p => .pointer (some ⟨p, 0, none⟩)) he9 hH5 rfl rfl (wanted_plain rfl _) (rn_allocL rfl w5) ?_
  intro p10 w10 a11 hp hn hH10 he11
  clear he9 a9 hH5 hn hp
  refine lSetF 0 #[.slice none 0 0, .bool false] (cs := #[.slice none 0 0, .bool false]) he11 hH10 rfl (wanted_plain rfl _) rfl rfl rfl rfl rfl (by kernel_rfl) (by kernel_rfl) (by kernel_rfl) rfl ?_
  intro w12 a13 hH12 hf he13
  replace hH12 : Hp w [⟨p10, 36, #[.slice none 0 0, .bool false]⟩, ⟨p1, 36, #[.slice none 0 0, .bool false]⟩] w12 := hH12
  clear hf
  clear he11 a11 hH10
  refine lW (.int .i64 1) he13 rfl (rn_asg rfl (he13.op rfl) w12) ?_
  intro a14 he14
  clear he13 a13
  refine wpList_nil (then_ok ?_)
  refine wp_seq (wp_region_lit ?_)
  refine lW (.agg #[.slice none 0 0, .bool false]) he14 rfl (rn_ldp _ rfl (he14.op rfl) undL rfl infoL2 (hH12.at (i := 0) rfl) rfl) ?_
  intro a15 he15
  clear he14 a14
  refine lW (.agg #[.slice none 0 0, .bool false]) he15 rfl (rn_ldp _ rfl (he15.op rfl) undL rfl infoL2 (hH12.at (i := 1) rfl) rfl) ?_
  intro a16 he16
  clear he15 a15
  refine lC he16 rfl rfl Tryd.func23 (by kernel_rfl) rfl rfl (wanted_plain rfl _) rfl (same_s _ [] false _ [] false true (by simp) (by simp) (by simp) w12 (SlC.nil _) (SlC.nil _)) ?_
  intro w17 a18 hn he18
  have hH17 := hH12.call hn
  clear he16 a16 hH12 hn
  refine lW (.bool true) he18 rfl (rn_mv rfl (he18.op rfl) w17) ?_
  intro a19 he19
  clear he18 a18
  refine lV (.int .i64 1) he19 rfl rfl (he19.want rfl rfl rfl rfl rfl) (rn_mv rfl (he19.op rfl) w17) ?_
  intro a20 he20
  clear he19 a19
  refine lV (.int .i64 1) he20 rfl rfl (he20.want rfl rfl rfl rfl rfl) (rn_mv rfl (he20.op rfl) w17) ?_
  intro a21 he21
  clear he20 a20
  refine lV (.bool true) he21 rfl rfl (he21.want rfl rfl rfl rfl rfl) (rn_eqE rfl (he21.op rfl) (he21.op rfl) (by rfl) w17) ?_
  intro a22 he22
  clear he21 a21
  refine lW (.bool true) he22 rfl (rn_pk rfl (he22.op rfl) (he22.op rfl) w17) ?_
  intro a23 he23
  clear he22 a22
  refine lW (.bool true) he23 rfl (rn_asg rfl (he23.op rfl) w17) ?_
  intro a24 he24
  clear he23 a23
  refine wpList_nil (then_ok ?_)
  refine wp_ret ?_
  try simp only [Exit.then, Exit.inBlock]
  exact ret_env rfl he24 rfl ⟨rfl, hH17.new⟩
set_option linter.unusedSimpArgs false in
set_option maxRecDepth 100000 in
set_option maxHeartbeats 1600000 in
theorem ranges_n (pa : Option Addr) (u v : Int) (w : World) (h : UmR w pa) (hT : Tab w) : Calls Tryd.prog 16 #[.pointer pa, .int .i64 u, .int .i64 v, .int .i64 1, .slice none 0 0] w fun e w' => e = .returned (.bool true) ∧ New w w' := by
  refine calls_args (vl := [.pointer pa, .int .i64 u, .int .i64 v, .int .i64 1, .slice none 0 0]) 28 Tryd.func16 rfl Tryd.ntmps16 (by kernel_rfl) (fun a he => ?_)
  have he0 : Env 28 [(0, .pointer pa), (1, .int .i64 u), (2, .int .i64 v), (3, .int .i64 1), (4, .slice none 0 0)] a := he
  clear he
  have hH := Hp.start w
  refine wp_seq (wp_region_lit ?_)
  refine lW (.bool false) he0 rfl (rn_asg rfl (he0.op rfl) w) ?_
  intro a1 he1
  clear he0 a
  refine wpList_nil (then_ok ?_)
  refine wp_seq (wp_region_lit ?_)
  refine lW (.pointer pa) he1 rfl (rn_mv rfl (he1.op rfl) w) ?_
  intro a2 he2
  clear he1 a1
  refine lW (.int .i64 u) he2 rfl (rn_mv rfl (he2.op rfl) w) ?_
  intro a3 he3
  clear he2 a2
  refine lW (.int .i64 v) he3 rfl (rn_mv rfl (he3.op rfl) w) ?_
  intro a4 he4
  clear he3 a3
  refine lC he4 rfl rfl Tryd.func22 (by kernel_rfl) rfl rfl (wanted_plain rfl _) rfl (rRange_n pa u v w (h.new hH.new) (hT.new hH.new)) ?_
  intro w5 a6 hn he6
  have hH5 := hH.call hn
  clear he4 a4 hH hn
  refine lW (.tuple #[.slice none 0 0, .int .i64 1]) he6 rfl (rn_mv rfl (he6.op rfl) w5) ?_
  intro a7 he7
  clear he6 a6
  refine lW (.slice none 0 0) he7 rfl (rn_ext rfl (he7.op rfl) rfl w5) ?_
  intro a8 he8
  clear he7 a7
  refine lW (.int .i64 1) he8 rfl (rn_ext rfl (he8.op rfl) rfl w5) ?_
  intro a9 he9
  clear he8 a8
  refine lW (.slice none 0 0) he9 rfl (rn_asg rfl (he9.op rfl) w5) ?_
  intro a10 he10
  clear he9 a9
  refine lW (.int .i64 1) he10 rfl (rn_asg rfl (he10.op rfl) w5) ?_
  intro a11 he11
  clear he10 a10
  refine wpList_nil (then_ok ?_)
  refine wp_seq (wp_region_lit ?_)
  refine lW (.slice none 0 0) he11 rfl (rn_mv rfl (he11.op rfl) w5) ?_
  intro a12 he12
  clear he11 a11
  refine lW (.slice none 0 0) he12 rfl (rn_mv rfl (he12.op rfl) w5) ?_
  intro a13 he13
  clear he12 a12
  refine lC he13 rfl rfl Tryd.func42 (by kernel_rfl) rfl rfl (wanted_plain rfl _) rfl (all_b _ _ [] [] true (by simp) (by simp) (by simp) (by simp) (by simp) w5 (LnsF.nil _ _) (LnsF.nil _ _)) ?_
  intro w14 a15 hn he15
  have hH14 := hH5.call hn
  clear he13 a13 hH5 hn
  refine lW (.bool true) he15 rfl (rn_mv rfl (he15.op rfl) w14) ?_
  intro a16 he16
  clear he15 a15
  refine lV (.int .i64 1) he16 rfl rfl (he16.want rfl rfl rfl rfl rfl) (rn_mv rfl (he16.op rfl) w14) ?_
  intro a17 he17
  clear he16 a16
  refine lV (.int .i64 1) he17 rfl rfl (he17.want rfl rfl rfl rfl rfl) (rn_mv rfl (he17.op rfl) w14) ?_
  intro a18 he18
  clear he17 a17
  refine lV (.bool true) he18 rfl rfl (he18.want rfl rfl rfl rfl rfl) (rn_eqE rfl (he18.op rfl) (he18.op rfl) (by rfl) w14) ?_
  intro a19 he19
  clear he18 a18
  refine lW (.bool true) he19 rfl (rn_pk rfl (he19.op rfl) (he19.op rfl) w14) ?_
  intro a20 he20
  clear he19 a19
  refine lW (.bool true) he20 rfl (rn_asg rfl (he20.op rfl) w14) ?_
  intro a21 he21
  clear he20 a20
  refine wpList_nil (then_ok ?_)
  refine wp_ret ?_
  try simp only [Exit.then, Exit.inBlock]
  exact ret_env rfl he21 rfl ⟨rfl, hH14.new⟩
end Go.Proofs.YtlpjhaghphmbeaaDoor
