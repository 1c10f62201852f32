/-
  Package line.
  Package line: what is built on Fit, Used and Valid.
  The specification's functions of layer 6.
  Regions of calls and allocations in whatever order, over slices of cells and lines.
-/
import Derived.Test.YtlpjhaghphmbeaaDoorA8
import Derived.Test.YtlpjhaghphmbeaaDoorDSmall
import Derived.Test.YtlpjhaghphmbeaaDoorCValid
import Derived.Test.YtlpjhaghphmbeaaDoorA5
import Derived.Deep.DeepCutAuto
import Derived.Deep.CutBlock
import Derived.Deep.CutRange
import Derived.Laws.MakeOwn
import Derived.Laws.OwnMore
import Derived.Test.YtlpjhaghphmbeaaDoorDRow
import Derived.Test.YtlpjhaghphmbeaaDoorDMarks
import Derived.Test.YtlpjhaghphmbeaaDoorA2
import Derived.OpenShut
import Derived.Laws.Cover4
import Derived.Test.YtlpjhaghphmbeaaDoorCRow
import Derived.Test.YtlpjhaghphmbeaaDoorCSame
import Derived.Test.YtlpjhaghphmbeaaDoorA7
namespace Go.Proofs.YtlpjhaghphmbeaaDoor
open Go.RowKit

theorem le_said {w w' : World} {A : Option Addr} {c : Nat} {l : List Ce} {s : Bool} {e : Int} {r : Lr} (h : OwnC w' w.heap.size (.slice A l.length c) l.length l) (he : r = ⟨l, s, e⟩) (hn : New w w') : LeSaid r w (.returned (.tuple #[.agg #[.slice A l.length c, .bool s], .int .i64 e])) w' := by
  subst he
  exact ⟨⟨A, c, rfl, h⟩, hn⟩
theorem le_zero {w w' : World} {r : Lr} {e : Int} (he : r = ⟨[], false, e⟩) (hn : New w w') : LeSaid r w (.returned (.tuple #[.agg #[.slice none 0 0, .bool false], .int .i64 e])) w' :=
  le_said (own_nil _ _) he hn
section
variable {ρ : Operand → Value} {o : Oper} {x y z : Operand}
end

set_option linter.unusedSimpArgs false in
set_option maxRecDepth 100000 in
set_option maxHeartbeats 1600000 in
theorem LValid_b (l : List Ce) (n b cap : Nat) (A : Option Addr) (so : Bool) (v : Bool) (hv : okL l = v) (w : World) (hr : RdC w b A n l) (hT : Tab w) :
    Calls Tryd.prog 51 #[.agg #[.slice A n cap, .bool so]] w fun e w' => e = .returned (.bool v) ∧ New w w' := by
  have hl := hr.1
  refine calls_args (vl := [.agg #[.slice A n cap, .bool so]]) 12 Tryd.func51 rfl Tryd.ntmps51 (by kernel_rfl) (fun a he => ?_)
  have he0 : Env 12 [(0, .agg #[.slice A n cap, .bool so])] a := he
  clear he
  have hH := Hp.start w
  refine wp_seq (wp_region_lit ?_)
  refine lNew (fun p => .pointer (some ⟨p, 0, none⟩)) he0 hH rfl rfl (wanted_plain rfl _) (rn_boxL rfl (he0.op rfl) w) ?_
  intro p1 w1 a2 hn hH1 he2
  clear he0 a hH hn
  refine lW (.bool false) he2 rfl (rn_asg rfl (he2.op rfl) w1) ?_
  intro a3 he3
  clear he2 a2
  refine wpList_nil (then_ok ?_)
  by_cases h1 : n ≤ 1000
  · skip
    have hw : rowB l = v := by rw [← hv, okL, hl, decide_eq_true h1, Bool.true_and]
    refine wp_seq (wp_region_lit ?_)
    refine lW (.pointer (some ⟨p1, 0, none⟩)) he3 rfl (rn_faL0 rfl (he3.op rfl) rfl w1) ?_
    intro a4 he4
    clear he3 a3
    refine lW (.slice A n cap) he4 rfl (rn_ldS rfl (he4.op rfl) (hH1.at (i := 0) rfl) rfl) ?_
    intro a5 he5
    clear he4 a4
    refine lW (.int .i64 n) he5 rfl (rn_lenC rfl (he5.op rfl) w1) ?_
    intro a6 he6
    clear he5 a5
    refine lW (.bool true) he6 rfl (rn_leq rfl (he6.op rfl) (he6.op rfl) (decide_eq_true (by omega)) w1) ?_
    intro a7 he7
    clear he6 a6
    refine lW (.bool true) he7 rfl (rn_mv rfl (he7.op rfl) w1) ?_
    intro a8 he8
    clear he7 a7
    refine lV (.pointer (some ⟨p1, 0, none⟩)) he8 rfl rfl (he8.want rfl rfl rfl rfl rfl) (rn_faL0 rfl (he8.op rfl) rfl w1) ?_
    intro a9 he9
    clear he8 a8
    refine lV (.slice A n cap) he9 rfl rfl (he9.want rfl rfl rfl rfl rfl) (rn_ldS rfl (he9.op rfl) (hH1.at (i := 0) rfl) rfl) ?_
    intro a10 he10
    clear he9 a9
    refine lC he10 rfl rfl Tryd.func66 (by kernel_rfl) rfl rfl (he10.want rfl rfl rfl rfl rfl) rfl (hw ▸ CRow_any l n b cap A w1 (hr.new hH1.new) (by omega) (hT.new hH1.new)) ?_
    intro w11 a12 hn he12
    have hH11 := hH1.call hn
    clear he10 a10 hH1 hn
    refine lW (.bool v) he12 rfl (rn_pk rfl (he12.op rfl) (he12.op rfl) w11) ?_
    intro a13 he13
    clear he12 a12
    refine lW (.bool v) he13 rfl (rn_asg rfl (he13.op rfl) w11) ?_
    intro a14 he14
    clear he13 a13
    refine wpList_nil (then_ok ?_)
    refine wp_ret ?_
    try simp only [Exit.then, Exit.inBlock, Exit.noGoto]
    exact ret_env rfl he14 rfl ⟨rfl, hH11.new⟩
  have hw : v = false := by rw [← hv, okL, hl, decide_eq_false h1, Bool.false_and]
  subst hw
  refine wp_seq (wp_region_lit ?_)
  refine lW (.pointer (some ⟨p1, 0, none⟩)) he3 rfl (rn_faL0 rfl (he3.op rfl) rfl w1) ?_
  intro a15 he15
  clear he3 a3
  refine lW (.slice A n cap) he15 rfl (rn_ldS rfl (he15.op rfl) (hH1.at (i := 0) rfl) rfl) ?_
  intro a16 he16
  clear he15 a15
  refine lW (.int .i64 n) he16 rfl (rn_lenC rfl (he16.op rfl) w1) ?_
  intro a17 he17
  clear he16 a16
  refine lW (.bool false) he17 rfl (rn_leq rfl (he17.op rfl) (he17.op rfl) (decide_eq_false (by omega)) w1) ?_
  intro a18 he18
  clear he17 a17
  refine lW (.bool false) he18 rfl (rn_mv rfl (he18.op rfl) w1) ?_
  intro a19 he19
  clear he18 a18
  refine lSkip he19 rfl rfl (he19.wantNot rfl rfl rfl rfl rfl rfl) ?_
  intro a20 he20
  clear he19 a19
  refine lSkip he20 rfl rfl (he20.wantNot rfl rfl rfl rfl rfl rfl) ?_
  intro a21 he21
  clear he20 a20
  refine lSkip he21 rfl rfl (he21.wantNot rfl rfl rfl rfl rfl rfl) ?_
  intro a22 he22
  clear he21 a21
  refine lW (.bool false) he22 rfl (rn_pk0 rfl (he22.op rfl) (he22.op rfl) w1) ?_
  intro a23 he23
  clear he22 a22
  refine lW (.bool false) he23 rfl (rn_asg rfl (he23.op rfl) w1) ?_
  intro a24 he24
  clear he23 a23
  refine wpList_nil (then_ok ?_)
  refine wp_ret ?_
  try simp only [Exit.then, Exit.inBlock, Exit.noGoto]
  exact ret_env rfl he24 rfl ⟨rfl, hH1.new⟩

end Go.Proofs.YtlpjhaghphmbeaaDoor
namespace Go.Proofs.YtlpjhaghphmbeaaDoor
open Go.RowKit

set_option linter.unusedSimpArgs false in
set_option maxRecDepth 100000 in
set_option maxHeartbeats 1600000 in
theorem LCopy_any (l : List Ce) (n b cap : Nat) (A : Option Addr) (so : Bool) (w : World) (hr : RdC w b A n l) (hn : n ≤ 1000000) :
    Calls Tryd.prog 65 #[.agg #[.slice A n cap, .bool so]] w (LnSaid l so w) := by
  refine calls_args (vl := [.agg #[.slice A n cap, .bool so]]) 9 Tryd.func65 rfl Tryd.ntmps65 (by kernel_rfl) (fun a he => ?_)
  have he0 : Env 9 [(0, .agg #[.slice A n cap, .bool so])] a := he
  clear he
  have hH := Hp.start w
  refine wp_seq (wp_region_lit ?_)
  refine lNew (fun p => .pointer (some ⟨p, 0, none⟩)) he0 hH rfl rfl (wanted_plain rfl _) (rn_boxL rfl (he0.op rfl) w) ?_
  intro p1 w1 a2 hn hH1 he2
  clear he0 a hH hn
  refine lNew (fun p => .pointer (some ⟨p, 0, none⟩)) he2 hH1 rfl rfl (wanted_plain rfl _) (rn_allocL rfl w1) ?_
  intro p3 w3 a4 hn hH3 he4
  clear he2 a2 hH1 hn
  refine wpList_nil (then_ok ?_)
  refine wp_seq ?_
  refine wp_region_held_drew (S := Hp w [⟨p1, 36, #[.slice A n cap, .bool so]⟩]) (by kernel_rfl) ((hH3.drew).drop1 0 rfl) (fun _ => ?_)
  have hn : New w3 (World.drew w3) := (Fr.refl _ _).drew
  clear hn
  have hH5 := hH3.drew
  clear hH3
  generalize World.drew w3 = w5 at *
  refine hW (fuel := 6) (i := 0) (.pointer (some ⟨p1, 0, none⟩)) he4 rfl (by kernel_rfl) (fun _ _ _ h => h) (fun w' _ => rn_faL0 rfl (he4.op rfl) rfl w') (hH5.drop1 0 rfl) ?_
  intro a6 he6
  clear he4 a4
  refine hW (fuel := 5) (i := 1) (.slice A n cap) he6 rfl (by kernel_rfl) (fun _ _ _ h => h) (fun w' hw' => rn_ldS rfl (he6.op rfl) (hw'.at (i := 0) rfl) rfl) (hH5.drop1 0 rfl) ?_
  intro a7 he7
  clear he6 a6
  refine hW (fuel := 4) (i := 3) (.pointer (some ⟨p1, 1, none⟩)) he7 rfl (by kernel_rfl) (fun _ _ _ h => h) (fun w' _ => rn_faL1 rfl (he7.op rfl) rfl w') (hH5.drop1 0 rfl) ?_
  intro a8 he8
  clear he7 a7
  refine hW (fuel := 3) (i := 4) (.bool so) he8 rfl (by kernel_rfl) (fun _ _ _ h => h) (fun w' hw' => rn_ldB rfl (he8.op rfl) (hw'.at (i := 0) rfl) rfl) (hH5.drop1 0 rfl) ?_
  intro a9 he9
  clear he8 a8
  have hzhof := hH5.new.size
  refine hC (fuel := 2) (i := 2) he9 (by kernel_rfl) rfl rfl rfl Tryd.func73 (by kernel_rfl) rfl rfl (wanted_plain rfl _) rfl (CloneC_any l n b cap A w5 (hr.new hH5.new) hn) ?_
  rintro _ w10 ⟨⟨Af, cf, rfl, hof⟩, hn⟩
  replace hof := own_base hof (fun k_ hk_ => Nat.le_trans hzhof (own_blk hof k_ hk_))
  clear hzhof
  have hH10 := hH5.call hn
  refine ⟨_, rfl, (hH10.drop1 0 rfl), ?_⟩
  intro a11 he11
  clear he9 a9 hH5 hn
  refine hW (fuel := 1) (i := 5) (.agg #[.slice Af l.length cf, .bool so]) he11 rfl (by kernel_rfl) (fun _ _ _ h => h) (fun w' _ => rn_bL01 rfl (he11.op rfl) (he11.op rfl) w') (hH10.drop1 0 rfl) ?_
  intro a12 he12
  clear he11 a11
  refine hSetV (fuel := 0) (n := 6) 0 #[.slice Af l.length cf, .bool so] (cs := #[.slice Af l.length cf, .bool so]) he12 hH10 (by kernel_rfl) rfl rfl (wanted_plain rfl _) rfl rfl rfl rfl rfl (by kernel_rfl) (by kernel_rfl) (by kernel_rfl) rfl ?_
  intro w13 a14 hH13 hf he14
  replace hof := own_fr hof hf (fun k_ hk_ e_ => own_far hof (hH10.at (i := 0) rfl) (show 95 ≠ 36 from by decide) (hk_.trans (congrArg some e_)))
  replace hH13 : Hp w [⟨p3, 36, #[.slice Af l.length cf, .bool so]⟩, ⟨p1, 36, #[.slice A n cap, .bool so]⟩] w13 := hH13
  refine ⟨(hH13.drop1 0 rfl), ?_⟩
  clear hf
  clear he12 a12 hH10
  refine wpAnyH_done (by kernel_rfl) ?_ _
  refine then_ok ?_
  refine wp_ret ?_
  try simp only [Exit.then, Exit.inBlock]
  exact ret_row rfl he14 rfl (hH13.at (i := 0) rfl) undL rfl infoL2 ⟨⟨_, _, rfl, hof⟩, hH13.new⟩

end Go.Proofs.YtlpjhaghphmbeaaDoor
namespace Go.Proofs.YtlpjhaghphmbeaaDoor
open Go.RowKit

set_option linter.unusedSimpArgs false in
set_option maxRecDepth 100000 in
set_option maxHeartbeats 1600000 in
theorem RColumns_b (n : Int) (v : Bool) (hv : (decide (0 ≤ n) && decide (n ≤ 1000)) = v) (w : World) :
    Calls Tryd.prog 71 #[.int .i64 n] w fun e w' => e = .returned (.bool v) ∧ New w w' := by
  refine calls_args (vl := [.int .i64 n]) 9 Tryd.func71 rfl Tryd.ntmps71 (by kernel_rfl) (fun a he => ?_)
  have he0 : Env 9 [(0, .int .i64 n)] a := he
  clear he
  have hH := Hp.start w
  refine wp_seq (wp_region_lit ?_)
  refine lW (.bool false) he0 rfl (rn_asg rfl (he0.op rfl) w) ?_
  intro a1 he1
  clear he0 a
  refine wpList_nil (then_ok ?_)
  obtain ⟨e, he⟩ : ∃ e, decide (0 ≤ n) = e := ⟨_, rfl⟩
  rw [he] at hv
  cases e with
  | false =>
    have hw : v = false := by simpa using hv.symm
    subst hw
    refine wp_seq (wp_region_lit ?_)
    refine lW (.int .i64 n) he1 rfl (rn_mv rfl (he1.op rfl) w) ?_
    intro a2 he2
    clear he1 a1
    refine lW (.bool false) he2 rfl (rn_geq rfl (he2.op rfl) (he2.op rfl) he w) ?_
    intro a3 he3
    clear he2 a2
    refine lW (.bool false) he3 rfl (rn_mv rfl (he3.op rfl) w) ?_
    intro a4 he4
    clear he3 a3
    refine lSkip he4 rfl rfl (he4.wantNot rfl rfl rfl rfl rfl rfl) ?_
    intro a5 he5
    clear he4 a4
    refine lSkip he5 rfl rfl (he5.wantNot rfl rfl rfl rfl rfl rfl) ?_
    intro a6 he6
    clear he5 a5
    refine lW (.bool false) he6 rfl (rn_pk0 rfl (he6.op rfl) (he6.op rfl) w) ?_
    intro a7 he7
    clear he6 a6
    refine lW (.bool false) he7 rfl (rn_asg rfl (he7.op rfl) w) ?_
    intro a8 he8
    clear he7 a7
    refine wpList_nil (then_ok ?_)
    refine wp_ret ?_
    try simp only [Exit.then, Exit.inBlock, Exit.noGoto]
    exact ret_env rfl he8 rfl ⟨rfl, hH.new⟩
  | true =>
    have hw : decide (n ≤ 1000) = v := by simpa using hv
    refine wp_seq (wp_region_lit ?_)
    refine lW (.int .i64 n) he1 rfl (rn_mv rfl (he1.op rfl) w) ?_
    intro a9 he9
    clear he1 a1
    refine lW (.bool true) he9 rfl (rn_geq rfl (he9.op rfl) (he9.op rfl) he w) ?_
    intro a10 he10
    clear he9 a9
    refine lW (.bool true) he10 rfl (rn_mv rfl (he10.op rfl) w) ?_
    intro a11 he11
    clear he10 a10
    refine lV (.int .i64 n) he11 rfl rfl (he11.want rfl rfl rfl rfl rfl) (rn_mv rfl (he11.op rfl) w) ?_
    intro a12 he12
    clear he11 a11
    refine lV (.bool v) he12 rfl rfl (he12.want rfl rfl rfl rfl rfl) (rn_leq rfl (he12.op rfl) (he12.op rfl) hw w) ?_
    intro a13 he13
    clear he12 a12
    refine lW (.bool v) he13 rfl (rn_pk rfl (he13.op rfl) (he13.op rfl) w) ?_
    intro a14 he14
    clear he13 a13
    refine lW (.bool v) he14 rfl (rn_asg rfl (he14.op rfl) w) ?_
    intro a15 he15
    clear he14 a14
    refine wpList_nil (then_ok ?_)
    refine wp_ret ?_
    try simp only [Exit.then, Exit.inBlock, Exit.noGoto]
    exact ret_env rfl he15 rfl ⟨rfl, hH.new⟩

set_option linter.unusedSimpArgs false in
set_option maxRecDepth 100000 in
set_option maxHeartbeats 1600000 in
theorem RLValid_b (l : List Ce) (n b cap : Nat) (A : Option Addr) (so : Bool) (v : Bool) (hv : okL l = v) (w : World) (hr : RdC w b A n l) :
    Calls Tryd.prog 59 #[.agg #[.slice A n cap, .bool so]] w fun e w' => e = .returned (.bool v) ∧ New w w' := by
  have hl := hr.1
  refine calls_args (vl := [.agg #[.slice A n cap, .bool so]]) 12 Tryd.func59 rfl Tryd.ntmps59 (by kernel_rfl) (fun a he => ?_)
  have he0 : Env 12 [(0, .agg #[.slice A n cap, .bool so])] a := he
  clear he
  have hH := Hp.start w
  refine wp_seq (wp_region_lit ?_)
  refine lNew (fun p => .pointer (some ⟨p, 0, none⟩)) he0 hH rfl rfl (wanted_plain rfl _) (rn_boxL rfl (he0.op rfl) w) ?_
  intro p1 w1 a2 hn hH1 he2
  clear he0 a hH hn
  refine lW (.bool false) he2 rfl (rn_asg rfl (he2.op rfl) w1) ?_
  intro a3 he3
  clear he2 a2
  refine wpList_nil (then_ok ?_)
  by_cases h1 : n ≤ 1000
  · skip
    have hw : rowB l = v := by rw [← hv, okL, hl, decide_eq_true h1, Bool.true_and]
    refine wp_seq (wp_region_lit ?_)
    refine lW (.pointer (some ⟨p1, 0, none⟩)) he3 rfl (rn_faL0 rfl (he3.op rfl) rfl w1) ?_
    intro a4 he4
    clear he3 a3
    refine lW (.slice A n cap) he4 rfl (rn_ldS rfl (he4.op rfl) (hH1.at (i := 0) rfl) rfl) ?_
    intro a5 he5
    clear he4 a4
    refine lW (.int .i64 n) he5 rfl (rn_lenC rfl (he5.op rfl) w1) ?_
    intro a6 he6
    clear he5 a5
    refine lC he6 rfl rfl Tryd.func71 (by kernel_rfl) rfl rfl (wanted_plain rfl _) rfl (RColumns_b (n : Int) true (by rw [decide_eq_true (by omega : (0 : Int) ≤ n), Bool.true_and]; exact decide_eq_true (by omega)) w1) ?_
    intro w7 a8 hn he8
    have hH7 := hH1.call hn
    clear he6 a6 hH1 hn
    refine lW (.bool true) he8 rfl (rn_mv rfl (he8.op rfl) w7) ?_
    intro a9 he9
    clear he8 a8
    refine lV (.pointer (some ⟨p1, 0, none⟩)) he9 rfl rfl (he9.want rfl rfl rfl rfl rfl) (rn_faL0 rfl (he9.op rfl) rfl w7) ?_
    intro a10 he10
    clear he9 a9
    refine lV (.slice A n cap) he10 rfl rfl (he10.want rfl rfl rfl rfl rfl) (rn_ldS rfl (he10.op rfl) (hH7.at (i := 0) rfl) rfl) ?_
    intro a11 he11
    clear he10 a10
    refine lC he11 rfl rfl Tryd.func72 (by kernel_rfl) rfl rfl (he11.want rfl rfl rfl rfl rfl) rfl (hw ▸ RRow_any l n b cap A w7 (hr.new hH7.new) (by omega)) ?_
    intro w12 a13 hn he13
    have hH12 := hH7.call hn
    clear he11 a11 hH7 hn
    refine lW (.bool v) he13 rfl (rn_pk rfl (he13.op rfl) (he13.op rfl) w12) ?_
    intro a14 he14
    clear he13 a13
    refine lW (.bool v) he14 rfl (rn_asg rfl (he14.op rfl) w12) ?_
    intro a15 he15
    clear he14 a14
    refine wpList_nil (then_ok ?_)
    refine wp_ret ?_
    try simp only [Exit.then, Exit.inBlock, Exit.noGoto]
    exact ret_env rfl he15 rfl ⟨rfl, hH12.new⟩
  have hw : v = false := by rw [← hv, okL, hl, decide_eq_false h1, Bool.false_and]
  subst hw
  refine wp_seq (wp_region_lit ?_)
  refine lW (.pointer (some ⟨p1, 0, none⟩)) he3 rfl (rn_faL0 rfl (he3.op rfl) rfl w1) ?_
  intro a16 he16
  clear he3 a3
  refine lW (.slice A n cap) he16 rfl (rn_ldS rfl (he16.op rfl) (hH1.at (i := 0) rfl) rfl) ?_
  intro a17 he17
  clear he16 a16
  refine lW (.int .i64 n) he17 rfl (rn_lenC rfl (he17.op rfl) w1) ?_
  intro a18 he18
  clear he17 a17
  refine lC he18 rfl rfl Tryd.func71 (by kernel_rfl) rfl rfl (wanted_plain rfl _) rfl (RColumns_b (n : Int) false (by rw [decide_eq_true (by omega : (0 : Int) ≤ n), Bool.true_and]; exact decide_eq_false (by omega)) w1) ?_
  intro w19 a20 hn he20
  have hH19 := hH1.call hn
  clear he18 a18 hH1 hn
  refine lW (.bool false) he20 rfl (rn_mv rfl (he20.op rfl) w19) ?_
  intro a21 he21
  clear he20 a20
  refine lSkip he21 rfl rfl (he21.wantNot rfl rfl rfl rfl rfl rfl) ?_
  intro a22 he22
  clear he21 a21
  refine lSkip he22 rfl rfl (he22.wantNot rfl rfl rfl rfl rfl rfl) ?_
  intro a23 he23
  clear he22 a22
  refine lSkip he23 rfl rfl (he23.wantNot rfl rfl rfl rfl rfl rfl) ?_
  intro a24 he24
  clear he23 a23
  refine lW (.bool false) he24 rfl (rn_pk0 rfl (he24.op rfl) (he24.op rfl) w19) ?_
  intro a25 he25
  clear he24 a24
  refine lW (.bool false) he25 rfl (rn_asg rfl (he25.op rfl) w19) ?_
  intro a26 he26
  clear he25 a25
  refine wpList_nil (then_ok ?_)
  refine wp_ret ?_
  try simp only [Exit.then, Exit.inBlock, Exit.noGoto]
  exact ret_env rfl he26 rfl ⟨rfl, hH19.new⟩

set_option linter.unusedSimpArgs false in
set_option maxRecDepth 100000 in
set_option maxHeartbeats 1600000 in
theorem RCopy_any (l : List Ce) (n b cap : Nat) (A : Option Addr) (so : Bool) (w : World) (hr : RdC w b A n l) (hn : n ≤ 1000000) :
    Calls Tryd.prog 34 #[.agg #[.slice A n cap, .bool so]] w (LnSaid l so w) := by
  refine calls_args (vl := [.agg #[.slice A n cap, .bool so]]) 9 Tryd.func34 rfl Tryd.ntmps34 (by kernel_rfl) (fun a he => ?_)
  have he0 : Env 9 [(0, .agg #[.slice A n cap, .bool so])] a := he
  clear he
  have hH := Hp.start w
  refine wp_seq (wp_region_lit ?_)
  refine lNew (fun p => .pointer (some ⟨p, 0, none⟩)) he0 hH rfl rfl (wanted_plain rfl _) (rn_boxL rfl (he0.op rfl) w) ?_
  intro p1 w1 a2 hn hH1 he2
  clear he0 a hH hn
  refine lNew (fun p => .pointer (some ⟨p, 0, none⟩)) he2 hH1 rfl rfl (wanted_plain rfl _) (rn_allocL rfl w1) ?_
  intro p3 w3 a4 hn hH3 he4
  clear he2 a2 hH1 hn
  refine wpList_nil (then_ok ?_)
  refine wp_seq ?_
  refine wp_region_held_drew (S := Hp w [⟨p1, 36, #[.slice A n cap, .bool so]⟩]) (by kernel_rfl) ((hH3.drew).drop1 0 rfl) (fun _ => ?_)
  have hn : New w3 (World.drew w3) := (Fr.refl _ _).drew
  clear hn
  have hH5 := hH3.drew
  clear hH3
  generalize World.drew w3 = w5 at *
  refine hW (fuel := 6) (i := 0) (.pointer (some ⟨p1, 0, none⟩)) he4 rfl (by kernel_rfl) (fun _ _ _ h => h) (fun w' _ => rn_faL0 rfl (he4.op rfl) rfl w') (hH5.drop1 0 rfl) ?_
  intro a6 he6
  clear he4 a4
  refine hW (fuel := 5) (i := 1) (.slice A n cap) he6 rfl (by kernel_rfl) (fun _ _ _ h => h) (fun w' hw' => rn_ldS rfl (he6.op rfl) (hw'.at (i := 0) rfl) rfl) (hH5.drop1 0 rfl) ?_
  intro a7 he7
  clear he6 a6
  refine hW (fuel := 4) (i := 3) (.pointer (some ⟨p1, 1, none⟩)) he7 rfl (by kernel_rfl) (fun _ _ _ h => h) (fun w' _ => rn_faL1 rfl (he7.op rfl) rfl w') (hH5.drop1 0 rfl) ?_
  intro a8 he8
  clear he7 a7
  refine hW (fuel := 3) (i := 4) (.bool so) he8 rfl (by kernel_rfl) (fun _ _ _ h => h) (fun w' hw' => rn_ldB rfl (he8.op rfl) (hw'.at (i := 0) rfl) rfl) (hH5.drop1 0 rfl) ?_
  intro a9 he9
  clear he8 a8
  refine hEx (fuel := 2) (i := 2) he9 (by kernel_rfl) rfl rfl rfl (wanted_plain rfl _) (rx_append (own_nil w5 w.heap.size) (hr.new hH5.new) rfl (he9.op rfl) (he9.op rfl) (by omega) hH5.new.size) ?_
  rintro vx wx ⟨hox, hgx, horx⟩
  have hHx := hH5.ownC (own_nil w5 w.heap.size) hgx (Nat.le_refl _) (by kernel_rfl)
  refine ⟨(hHx.drop1 0 rfl), ?_⟩
  intro a10 he10
  clear he9 a9
  clear hgx horx
  rw [List.nil_append] at hox
  have hq_ := own_shape hox
  clear hox
  obtain ⟨Ax, cx, rfl, hox⟩ := hq_
  refine hW (fuel := 1) (i := 5) (.agg #[.slice Ax l.length cx, .bool so]) he10 rfl (by kernel_rfl) (fun _ _ _ h => h) (fun w' _ => rn_bL01 rfl (he10.op rfl) (he10.op rfl) w') (hHx.drop1 0 rfl) ?_
  intro a11 he11
  clear he10 a10
  refine hSetV (fuel := 0) (n := 6) 0 #[.slice Ax l.length cx, .bool so] (cs := #[.slice Ax l.length cx, .bool so]) he11 hHx (by kernel_rfl) rfl rfl (wanted_plain rfl _) rfl rfl rfl rfl rfl (by kernel_rfl) (by kernel_rfl) (by kernel_rfl) rfl ?_
  intro w12 a13 hH12 hf he13
  replace hox := own_fr hox hf (fun k_ hk_ e_ => own_far hox (hHx.at (i := 0) rfl) (show 95 ≠ 36 from by decide) (hk_.trans (congrArg some e_)))
  replace hH12 : Hp w [⟨p3, 36, #[.slice Ax l.length cx, .bool so]⟩, ⟨p1, 36, #[.slice A n cap, .bool so]⟩] w12 := hH12
  refine ⟨(hH12.drop1 0 rfl), ?_⟩
  clear hf
  clear he11 a11 hHx
  refine wpAnyH_done (by kernel_rfl) ?_ _
  refine then_ok ?_
  refine wp_ret ?_
  try simp only [Exit.then, Exit.inBlock]
  exact ret_row rfl he13 rfl (hH12.at (i := 0) rfl) undL rfl infoL2 ⟨⟨_, _, rfl, hox⟩, hH12.new⟩

set_option linter.unusedSimpArgs false in
set_option maxRecDepth 100000 in
set_option maxHeartbeats 1600000 in
theorem RLSame_b (la lb : List Ce) (na nb ba bb ca cb : Nat) (A B : Option Addr) (sa sb v : Bool) (hv : ((sa == sb) && decide (la = lb)) = v) (w : World) (ha : RdC w ba A na la) (hb : RdC w bb B nb lb) (h1 : na ≤ 1000000) (h2 : nb ≤ 1000000) :
    Calls Tryd.prog 23 #[.agg #[.slice A na ca, .bool sa], .agg #[.slice B nb cb, .bool sb]] w fun e w' => e = .returned (.bool v) ∧ New w w' := by
  refine calls_args (vl := [.agg #[.slice A na ca, .bool sa], .agg #[.slice B nb cb, .bool sb]]) 17 Tryd.func23 rfl Tryd.ntmps23 (by kernel_rfl) (fun a he => ?_)
  have he0 : Env 17 [(0, .agg #[.slice A na ca, .bool sa]), (1, .agg #[.slice B nb cb, .bool sb])] a := he
  clear he
  have hH := Hp.start w
  refine wp_seq (wp_region_lit ?_)
  refine lNew (fun p => .pointer (some ⟨p, 0, none⟩)) he0 hH rfl rfl (wanted_plain rfl _) (rn_boxL rfl (he0.op rfl) w) ?_
  intro p1 w1 a2 hn hH1 he2
  clear he0 a hH hn
  refine lNew (fun p => .pointer (some ⟨p, 0, none⟩)) he2 hH1 rfl rfl (wanted_plain rfl _) (rn_boxL rfl (he2.op rfl) w1) ?_
  intro p3 w3 a4 hn hH3 he4
  clear he2 a2 hH1 hn
  refine lW (.bool false) he4 rfl (rn_asg rfl (he4.op rfl) w3) ?_
  intro a5 he5
  clear he4 a4
  refine wpList_nil (then_ok ?_)
  obtain ⟨e, he⟩ : ∃ e, (sa == sb) = e := ⟨_, rfl⟩
  rw [he] at hv
  cases e with
  | false =>
    have hw : v = false := by simpa using hv.symm
    subst hw
    refine wp_seq (wp_region_lit ?_)
    refine lW (.pointer (some ⟨p1, 1, none⟩)) he5 rfl (rn_faL1 rfl (he5.op rfl) rfl w3) ?_
    intro a6 he6
    clear he5 a5
    refine lW (.bool sa) he6 rfl (rn_ldB rfl (he6.op rfl) (hH3.at (i := 1) rfl) rfl) ?_
    intro a7 he7
    clear he6 a6
    refine lW (.pointer (some ⟨p3, 1, none⟩)) he7 rfl (rn_faL1 rfl (he7.op rfl) rfl w3) ?_
    intro a8 he8
    clear he7 a7
    refine lW (.bool sb) he8 rfl (rn_ldB rfl (he8.op rfl) (hH3.at (i := 0) rfl) rfl) ?_
    intro a9 he9
    clear he8 a8
    refine lW (.bool false) he9 rfl (rn_eqB rfl (he9.op rfl) (he9.op rfl) he w3) ?_
    intro a10 he10
    clear he9 a9
    refine lW (.bool false) he10 rfl (rn_mv rfl (he10.op rfl) w3) ?_
    intro a11 he11
    clear he10 a10
    refine lSkip he11 rfl rfl (he11.wantNot rfl rfl rfl rfl rfl rfl) ?_
    intro a12 he12
    clear he11 a11
    refine lSkip he12 rfl rfl (he12.wantNot rfl rfl rfl rfl rfl rfl) ?_
    intro a13 he13
    clear he12 a12
    refine lSkip he13 rfl rfl (he13.wantNot rfl rfl rfl rfl rfl rfl) ?_
    intro a14 he14
    clear he13 a13
    refine lSkip he14 rfl rfl (he14.wantNot rfl rfl rfl rfl rfl rfl) ?_
    intro a15 he15
    clear he14 a14
    refine lSkip he15 rfl rfl (he15.wantNot rfl rfl rfl rfl rfl rfl) ?_
    intro a16 he16
    clear he15 a15
    refine lW (.bool false) he16 rfl (rn_pk0 rfl (he16.op rfl) (he16.op rfl) w3) ?_
    intro a17 he17
    clear he16 a16
    refine lW (.bool false) he17 rfl (rn_asg rfl (he17.op rfl) w3) ?_
    intro a18 he18
    clear he17 a17
    refine wpList_nil (then_ok ?_)
    refine wp_ret ?_
    try simp only [Exit.then, Exit.inBlock, Exit.noGoto]
    exact ret_env rfl he18 rfl ⟨rfl, hH3.new⟩
  | true =>
    have hw : decide (la = lb) = v := by simpa using hv
    refine wp_seq (wp_region_lit ?_)
    refine lW (.pointer (some ⟨p1, 1, none⟩)) he5 rfl (rn_faL1 rfl (he5.op rfl) rfl w3) ?_
    intro a19 he19
    clear he5 a5
    refine lW (.bool sa) he19 rfl (rn_ldB rfl (he19.op rfl) (hH3.at (i := 1) rfl) rfl) ?_
    intro a20 he20
    clear he19 a19
    refine lW (.pointer (some ⟨p3, 1, none⟩)) he20 rfl (rn_faL1 rfl (he20.op rfl) rfl w3) ?_
    intro a21 he21
    clear he20 a20
    refine lW (.bool sb) he21 rfl (rn_ldB rfl (he21.op rfl) (hH3.at (i := 0) rfl) rfl) ?_
    intro a22 he22
    clear he21 a21
    refine lW (.bool true) he22 rfl (rn_eqB rfl (he22.op rfl) (he22.op rfl) he w3) ?_
    intro a23 he23
    clear he22 a22
    refine lW (.bool true) he23 rfl (rn_mv rfl (he23.op rfl) w3) ?_
    intro a24 he24
    clear he23 a23
    refine lV (.pointer (some ⟨p1, 0, none⟩)) he24 rfl rfl (he24.want rfl rfl rfl rfl rfl) (rn_faL0 rfl (he24.op rfl) rfl w3) ?_
    intro a25 he25
    clear he24 a24
    refine lV (.slice A na ca) he25 rfl rfl (he25.want rfl rfl rfl rfl rfl) (rn_ldS rfl (he25.op rfl) (hH3.at (i := 1) rfl) rfl) ?_
    intro a26 he26
    clear he25 a25
    refine lV (.pointer (some ⟨p3, 0, none⟩)) he26 rfl rfl (he26.want rfl rfl rfl rfl rfl) (rn_faL0 rfl (he26.op rfl) rfl w3) ?_
    intro a27 he27
    clear he26 a26
    refine lV (.slice B nb cb) he27 rfl rfl (he27.want rfl rfl rfl rfl rfl) (rn_ldS rfl (he27.op rfl) (hH3.at (i := 0) rfl) rfl) ?_
    intro a28 he28
    clear he27 a27
    refine lC he28 rfl rfl Tryd.func50 (by kernel_rfl) rfl rfl (he28.want rfl rfl rfl rfl rfl) rfl (hw ▸ RSame_any la lb na nb ba bb ca cb A B w3 (ha.new hH3.new) (hb.new hH3.new) h1 h2) ?_
    intro w29 a30 hn he30
    have hH29 := hH3.call hn
    clear he28 a28 hH3 hn
    refine lW (.bool v) he30 rfl (rn_pk rfl (he30.op rfl) (he30.op rfl) w29) ?_
    intro a31 he31
    clear he30 a30
    refine lW (.bool v) he31 rfl (rn_asg rfl (he31.op rfl) w29) ?_
    intro a32 he32
    clear he31 a31
    refine wpList_nil (then_ok ?_)
    refine wp_ret ?_
    try simp only [Exit.then, Exit.inBlock, Exit.noGoto]
    exact ret_env rfl he32 rfl ⟨rfl, hH29.new⟩

end Go.Proofs.YtlpjhaghphmbeaaDoor
namespace Go.Proofs.YtlpjhaghphmbeaaDoor
open Go.RowKit

inductive Kl where
  | val (v : Value)
  | cells (l : List Ce)
  | line (l : List Ce) (s : Bool)
def Kl.says : Kl → Value → World → Prop
  | .val u, v, _ => v = u
  | .cells l, v, w => SlC w v l
  | .line l s, v, w => ∃ x, v = .agg #[x, .bool s] ∧ SlC w x l
def HoldsL (Is : List Kl) (k : Nat) (v : Value) (w : World) : Prop := match Is[k]? with
  | some d => d.says v w
  | none => True
theorem HoldsL.new {Is : List Kl} (k : Nat) (v : Value) (w w' : World) (h : HoldsL Is k v w) (hn : New w w') : HoldsL Is k v w' := by
  unfold HoldsL at *
  cases hd : Is[k]? with
  | none => trivial
  | some d =>
    rw [hd] at h
    cases d with
    | val u => exact h
    | cells l => exact SlC.new h hn
    | line l s => obtain ⟨x, h1, h2⟩ := h; exact ⟨x, h1, h2.new hn⟩
theorem valid_s (x : Value) (l : List Ce) (so : Bool) (v : Bool) (hv : okL l = v) (w : World) (hx : SlC w x l) (hT : Tab w) :
    Calls Tryd.prog 51 #[.agg #[x, .bool so]] w fun e w' => e = .returned (.bool v) ∧ New w w' := by
  obtain ⟨A, cap, b, rfl, hc, hr⟩ := hx
  exact LValid_b l _ b cap A so v hv w hr hT
theorem rvalid_s (x : Value) (l : List Ce) (so : Bool) (v : Bool) (hv : okL l = v) (w : World) (hx : SlC w x l) :
    Calls Tryd.prog 59 #[.agg #[x, .bool so]] w fun e w' => e = .returned (.bool v) ∧ New w w' := by
  obtain ⟨A, cap, b, rfl, hc, hr⟩ := hx
  exact RLValid_b l _ b cap A so v hv w hr
theorem same_s (x : Value) (l : List Ce) (so : Bool) (y : Value) (q : List Ce) (sb : Bool) (v : Bool) (hv : ((so == sb) && decide (l = q)) = v) (hn : l.length ≤ 1000000) (hm : q.length ≤ 1000000) (w : World) (hx : SlC w x l) (hy : SlC w y q) :
    Calls Tryd.prog 23 #[.agg #[x, .bool so], .agg #[y, .bool sb]] w fun e w' => e = .returned (.bool v) ∧ New w w' := by
  obtain ⟨A, cap, b, rfl, hc, hr⟩ := hx
  obtain ⟨B, cq, bq, rfl, hcq, hq⟩ := hy
  exact RLSame_b l q _ _ b bq cap cq A B so sb v hv w hr hq hn hm
theorem copy_l (x : Value) (l : List Ce) (so : Bool) (hn : l.length ≤ 1000000) (w : World) (hx : SlC w x l) :
    Calls Tryd.prog 65 #[.agg #[x, .bool so]] w fun e w' => LnSaid l so w e w' := by
  obtain ⟨A, cap, b, rfl, hc, hr⟩ := hx
  exact LCopy_any l _ b cap A so w hr hn
theorem rcopy_l (x : Value) (l : List Ce) (so : Bool) (hn : l.length ≤ 1000000) (w : World) (hx : SlC w x l) :
    Calls Tryd.prog 34 #[.agg #[x, .bool so]] w fun e w' => LnSaid l so w e w' := by
  obtain ⟨A, cap, b, rfl, hc, hr⟩ := hx
  exact RCopy_any l _ b cap A so w hr hn
end Go.Proofs.YtlpjhaghphmbeaaDoor
