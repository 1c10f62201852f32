/-
  The law's small functions: text, pushes, pops, gets, ranges, none.
-/
import Derived.Test.YtlpjhaghphmbeaaDoorRRingD
import Derived.Test.YtlpjhaghphmbeaaDoorSRef
namespace Go.Proofs.YtlpjhaghphmbeaaDoor
open Go.RowKit

/-- The cell of a rune. -/
abbrev tc (r : Int) : Ce := ⟨r, 0, 0, 0, 1, zeroP⟩
theorem made_blk {w w' : World} {H : List Bk} {i g : Nat} {cs : Array Value} {l : List Ce} (hH : Hp w H w') (hi : H[i]? = some ⟨g, 95, cs⟩) (hc : cs.toList = flatC l) (hl : l.length ≤ 1000000) : Made [cellsD (.slice (some ⟨g, 0, none⟩) l.length l.length) l] w w' :=
  ⟨hH.new, fun k => k = g, SepL.one (blk_cells (hH.at hi) hc hl), fun k hk => .inr (by subst hk; exact ⟨hH.lo hi, (hH.at hi).lt⟩)⟩
theorem getR_len {R : RS} {i : Int} (h : RgOk R) : (getR R i).1.1.length ≤ 1000 := by
  unfold getR
  split
  · rename_i hm
    obtain ⟨k, rfl, hk⟩ := miss_zero hm
    rw [show (((R.fi + k : Nat) : Int) - R.fi).toNat = k by omega, List.getD_eq_getElem?_getD, List.getElem?_eq_getElem hk, Option.getD_some]
    exact okL_len (h.ln _ (List.getElem_mem _))
  · exact Nat.zero_le _
theorem popR_len {R : RS} (h : RgOk R) : (popR R).2.1.1.length ≤ 1000 := by
  unfold popR
  split
  · exact Nat.zero_le _
  · show (R.L.getD (R.L.length - 1) zLn).1.length ≤ 1000
    rw [List.getD_eq_getElem?_getD, List.getElem?_eq_getElem (by omega), Option.getD_some]
    exact okL_len (h.ln _ (List.getElem_mem _))
theorem rangeL_sub {R : RS} {u v : Int} : (rangeL R u v).length ≤ R.L.length ∧ ∀ l ∈ rangeL R u v, l ∈ R.L := by
  unfold rangeL
  split
  · exact ⟨by rw [List.length_take, List.length_drop]; omega, fun l hl => List.mem_of_mem_drop (List.mem_of_mem_take hl)⟩
  · exact ⟨Nat.zero_le _, fun l hl => by cases hl⟩
set_option linter.unusedSimpArgs false in
set_option maxRecDepth 100000 in
set_option maxHeartbeats 1600000 in
theorem text_b (r : Int) (w : World) : Calls Tryd.prog 18 #[.int .i32 r] w fun e w' => ∃ A c, e = .returned (.agg #[.slice A 1 c, .bool false]) ∧ Made [cellsD (.slice A 1 c) [tc r]] w w' := by
  refine calls_args (vl := [.int .i32 r]) 7 Tryd.func18 rfl Tryd.ntmps18 (by kernel_rfl) (fun a he => ?_)
  have he0 : Env 7 [(0, .int .i32 r)] a := he
  clear he
  have hH := Hp.start w
  refine wp_seq (wp_region_lit ?_)
  refine lNewP (fun p => .pointer (some ⟨p, 0, none⟩)) he0 hH rfl rfl (wanted_plain rfl _) (rn_allocL rfl w) ?_
  intro p1 w1 a2 hp hn hH1 he2
  clear he0 a hH hn hp
  refine wpList_nil (then_ok ?_)
  refine wp_seq (wp_region_lit ?_)
  refine lW (.int .i32 r) he2 rfl (rn_mv rfl (he2.op rfl) w1) ?_
  intro a3 he3
  clear he2 a2
  refine lW (Ce.v (⟨r, 0, 0, 0, 1, zeroP⟩ : Ce)) he3 rfl (rn_bC02 rfl (he3.op rfl) (he3.op rfl) w1) ?_
  intro a4 he4
  clear he3 a3
  refine lNewP (fun p => .slice (some ⟨p, 0, none⟩) 1 1) he4 hH1 rfl rfl (wanted_plain rfl _) (rn_bs1 rfl (he4.op rfl) w1) ?_
  intro p5 w5 a6 hp hn hH5 he6
  clear he4 a4 hH1 hn hp
  refine lW (.agg #[.slice (some ⟨p5, 0, none⟩) 1 1, .bool false]) he6 rfl (rn_bL0 rfl (he6.op rfl) w5) ?_
  intro a7 he7
  clear he6 a6
  refine lSetF 1 #[.slice (some ⟨p5, 0, none⟩) 1 1, .bool false] (cs := #[.slice (some ⟨p5, 0, none⟩) 1 1, .bool false]) he7 hH5 rfl (wanted_plain rfl _) rfl rfl rfl rfl rfl (by kernel_rfl) (by kernel_rfl) (by kernel_rfl) rfl ?_
  intro w8 a9 hH8 hf he9
  replace hH8 : Hp w [⟨p5, 95, (Ce.cs (⟨r, 0, 0, 0, 1, zeroP⟩ : Ce))⟩, ⟨p1, 36, #[.slice (some ⟨p5, 0, none⟩) 1 1, .bool false]⟩] w8 := hH8
  clear hf
  clear he7 a7 hH5
  refine wpList_nil (then_ok ?_)
  have hm := made_blk (l := [tc r]) hH8 (i := 0) rfl rfl (by simp)
  refine wp_ret ?_
  try simp only [Exit.then, Exit.inBlock, Exit.noGoto]
  exact ret_row rfl he9 rfl (hH8.at (i := 1) rfl) undL rfl infoL2 ⟨_, _, rfl, hm⟩
set_option linter.unusedSimpArgs false in
set_option maxRecDepth 100000 in
set_option maxHeartbeats 1600000 in
theorem pushes_b (p : Nat) (R : RS) (x : Value) (l : List Ce) (s : Bool) (want no : Int) (F Gx : FP) (w : World) (hs : (ringD p R).P w F) (hn9 : R.nx < bigN) (hv : (pushR R (l, s)).2 = (want, no)) (hx0 : SlF w Gx x l) (hGF : ∀ k, Gx k → ¬ F k) (hF : ∀ k, F k → 2 ≤ k ∧ k < w.heap.size) (hT : Tab w) : Calls Tryd.prog 17 #[.pointer (some ⟨p, 0, none⟩), .agg #[x, .bool s], .int .i64 want, .int .i64 no] w fun e w' => e = .returned (.bool true) ∧ Turned [ringD p (pushR R (l, s)).1] F w w' := by
  obtain ⟨B, cb, b, e_, -, -, -⟩ := id hx0
  subst e_
  refine calls_args (vl := [.pointer (some ⟨p, 0, none⟩), .agg #[.slice B l.length cb, .bool s], .int .i64 want, .int .i64 no]) 25 Tryd.func17 rfl Tryd.ntmps17 (by kernel_rfl) (fun a he => ?_)
  have he0 : Env 25 [(0, .pointer (some ⟨p, 0, none⟩)), (1, .agg #[.slice B l.length cb, .bool s]), (2, .int .i64 want), (3, .int .i64 no)] a := he
  clear he
  have hH := Hp.bare w
  have hD := Dt.begin hT (SepL.one hs) hF
  refine wp_seq (wp_region_lit ?_)
  refine lNewP (fun p => .pointer (some ⟨p, 0, none⟩)) he0 hH rfl rfl (wanted_plain rfl _) (rn_boxL rfl (he0.op rfl) w) ?_
  intro p1 w1 a2 hp hn hH1 he2
  replace hD := hD.cons hn hp (hH1.at (i := 0) rfl).lt
  clear he0 a hH hn hp
  refine lW (.bool false) he2 rfl (rn_asg rfl (he2.op rfl) w1) ?_
  intro a3 he3
  clear he2 a2
  refine wpList_nil (then_ok ?_)
  refine wp_seq (wp_region_lit ?_)
  refine lW (.pointer (some ⟨p, 0, none⟩)) he3 rfl (rn_mv rfl (he3.op rfl) w1) ?_
  intro a4 he4
  clear he3 a3
  refine lW (.agg #[.slice B l.length cb, .bool s]) he4 rfl (rn_ldp _ rfl (he4.op rfl) undL rfl infoL2 (hH1.at (i := 0) rfl) rfl) ?_
  intro a5 he5
  clear he4 a4
  obtain ⟨F_, hsep, hF, hlo, hstep⟩ := Dt.stepL (A := [ringD p R]) (D := []) hD
  refine lCx he5 rfl rfl Tryd.func32 (by kernel_rfl) rfl rfl (wanted_plain rfl _) rfl ((by have hc_ := rPush p R _ l s F_ (fun k => Gx k ∧ k < w.heap.size) w1 hsep.the hn9 (SlF.fr hx0.lt hD.fr (fun k hk => hGF k hk.1)) (fun k hk h9 => (hlo k h9).elim (hGF k hk.1) (fun h8 => by have := hk.2; omega)) hF hD.tab; rw [hv] at hc_; exact hc_)) ?_
  rintro _ w6 ⟨rfl, ht⟩
  obtain ⟨hD2, hHs⟩ := hstep _ _ ht
  have hH6 := hHs _ rfl hH1
  clear hHs hstep hsep hF hlo
  replace hD := hD2
  clear hD2 ht
  refine ⟨_, rfl, ?_⟩
  intro a7 he7
  clear he5 a5 hH1
  refine lW (.tuple #[.int .i64 want, .int .i64 no]) he7 rfl (rn_mv rfl (he7.op rfl) w6) ?_
  intro a8 he8
  clear he7 a7
  refine lW (.int .i64 want) he8 rfl (rn_ext rfl (he8.op rfl) rfl w6) ?_
  intro a9 he9
  clear he8 a8
  refine lW (.int .i64 no) he9 rfl (rn_ext rfl (he9.op rfl) rfl w6) ?_
  intro a10 he10
  clear he9 a9
  refine lW (.int .i64 want) he10 rfl (rn_asg rfl (he10.op rfl) w6) ?_
  intro a11 he11
  clear he10 a10
  refine lW (.int .i64 no) he11 rfl (rn_asg rfl (he11.op rfl) w6) ?_
  intro a12 he12
  clear he11 a11
  refine wpList_nil (then_ok ?_)
  refine wp_seq (wp_region_lit ?_)
  refine lW (.int .i64 want) he12 rfl (rn_mv rfl (he12.op rfl) w6) ?_
  intro a13 he13
  clear he12 a12
  refine lW (.int .i64 want) he13 rfl (rn_mv rfl (he13.op rfl) w6) ?_
  intro a14 he14
  clear he13 a13
  refine lW (.bool true) he14 rfl (rn_eqI rfl (he14.op rfl) (he14.op rfl) (beq_self_eq_true _) w6) ?_
  intro a15 he15
  clear he14 a14
  refine lW (.bool true) he15 rfl (rn_mv rfl (he15.op rfl) w6) ?_
  intro a16 he16
  clear he15 a15
  refine lV (.int .i64 no) he16 rfl rfl (he16.want rfl rfl rfl rfl rfl) (rn_mv rfl (he16.op rfl) w6) ?_
  intro a17 he17
  clear he16 a16
  refine lV (.int .i64 no) he17 rfl rfl (he17.want rfl rfl rfl rfl rfl) (rn_mv rfl (he17.op rfl) w6) ?_
  intro a18 he18
  clear he17 a17
  refine lV (.bool true) he18 rfl rfl (he18.want rfl rfl rfl rfl rfl) (rn_eqE rfl (he18.op rfl) (he18.op rfl) (beq_self_eq_true _) w6) ?_
  intro a19 he19
  clear he18 a18
  refine lW (.bool true) he19 rfl (rn_pk rfl (he19.op rfl) (he19.op rfl) w6) ?_
  intro a20 he20
  clear he19 a19
  refine lW (.bool true) he20 rfl (rn_asg rfl (he20.op rfl) w6) ?_
  intro a21 he21
  clear he20 a20
  refine wpList_nil (then_ok ?_)
  refine wp_ret ?_
  try simp only [Exit.then, Exit.inBlock]
  exact ret_env rfl he21 rfl ⟨rfl, hD.turned⟩
set_option linter.unusedSimpArgs false in
set_option maxRecDepth 100000 in
set_option maxHeartbeats 1600000 in
theorem pops_b (p : Nat) (R : RS) (x : Value) (lw : List Ce) (sw : Bool) (no : Int) (F Gx : FP) (w : World) (hs : (ringD p R).P w F) (hv : (popR R).2 = ((lw, sw), no)) (hx0 : SlF w Gx x lw) (hGF : ∀ k, Gx k → ¬ F k) (hF : ∀ k, F k → 2 ≤ k ∧ k < w.heap.size) (hT : Tab w) : Calls Tryd.prog 25 #[.pointer (some ⟨p, 0, none⟩), .agg #[x, .bool sw], .int .i64 no] w fun e w' => e = .returned (.bool true) ∧ Turned [ringD p (popR R).1] F w w' := by
  have hgl := popR_len hs.1
  rw [hv] at hgl
  have hgl : lw.length ≤ 1000 := hgl
  obtain ⟨B, cb, b, e_, -, -, -⟩ := id hx0
  subst e_
  refine calls_args (vl := [.pointer (some ⟨p, 0, none⟩), .agg #[.slice B lw.length cb, .bool sw], .int .i64 no]) 22 Tryd.func25 rfl Tryd.ntmps25 (by kernel_rfl) (fun a he => ?_)
  have he0 : Env 22 [(0, .pointer (some ⟨p, 0, none⟩)), (1, .agg #[.slice B lw.length cb, .bool sw]), (2, .int .i64 no)] a := he
  clear he
  have hH := Hp.bare w
  have hD := Dt.begin hT (SepL.one hs) hF
  refine wp_seq (wp_region_lit ?_)
  refine lNewP (fun p => .pointer (some ⟨p, 0, none⟩)) he0 hH rfl rfl (wanted_plain rfl _) (rn_boxL rfl (he0.op rfl) w) ?_
  intro p1 w1 a2 hp hn hH1 he2
  replace hD := hD.cons hn hp (hH1.at (i := 0) rfl).lt
  clear he0 a hH hn hp
  refine lW (.bool false) he2 rfl (rn_asg rfl (he2.op rfl) w1) ?_
  intro a3 he3
  clear he2 a2
  refine wpList_nil (then_ok ?_)
  refine wp_seq (wp_region_lit ?_)
  refine lW (.pointer (some ⟨p, 0, none⟩)) he3 rfl (rn_mv rfl (he3.op rfl) w1) ?_
  intro a4 he4
  clear he3 a3
  obtain ⟨F_, hsep, hF, hstep⟩ := Dt.step (A := [ringD p R]) (D := []) hD
  refine lCx he4 rfl rfl Tryd.func31 (by kernel_rfl) rfl rfl (wanted_plain rfl _) rfl ((by have hc_ := rPop p R F_ w1 hsep.the hF hD.tab; rw [hv] at hc_; exact hc_)) ?_
  rintro _ w5 ⟨Ag, cg, rfl, ht⟩
  obtain ⟨hD2, hHs⟩ := hstep _ _ ht
  have hH5 := hHs _ rfl hH1
  clear hHs hstep hsep hF
  replace hD := hD2
  clear hD2 ht
  refine ⟨_, rfl, ?_⟩
  intro a6 he6
  clear he4 a4 hH1
  refine lW (.tuple #[.agg #[.slice Ag lw.length cg, .bool sw], .int .i64 no]) he6 rfl (rn_mv rfl (he6.op rfl) w5) ?_
  intro a7 he7
  clear he6 a6
  refine lW (.agg #[.slice Ag lw.length cg, .bool sw]) he7 rfl (rn_ext rfl (he7.op rfl) rfl w5) ?_
  intro a8 he8
  clear he7 a7
  refine lW (.int .i64 no) he8 rfl (rn_ext rfl (he8.op rfl) rfl w5) ?_
  intro a9 he9
  clear he8 a8
  refine lNewP (fun p => .pointer (some ⟨p, 0, none⟩)) he9 hH5 rfl rfl (wanted_plain rfl _) (rn_allocL rfl w5) ?_
  intro p10 w10 a11 hp hn hH10 he11
  replace hD := hD.cons hn hp (hH10.at (i := 0) rfl).lt
  clear he9 a9 hH5 hn hp
  refine lSetF 0 #[.slice Ag lw.length cg, .bool sw] (cs := #[.slice Ag lw.length cg, .bool sw]) he11 hH10 rfl (wanted_plain rfl _) rfl rfl rfl rfl rfl (by kernel_rfl) (by kernel_rfl) (by kernel_rfl) rfl ?_
  intro w12 a13 hH12 hf he13
  replace hD := hD.setb (i := 0) rfl rfl hf
  replace hH12 : Hp (bare w) [⟨p10, 36, #[.slice Ag lw.length cg, .bool sw]⟩, ⟨p1, 36, #[.slice B lw.length cb, .bool sw]⟩] w12 := hH12
  clear hf
  clear he11 a11 hH10
  refine lW (.int .i64 no) he13 rfl (rn_asg rfl (he13.op rfl) w12) ?_
  intro a14 he14
  clear he13 a13
  refine wpList_nil (then_ok ?_)
  have he15 : Env 22 [(8, .int .i64 no), (7, .pointer (some ⟨p10, 0, none⟩)), (6, .bool false), (4, .pointer (some ⟨p1, 0, none⟩)), (2, .int .i64 no)] a14 := he14.mem ⟨rfl, rfl, rfl, rfl, rfl, trivial⟩
  clear he14
  refine wp_seq (wp_region_lit ?_)
  refine lW (.agg #[.slice Ag lw.length cg, .bool sw]) he15 rfl (rn_ldp _ rfl (he15.op rfl) undL rfl infoL2 (hH12.at (i := 0) rfl) rfl) ?_
  intro a16 he16
  clear he15 a14
  refine lW (.agg #[.slice B lw.length cb, .bool sw]) he16 rfl (rn_ldp _ rfl (he16.op rfl) undL rfl infoL2 (hH12.at (i := 1) rfl) rfl) ?_
  intro a17 he17
  clear he16 a16
  refine lC he17 rfl rfl Tryd.func23 (by kernel_rfl) rfl rfl (wanted_plain rfl _) rfl (same_s _ lw sw _ lw sw true (by simp) (by omega) (by omega) w12 (cells_sl (hD.get (i := 1) rfl).choose_spec) (SlF.fr hx0.lt hD.fr (fun k hk => hGF k hk.1)).sl) ?_
  intro w18 a19 hn he19
  have hH18 := hH12.call hn
  replace hD := (hD).new hn
  clear he17 a17 hH12 hn
  refine lW (.bool true) he19 rfl (rn_mv rfl (he19.op rfl) w18) ?_
  intro a20 he20
  clear he19 a19
  refine lV (.int .i64 no) he20 rfl rfl (he20.want rfl rfl rfl rfl rfl) (rn_mv rfl (he20.op rfl) w18) ?_
  intro a21 he21
  clear he20 a20
  refine lV (.int .i64 no) he21 rfl rfl (he21.want rfl rfl rfl rfl rfl) (rn_mv rfl (he21.op rfl) w18) ?_
  intro a22 he22
  clear he21 a21
  refine lV (.bool true) he22 rfl rfl (he22.want rfl rfl rfl rfl rfl) (rn_eqE rfl (he22.op rfl) (he22.op rfl) (beq_self_eq_true _) w18) ?_
  intro a23 he23
  clear he22 a22
  refine lW (.bool true) he23 rfl (rn_pk rfl (he23.op rfl) (he23.op rfl) w18) ?_
  intro a24 he24
  clear he23 a23
  refine lW (.bool true) he24 rfl (rn_asg rfl (he24.op rfl) w18) ?_
  intro a25 he25
  clear he24 a24
  refine wpList_nil (then_ok ?_)
  refine wp_ret ?_
  try simp only [Exit.then, Exit.inBlock]
  exact ret_env rfl he25 rfl ⟨rfl, (hD.pick 1 rfl).drop.turned⟩
set_option linter.unusedSimpArgs false in
set_option maxRecDepth 100000 in
set_option maxHeartbeats 1600000 in
theorem gets_b (p : Nat) (R : RS) (i : Int) (x : Value) (lw : List Ce) (sw : Bool) (no : Int) (F : FP) (w : World) (hs : (ringD p R).P w F) (hv : getR R i = ((lw, sw), no)) (hx : SlC w x lw) (hT : Tab w) : Calls Tryd.prog 15 #[.pointer (some ⟨p, 0, none⟩), .int .i64 i, .agg #[x, .bool sw], .int .i64 no] w fun e w' => e = .returned (.bool true) ∧ New w w' := by
  have hgl := getR_len (i := i) hs.1
  rw [hv] at hgl
  have hgl : lw.length ≤ 1000 := hgl
  obtain ⟨B, cb, b, e_, -, -⟩ := id hx
  subst e_
  refine calls_args (vl := [.pointer (some ⟨p, 0, none⟩), .int .i64 i, .agg #[.slice B lw.length cb, .bool sw], .int .i64 no]) 25 Tryd.func15 rfl Tryd.ntmps15 (by kernel_rfl) (fun a he => ?_)
  have he0 : Env 25 [(0, .pointer (some ⟨p, 0, none⟩)), (1, .int .i64 i), (2, .agg #[.slice B lw.length cb, .bool sw]), (3, .int .i64 no)] a := he
  clear he
  have hH := Hp.start w
  have hD := Dt.start hT
  have hx00 := hx
  refine wp_seq (wp_region_lit ?_)
  refine lNewP (fun p => .pointer (some ⟨p, 0, none⟩)) he0 hH rfl rfl (wanted_plain rfl _) (rn_boxL rfl (he0.op rfl) w) ?_
  intro p1 w1 a2 hp hn hH1 he2
  replace hD := hD.cons hn hp (hH1.at (i := 0) rfl).lt
  replace hs := (ringD _ _).fr hs hn (fun _ _ h => h)
  clear he0 a hH hn hp
  refine lW (.bool false) he2 rfl (rn_asg rfl (he2.op rfl) w1) ?_
  intro a3 he3
  clear he2 a2
  refine wpList_nil (then_ok ?_)
  refine wp_seq (wp_region_lit ?_)
  refine lW (.pointer (some ⟨p, 0, none⟩)) he3 rfl (rn_mv rfl (he3.op rfl) w1) ?_
  intro a4 he4
  clear he3 a3
  refine lW (.int .i64 i) he4 rfl (rn_mv rfl (he4.op rfl) w1) ?_
  intro a5 he5
  clear he4 a4
  refine lCx he5 rfl rfl Tryd.func44 (by kernel_rfl) rfl rfl (wanted_plain rfl _) rfl ((by have hc_ := rGet p R i F w1 hs hD.tab; rw [hv] at hc_; exact hc_)) ?_
  rintro _ w6 ⟨Ag, cg, rfl, ht⟩
  have hD2 := hD.made ht
  have hH6 := hH1.call ht.new
  replace hD := hD2
  clear hD2 ht
  refine ⟨_, rfl, ?_⟩
  intro a7 he7
  clear he5 a5 hH1
  refine lW (.tuple #[.agg #[.slice Ag lw.length cg, .bool sw], .int .i64 no]) he7 rfl (rn_mv rfl (he7.op rfl) w6) ?_
  intro a8 he8
  clear he7 a7
  refine lW (.agg #[.slice Ag lw.length cg, .bool sw]) he8 rfl (rn_ext rfl (he8.op rfl) rfl w6) ?_
  intro a9 he9
  clear he8 a8
  refine lW (.int .i64 no) he9 rfl (rn_ext rfl (he9.op rfl) rfl w6) ?_
  intro a10 he10
  clear he9 a9
  refine lNewP (fun p => .pointer (some ⟨p, 0, none⟩)) he10 hH6 rfl rfl (wanted_plain rfl _) (rn_allocL rfl w6) ?_
  intro p11 w11 a12 hp hn hH11 he12
  replace hD := hD.cons hn hp (hH11.at (i := 0) rfl).lt
  clear he10 a10 hH6 hn hp
  refine lSetF 0 #[.slice Ag lw.length cg, .bool sw] (cs := #[.slice Ag lw.length cg, .bool sw]) he12 hH11 rfl (wanted_plain rfl _) rfl rfl rfl rfl rfl (by kernel_rfl) (by kernel_rfl) (by kernel_rfl) rfl ?_
  intro w13 a14 hH13 hf he14
  replace hD := hD.setb (i := 0) rfl rfl hf
  replace hH13 : Hp w [⟨p11, 36, #[.slice Ag lw.length cg, .bool sw]⟩, ⟨p1, 36, #[.slice B lw.length cb, .bool sw]⟩] w13 := hH13
  clear hf
  clear he12 a12 hH11
  refine lW (.int .i64 no) he14 rfl (rn_asg rfl (he14.op rfl) w13) ?_
  intro a15 he15
  clear he14 a14
  refine wpList_nil (then_ok ?_)
  have he16 : Env 25 [(10, .int .i64 no), (9, .pointer (some ⟨p11, 0, none⟩)), (8, .bool false), (6, .pointer (some ⟨p1, 0, none⟩)), (3, .int .i64 no)] a15 := he15.mem ⟨rfl, rfl, rfl, rfl, rfl, trivial⟩
  clear he15
  refine wp_seq (wp_region_lit ?_)
  refine lW (.agg #[.slice Ag lw.length cg, .bool sw]) he16 rfl (rn_ldp _ rfl (he16.op rfl) undL rfl infoL2 (hH13.at (i := 0) rfl) rfl) ?_
  intro a17 he17
  clear he16 a15
  refine lW (.agg #[.slice B lw.length cb, .bool sw]) he17 rfl (rn_ldp _ rfl (he17.op rfl) undL rfl infoL2 (hH13.at (i := 1) rfl) rfl) ?_
  intro a18 he18
  clear he17 a17
  refine lC he18 rfl rfl Tryd.func23 (by kernel_rfl) rfl rfl (wanted_plain rfl _) rfl (same_s _ lw sw _ lw sw true (by simp) (by omega) (by omega) w13 (cells_sl (hD.get (i := 0) rfl).choose_spec) (hx00.new hD.fr)) ?_
  intro w19 a20 hn he20
  have hH19 := hH13.call hn
  replace hD := (hD).new hn
  clear he18 a18 hH13 hn
  refine lW (.bool true) he20 rfl (rn_mv rfl (he20.op rfl) w19) ?_
  intro a21 he21
  clear he20 a20
  refine lV (.int .i64 no) he21 rfl rfl (he21.want rfl rfl rfl rfl rfl) (rn_mv rfl (he21.op rfl) w19) ?_
  intro a22 he22
  clear he21 a21
  refine lV (.int .i64 no) he22 rfl rfl (he22.want rfl rfl rfl rfl rfl) (rn_mv rfl (he22.op rfl) w19) ?_
  intro a23 he23
  clear he22 a22
  refine lV (.bool true) he23 rfl rfl (he23.want rfl rfl rfl rfl rfl) (rn_eqE rfl (he23.op rfl) (he23.op rfl) (beq_self_eq_true _) w19) ?_
  intro a24 he24
  clear he23 a23
  refine lW (.bool true) he24 rfl (rn_pk rfl (he24.op rfl) (he24.op rfl) w19) ?_
  intro a25 he25
  clear he24 a24
  refine lW (.bool true) he25 rfl (rn_asg rfl (he25.op rfl) w19) ?_
  intro a26 he26
  clear he25 a25
  refine wpList_nil (then_ok ?_)
  refine wp_ret ?_
  try simp only [Exit.then, Exit.inBlock]
  exact ret_env rfl he26 rfl ⟨rfl, hD.fr⟩
set_option linter.unusedSimpArgs false in
set_option maxRecDepth 100000 in
set_option maxHeartbeats 1600000 in
theorem ranges_b (p : Nat) (R : RS) (u v : Int) (y : Value) (Lw : List Ln) (no : Int) (F : FP) (w : World) (hs : (ringD p R).P w F) (hsm : R.L.length ≤ 1000000) (hE : rangeE R u v = no) (hL : rangeL R u v = Lw) (hy : LnsR w y Lw) (hT : Tab w) : Calls Tryd.prog 16 #[.pointer (some ⟨p, 0, none⟩), .int .i64 u, .int .i64 v, .int .i64 no, y] w fun e w' => e = .returned (.bool true) ∧ New w w' := by
  have hsub := rangeL_sub (R := R) (u := u) (v := v)
  rw [hL] at hsub
  have hbig : ∀ l ∈ Lw, l.1.length ≤ 1000000 := fun l hl => by have := okL_len (hs.1.ln l (hsub.2 l hl)); omega
  have hlw : Lw.length ≤ 1000000 := by have := hsub.1; omega
  refine calls_args (vl := [.pointer (some ⟨p, 0, none⟩), .int .i64 u, .int .i64 v, .int .i64 no, y]) 28 Tryd.func16 rfl Tryd.ntmps16 (by kernel_rfl) (fun a he => ?_)
  have he0 : Env 28 [(0, .pointer (some ⟨p, 0, none⟩)), (1, .int .i64 u), (2, .int .i64 v), (3, .int .i64 no), (4, y)] a := he
  clear he
  have hH := Hp.start w
  have hD := Dt.start hT
  have hy0 := hy
  refine wp_seq (wp_region_lit ?_)
  refine lW (.bool false) he0 rfl (rn_asg rfl (he0.op rfl) w) ?_
  intro a1 he1
  clear he0 a
  refine wpList_nil (then_ok ?_)
  refine wp_seq (wp_region_lit ?_)
  refine lW (.pointer (some ⟨p, 0, none⟩)) he1 rfl (rn_mv rfl (he1.op rfl) w) ?_
  intro a2 he2
  clear he1 a1
  refine lW (.int .i64 u) he2 rfl (rn_mv rfl (he2.op rfl) w) ?_
  intro a3 he3
  clear he2 a2
  refine lW (.int .i64 v) he3 rfl (rn_mv rfl (he3.op rfl) w) ?_
  intro a4 he4
  clear he3 a3
  refine lCx he4 rfl rfl Tryd.func22 (by kernel_rfl) rfl rfl (wanted_plain rfl _) rfl ((by have hc_ := rRange p R u v F w ((ringD _ _).fr hs hD.fr (fun _ _ h => h)) hD.tab; rw [hE, hL] at hc_; exact hc_)) ?_
  rintro _ w5 ⟨Ag, cg, rfl, ht⟩
  have hD2 := hD.made ht
  have hH5 := hH.call ht.new
  replace hD := hD2
  clear hD2 ht
  refine ⟨_, rfl, ?_⟩
  intro a6 he6
  clear he4 a4 hH
  refine lW (.tuple #[.slice Ag Lw.length cg, .int .i64 no]) he6 rfl (rn_mv rfl (he6.op rfl) w5) ?_
  intro a7 he7
  clear he6 a6
  refine lW (.slice Ag Lw.length cg) he7 rfl (rn_ext rfl (he7.op rfl) rfl w5) ?_
  intro a8 he8
  clear he7 a7
  refine lW (.int .i64 no) he8 rfl (rn_ext rfl (he8.op rfl) rfl w5) ?_
  intro a9 he9
  clear he8 a8
  refine lW (.slice Ag Lw.length cg) he9 rfl (rn_asg rfl (he9.op rfl) w5) ?_
  intro a10 he10
  clear he9 a9
  refine lW (.int .i64 no) he10 rfl (rn_asg rfl (he10.op rfl) w5) ?_
  intro a11 he11
  clear he10 a10
  refine wpList_nil (then_ok ?_)
  refine wp_seq (wp_region_lit ?_)
  refine lW (.slice Ag Lw.length cg) he11 rfl (rn_mv rfl (he11.op rfl) w5) ?_
  intro a12 he12
  clear he11 a11
  refine lW (y) he12 rfl (rn_mv rfl (he12.op rfl) w5) ?_
  intro a13 he13
  clear he12 a12
  refine lC he13 rfl rfl Tryd.func42 (by kernel_rfl) rfl rfl (wanted_plain rfl _) rfl (all_b _ _ Lw Lw true (by simp) hbig hbig hlw hlw w5 (lines_lns (hD.get (i := 0) rfl).choose_spec).r (LnsF.new hy0 hD.fr)) ?_
  intro w14 a15 hn he15
  have hH14 := hH5.call hn
  replace hD := (hD).new hn
  clear he13 a13 hH5 hn
  refine lW (.bool true) he15 rfl (rn_mv rfl (he15.op rfl) w14) ?_
  intro a16 he16
  clear he15 a15
  refine lV (.int .i64 no) he16 rfl rfl (he16.want rfl rfl rfl rfl rfl) (rn_mv rfl (he16.op rfl) w14) ?_
  intro a17 he17
  clear he16 a16
  refine lV (.int .i64 no) he17 rfl rfl (he17.want rfl rfl rfl rfl rfl) (rn_mv rfl (he17.op rfl) w14) ?_
  intro a18 he18
  clear he17 a17
  refine lV (.bool true) he18 rfl rfl (he18.want rfl rfl rfl rfl rfl) (rn_eqE rfl (he18.op rfl) (he18.op rfl) (beq_self_eq_true _) w14) ?_
  intro a19 he19
  clear he18 a18
  refine lW (.bool true) he19 rfl (rn_pk rfl (he19.op rfl) (he19.op rfl) w14) ?_
  intro a20 he20
  clear he19 a19
  refine lW (.bool true) he20 rfl (rn_asg rfl (he20.op rfl) w14) ?_
  intro a21 he21
  clear he20 a20
  refine wpList_nil (then_ok ?_)
  refine wp_ret ?_
  try simp only [Exit.then, Exit.inBlock]
  exact ret_env rfl he21 rfl ⟨rfl, hD.fr⟩
set_option linter.unusedSimpArgs false in
set_option maxRecDepth 100000 in
set_option maxHeartbeats 1600000 in
theorem none_b (mo k : Int) (h : ¬ (0 ≤ mo ∧ mo ≤ 1048576 ∧ 1 ≤ k ∧ k ≤ 1024)) (w : World) : Calls Tryd.prog 7 #[.int .i64 mo, .int .i64 k] w fun e w' => e = .returned (.bool true) ∧ New w w' := by
  refine calls_args (vl := [.int .i64 mo, .int .i64 k]) 19 Tryd.func7 rfl Tryd.ntmps7 (by kernel_rfl) (fun a he => ?_)
  have he0 : Env 19 [(0, .int .i64 mo), (1, .int .i64 k)] a := he
  clear he
  have hH := Hp.start w
  refine wp_seq (wp_region_lit ?_)
  refine lW (.bool false) he0 rfl (rn_asg rfl (he0.op rfl) w) ?_
  intro a1 he1
  clear he0 a
  refine wpList_nil (then_ok ?_)
  refine wp_seq (wp_region_lit ?_)
  refine lW (.int .i64 mo) he1 rfl (rn_mv rfl (he1.op rfl) w) ?_
  intro a2 he2
  clear he1 a1
  refine lW (.int .i64 k) he2 rfl (rn_mv rfl (he2.op rfl) w) ?_
  intro a3 he3
  clear he2 a2
  refine lC he3 rfl rfl Tryd.func9 (by kernel_rfl) rfl rfl (wanted_plain rfl _) rfl (rNew_no mo k h w) ?_
  intro w4 a5 hn he5
  have hH4 := hH.call hn
  clear he3 a3 hH hn
  refine lW (.tuple #[.pointer none, .int .i64 2]) he5 rfl (rn_mv rfl (he5.op rfl) w4) ?_
  intro a6 he6
  clear he5 a5
  refine lW (.pointer none) he6 rfl (rn_ext rfl (he6.op rfl) rfl w4) ?_
  intro a7 he7
  clear he6 a6
  refine lW (.int .i64 2) he7 rfl (rn_ext rfl (he7.op rfl) rfl w4) ?_
  intro a8 he8
  clear he7 a7
  refine lW (.pointer none) he8 rfl (rn_asg rfl (he8.op rfl) w4) ?_
  intro a9 he9
  clear he8 a8
  refine lW (.int .i64 2) he9 rfl (rn_asg rfl (he9.op rfl) w4) ?_
  intro a10 he10
  clear he9 a9
  refine wpList_nil (then_ok ?_)
  refine wp_seq (wp_region_lit ?_)
  refine lW (.pointer none) he10 rfl (rn_mv rfl (he10.op rfl) w4) ?_
  intro a11 he11
  clear he10 a10
  refine lW (.bool true) he11 rfl (rn_eqPr0 rfl (he11.op rfl) (fun _ => rfl) w4) ?_
  intro a12 he12
  clear he11 a11
  refine lW (.bool true) he12 rfl (rn_mv rfl (he12.op rfl) w4) ?_
  intro a13 he13
  clear he12 a12
  refine lV (.int .i64 2) he13 rfl rfl (he13.want rfl rfl rfl rfl rfl) (rn_mv rfl (he13.op rfl) w4) ?_
  intro a14 he14
  clear he13 a13
  refine lV (.bool true) he14 rfl rfl (he14.want rfl rfl rfl rfl rfl) (rn_eqE rfl (he14.op rfl) (he14.op rfl) (by rfl) w4) ?_
  intro a15 he15
  clear he14 a14
  refine lW (.bool true) he15 rfl (rn_pk rfl (he15.op rfl) (he15.op rfl) w4) ?_
  intro a16 he16
  clear he15 a15
  refine lW (.bool true) he16 rfl (rn_asg rfl (he16.op rfl) w4) ?_
  intro a17 he17
  clear he16 a16
  refine wpList_nil (then_ok ?_)
  refine wp_ret ?_
  try simp only [Exit.then, Exit.inBlock]
  exact ret_env rfl he17 rfl ⟨rfl, hH4.new⟩
end Go.Proofs.YtlpjhaghphmbeaaDoor
