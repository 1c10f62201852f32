/-
  The examples of the chapter.
-/
import Derived.Test.YtjcpdldaimebbaaDoorNB
namespace Go.Proofs.YtjcpdldaimebbaaDoor
open Go.RowKit

def aC : Ce := ⟨97, 0, 0, 0, 1, zeroP⟩
def wC : Ce := ⟨19968, 0, 0, 0, 2, zeroP⟩
def iC : Ce := ⟨0, 0, 0, 0, 1, (⟨zeroC, zeroC, 32⟩ : Pn)⟩
abbrev cs5 (x y z u v : Ce) : Array Value := #[.int .i32 x.r, .int .i32 x.m0, .int .i32 x.m1, .int .i32 x.m2, .int .i64 x.wd, .int .i64 x.p.fore.k, .int .u8 x.p.fore.i, .int .u8 x.p.fore.r, .int .u8 x.p.fore.g, .int .u8 x.p.fore.b, .int .i64 x.p.back.k, .int .u8 x.p.back.i, .int .u8 x.p.back.r, .int .u8 x.p.back.g, .int .u8 x.p.back.b, .int .u8 x.p.fl, .int .i32 y.r, .int .i32 y.m0, .int .i32 y.m1, .int .i32 y.m2, .int .i64 y.wd, .int .i64 y.p.fore.k, .int .u8 y.p.fore.i, .int .u8 y.p.fore.r, .int .u8 y.p.fore.g, .int .u8 y.p.fore.b, .int .i64 y.p.back.k, .int .u8 y.p.back.i, .int .u8 y.p.back.r, .int .u8 y.p.back.g, .int .u8 y.p.back.b, .int .u8 y.p.fl, .int .i32 z.r, .int .i32 z.m0, .int .i32 z.m1, .int .i32 z.m2, .int .i64 z.wd, .int .i64 z.p.fore.k, .int .u8 z.p.fore.i, .int .u8 z.p.fore.r, .int .u8 z.p.fore.g, .int .u8 z.p.fore.b, .int .i64 z.p.back.k, .int .u8 z.p.back.i, .int .u8 z.p.back.r, .int .u8 z.p.back.g, .int .u8 z.p.back.b, .int .u8 z.p.fl, .int .i32 u.r, .int .i32 u.m0, .int .i32 u.m1, .int .i32 u.m2, .int .i64 u.wd, .int .i64 u.p.fore.k, .int .u8 u.p.fore.i, .int .u8 u.p.fore.r, .int .u8 u.p.fore.g, .int .u8 u.p.fore.b, .int .i64 u.p.back.k, .int .u8 u.p.back.i, .int .u8 u.p.back.r, .int .u8 u.p.back.g, .int .u8 u.p.back.b, .int .u8 u.p.fl, .int .i32 v.r, .int .i32 v.m0, .int .i32 v.m1, .int .i32 v.m2, .int .i64 v.wd, .int .i64 v.p.fore.k, .int .u8 v.p.fore.i, .int .u8 v.p.fore.r, .int .u8 v.p.fore.g, .int .u8 v.p.fore.b, .int .i64 v.p.back.k, .int .u8 v.p.back.i, .int .u8 v.p.back.r, .int .u8 v.p.back.g, .int .u8 v.p.back.b, .int .u8 v.p.fl]
theorem bs5 (x y z u v : Ce) (w : World) : (Instr.buildSlice 22 5 #[(0, .agg x.cs), (1, .agg y.cs), (2, .agg z.cs), (3, .agg u.cs), (4, .agg v.cs)]).run Tryd.prog w = .ok (.slice (some ⟨w.heap.size, 0, none⟩) 5 5) (w.alloc (.cells (cs5 x y z u v) 60)) := by kernel_rfl
theorem rn_bs5 {ρ : Operand → Value} {o : Oper} {a b c d e : Operand} {x y z u v : Ce} (h : o.op = .buildSlice 22 5 #[(0, a), (1, b), (2, c), (3, d), (4, e)]) (ha : ρ a = x.v) (hb : ρ b = y.v) (hc : ρ c = z.v) (hd : ρ d = u.v) (he : ρ e = v.v) (w : World) : (execOp ρ o).run Tryd.prog w = .ok (.value (.slice (some ⟨w.heap.size, 0, none⟩) 5 5)) (w.alloc (.cells (cs5 x y z u v) 60)) := by
  unfold execOp
  have e := bs5 x y z u v w
  simp only [h, List.map_toArray, List.map_cons, List.map_nil, ha, hb, hc, hd, he, Sem.run_bind, e, Result.andThen_ok, Sem.run_pure]

theorem kn2 : isB (newR 2) [eC, eC] false 0 = true := by decide +kernel
theorem kn3 : isB (newR 1001) [] false 2 = true := by decide +kernel
theorem kn5 : isB (ofR [aC, wC, zeroCe] true) [aC, wC, zeroCe] true 0 = true := by decide +kernel
theorem kn7 : isB (ofR [aC, wC] false) [] false 2 = true := by decide +kernel
theorem kn9 : okL [wC, zeroCe, eC] = true := by decide +kernel
theorem kn11 : usedN [aC, eC, iC, eC] = 3 := by decide +kernel
theorem kn14 : isB (trimR [aC, eC, eC] false) [aC] false 0 = true := by decide +kernel
theorem kn17 : isB (trimR [eC, eC] false) [] false 0 = true := by decide +kernel
theorem kn20 : isB (fitR [aC, wC, zeroCe] false 2) [aC, eC] false 0 = true := by decide +kernel
theorem kn23 : isB (fitR [aC, wC, zeroCe] false 5) [aC, wC, zeroCe, eC, eC] false 0 = true := by decide +kernel
theorem kn25 : isB (fitR [aC, wC, zeroCe] false (-1)) [] false 2 = true := by decide +kernel
theorem kn27 : runesBytes (textsC (List.take (usedN [eC, aC, eC, eC]) [eC, aC, eC, eC])) = ⟨#[32, 97]⟩ := by kernel_rfl
theorem kn31 : isB (putR [aC, wC, zeroCe, eC] false 2 [aC]) [aC, eC, aC, eC] false 0 = true := by decide +kernel
theorem kn35 : isB (putR [wC, zeroCe, wC, zeroCe] false 1 [aC, aC]) [eC, aC, aC, eC] false 0 = true := by decide +kernel
theorem kn38 : isB (putR [aC, eC] false 1 [wC, zeroCe]) [] false 3 = true := by decide +kernel
theorem kn41 : isB (putR [aC, eC] false 2 []) [aC, eC] false 0 = true := by decide +kernel
theorem kn44 : isB (putR [aC, eC] false 0 [zeroCe]) [] false 2 = true := by decide +kernel
theorem kn46 : ((false == true) && decide ([aC] = [aC])) = false := by decide +kernel
theorem kn49 : ((false == false) && decide ([aC] = [aC, eC])) = false := by decide +kernel
theorem kn53 : ((false == false) && decide ([aC, wC, zeroCe] = [aC, wC, zeroCe])) = true := by decide +kernel
set_option linter.unusedSimpArgs false in
set_option maxRecDepth 100000 in
set_option maxHeartbeats 8000000 in
theorem known_any (w : World) (hT : Tab w) : Calls Tryd.prog 9 #[] w fun e w' => e = .returned (.bool true) ∧ New w w' := by
  refine calls_args (vl := []) 248 Tryd.func9 rfl Tryd.ntmps9 (by kernel_rfl) (fun a he => ?_)
  have he0 : Env 248 [] a := he
  clear he
  have hH := Hp.start w
  refine wp_seq ?_
  refine wp_region_lit ?_
  refine lV (Value.bool false) he0 rfl rfl (wanted_plain rfl _) (rn_asg rfl (he0.op rfl) w) ?_
  intro a1 he1
  clear he0 a
  refine wpList_nil ?_
  refine then_ok ?_
  refine wp_seq ?_
  refine wp_region_lit ?_
  refine lV (Ce.v (⟨97, 0, 0, 0, 1, zeroP⟩ : Ce)) he1 rfl rfl (wanted_plain rfl _) (rn_bC02 rfl (he1.op rfl) (he1.op rfl) w) ?_
  intro a2 he2
  clear he1 a1
  refine lV (Ce.v (⟨19968, 0, 0, 0, 2, zeroP⟩ : Ce)) he2 rfl rfl (wanted_plain rfl _) (rn_bC02 rfl (he2.op rfl) (he2.op rfl) w) ?_
  intro a3 he3
  clear he2 a2
  refine lV (Ce.v zeroCe) he3 rfl rfl (wanted_plain rfl _) (rn_bC0 rfl w) ?_
  intro a4 he4
  clear he3 a3
  refine lV (Ce.v (⟨0, 0, 0, 0, 1, zeroP⟩ : Ce)) he4 rfl rfl (wanted_plain rfl _) (rn_bC2 rfl (he4.op rfl) w) ?_
  intro a5 he5
  clear he4 a4
  refine lNew (fun p => .pointer (some ⟨p, 0, none⟩)) he5 hH rfl rfl (wanted_plain rfl _) (rn_alloc rfl w) ?_
  intro p6 w6 a7 hn hH6 he7
  clear he5 a5 hH hn
  refine lNew (fun p => .pointer (some ⟨p, 0, none⟩)) he7 hH6 rfl rfl (wanted_plain rfl _) (rn_alloc rfl w6) ?_
  intro p8 w8 a9 hn hH8 he9
  clear he7 a7 hH6 hn
  refine lNew (fun p => .pointer (some ⟨p, 0, none⟩)) he9 hH8 rfl rfl (wanted_plain rfl _) (rn_alloc rfl w8) ?_
  intro p10 w10 a11 hn hH10 he11
  clear he9 a9 hH8 hn
  refine lNew (fun p => .pointer (some ⟨p, 0, none⟩)) he11 hH10 rfl rfl (wanted_plain rfl _) (rn_alloc rfl w10) ?_
  intro p12 w12 a13 hn hH12 he13
  clear he11 a11 hH10 hn
  refine lSetF 3 (Ce.cs (⟨97, 0, 0, 0, 1, zeroP⟩ : Ce)) (cs := (Ce.cs (⟨97, 0, 0, 0, 1, zeroP⟩ : Ce))) he13 hH12 rfl (wanted_plain rfl _) rfl rfl rfl rfl rfl (by kernel_rfl) (by kernel_rfl) (by kernel_rfl) rfl ?_
  intro w14 a15 hH14 hf he15
  replace hH14 : Hp w [⟨p12, 60, (Ce.cs zeroCe)⟩, ⟨p10, 60, (Ce.cs zeroCe)⟩, ⟨p8, 60, (Ce.cs zeroCe)⟩, ⟨p6, 60, (Ce.cs (⟨97, 0, 0, 0, 1, zeroP⟩ : Ce))⟩] w14 := hH14
  clear hf
  clear he13 a13 hH12
  refine lSetF 2 (Ce.cs (⟨19968, 0, 0, 0, 2, zeroP⟩ : Ce)) (cs := (Ce.cs (⟨19968, 0, 0, 0, 2, zeroP⟩ : Ce))) he15 hH14 rfl (wanted_plain rfl _) rfl rfl rfl rfl rfl (by kernel_rfl) (by kernel_rfl) (by kernel_rfl) rfl ?_
  intro w16 a17 hH16 hf he17
  replace hH16 : Hp w [⟨p12, 60, (Ce.cs zeroCe)⟩, ⟨p10, 60, (Ce.cs zeroCe)⟩, ⟨p8, 60, (Ce.cs (⟨19968, 0, 0, 0, 2, zeroP⟩ : Ce))⟩, ⟨p6, 60, (Ce.cs (⟨97, 0, 0, 0, 1, zeroP⟩ : Ce))⟩] w16 := hH16
  clear hf
  clear he15 a15 hH14
  refine lSetF 1 (Ce.cs zeroCe) (cs := (Ce.cs zeroCe)) he17 hH16 rfl (wanted_plain rfl _) rfl rfl rfl rfl rfl (by kernel_rfl) (by kernel_rfl) (by kernel_rfl) rfl ?_
  intro w18 a19 hH18 hf he19
  replace hH18 : Hp w [⟨p12, 60, (Ce.cs zeroCe)⟩, ⟨p10, 60, (Ce.cs zeroCe)⟩, ⟨p8, 60, (Ce.cs (⟨19968, 0, 0, 0, 2, zeroP⟩ : Ce))⟩, ⟨p6, 60, (Ce.cs (⟨97, 0, 0, 0, 1, zeroP⟩ : Ce))⟩] w18 := hH18
  clear hf
  clear he17 a17 hH16
  refine lSetF 0 (Ce.cs (⟨0, 0, 0, 0, 1, zeroP⟩ : Ce)) (cs := (Ce.cs (⟨0, 0, 0, 0, 1, zeroP⟩ : Ce))) he19 hH18 rfl (wanted_plain rfl _) rfl rfl rfl rfl rfl (by kernel_rfl) (by kernel_rfl) (by kernel_rfl) rfl ?_
  intro w20 a21 hH20 hf he21
  replace hH20 : Hp w [⟨p12, 60, (Ce.cs (⟨0, 0, 0, 0, 1, zeroP⟩ : Ce))⟩, ⟨p10, 60, (Ce.cs zeroCe)⟩, ⟨p8, 60, (Ce.cs (⟨19968, 0, 0, 0, 2, zeroP⟩ : Ce))⟩, ⟨p6, 60, (Ce.cs (⟨97, 0, 0, 0, 1, zeroP⟩ : Ce))⟩] w20 := hH20
  clear hf
  clear he19 a19 hH18
  refine wpList_nil ?_
  refine then_ok ?_
  replace he21 : Env 248 [(4, Value.pointer (some ⟨p12, 0, none⟩)), (3, Value.pointer (some ⟨p10, 0, none⟩)), (2, Value.pointer (some ⟨p8, 0, none⟩)), (1, Value.pointer (some ⟨p6, 0, none⟩)), (12, Ce.v eC), (11, Ce.v zeroCe), (10, Ce.v wC), (9, Ce.v aC), (0, Value.bool false)] a21 := he21
  replace hH20 : Hp w [⟨p12, 60, (Ce.cs eC)⟩, ⟨p10, 60, (Ce.cs zeroCe)⟩, ⟨p8, 60, (Ce.cs wC)⟩, ⟨p6, 60, (Ce.cs aC)⟩] w20 := hH20
  have he22 : Env 248 [(4, Value.pointer (some ⟨p12, 0, none⟩)), (3, Value.pointer (some ⟨p10, 0, none⟩)), (2, Value.pointer (some ⟨p8, 0, none⟩)), (1, Value.pointer (some ⟨p6, 0, none⟩)), (0, Value.bool false)] a21 := he21.mem ⟨rfl, rfl, rfl, rfl, rfl, trivial⟩
  clear he21
  as_aux_lemma =>
    refine wp_seq ?_
    refine wp_region_lit ?_
    refine lV (Pn.v (⟨zeroC, zeroC, 32⟩ : Pn)) he22 rfl rfl (wanted_plain rfl _) (rn_bP2 rfl (he22.op rfl) w20) ?_
    intro a23 he23
    clear he22 a21
    refine lV (Ce.v (⟨0, 0, 0, 0, 1, (⟨zeroC, zeroC, 32⟩ : Pn)⟩ : Ce)) he23 rfl rfl (wanted_plain rfl _) (rn_bC23 rfl (he23.op rfl) (he23.op rfl) w20) ?_
    intro a24 he24
    clear he23 a23
    refine lNew (fun p => .pointer (some ⟨p, 0, none⟩)) he24 hH20 rfl rfl (wanted_plain rfl _) (rn_alloc rfl w20) ?_
    intro p25 w25 a26 hn hH25 he26
    clear he24 a24 hH20 hn
    refine lSetF 0 (Ce.cs (⟨0, 0, 0, 0, 1, (⟨zeroC, zeroC, 32⟩ : Pn)⟩ : Ce)) (cs := (Ce.cs (⟨0, 0, 0, 0, 1, (⟨zeroC, zeroC, 32⟩ : Pn)⟩ : Ce))) he26 hH25 rfl (wanted_plain rfl _) rfl rfl rfl rfl rfl (by kernel_rfl) (by kernel_rfl) (by kernel_rfl) rfl ?_
    intro w27 a28 hH27 hf he28
    replace hH27 : Hp w [⟨p25, 60, (Ce.cs (⟨0, 0, 0, 0, 1, (⟨zeroC, zeroC, 32⟩ : Pn)⟩ : Ce))⟩, ⟨p12, 60, (Ce.cs eC)⟩, ⟨p10, 60, (Ce.cs zeroCe)⟩, ⟨p8, 60, (Ce.cs wC)⟩, ⟨p6, 60, (Ce.cs aC)⟩] w27 := hH27
    clear hf
    clear he26 a26 hH25
    refine wpList_nil ?_
    refine then_ok ?_
    replace he28 : Env 248 [(5, Value.pointer (some ⟨p25, 0, none⟩)), (14, Ce.v iC), (13, Pn.v (⟨zeroC, zeroC, 32⟩ : Pn)), (4, Value.pointer (some ⟨p12, 0, none⟩)), (3, Value.pointer (some ⟨p10, 0, none⟩)), (2, Value.pointer (some ⟨p8, 0, none⟩)), (1, Value.pointer (some ⟨p6, 0, none⟩)), (0, Value.bool false)] a28 := he28
    replace hH27 : Hp w [⟨p25, 60, (Ce.cs iC)⟩, ⟨p12, 60, (Ce.cs eC)⟩, ⟨p10, 60, (Ce.cs zeroCe)⟩, ⟨p8, 60, (Ce.cs wC)⟩, ⟨p6, 60, (Ce.cs aC)⟩] w27 := hH27
    have he29 : Env 248 [(5, Value.pointer (some ⟨p25, 0, none⟩)), (4, Value.pointer (some ⟨p12, 0, none⟩)), (3, Value.pointer (some ⟨p10, 0, none⟩)), (2, Value.pointer (some ⟨p8, 0, none⟩)), (1, Value.pointer (some ⟨p6, 0, none⟩)), (0, Value.bool false)] a28 := he28.mem ⟨rfl, rfl, rfl, rfl, rfl, rfl, trivial⟩
    clear he28
    refine wp_seq ?_
    refine wp_region_lit ?_
    refine lV (Value.agg #[Value.slice none 0 0, Value.bool false]) he29 rfl rfl (wanted_plain rfl _) (rn_bL rfl  w27) ?_
    intro a30 he30
    clear he29 a28
    refine lNew (fun p => .pointer (some ⟨p, 0, none⟩)) he30 hH27 rfl rfl (wanted_plain rfl _) (rn_allocL rfl w27) ?_
    intro p31 w31 a32 hn hH31 he32
    clear he30 a30 hH27 hn
    refine lSetF 0 #[Value.slice none 0 0, Value.bool false] (cs := #[Value.slice none 0 0, Value.bool false]) he32 hH31 rfl (wanted_plain rfl _) rfl rfl rfl rfl rfl (by kernel_rfl) (by kernel_rfl) (by kernel_rfl) rfl ?_
    intro w33 a34 hH33 hf he34
    replace hH33 : Hp w [⟨p31, 27, #[Value.slice none 0 0, Value.bool false]⟩, ⟨p25, 60, (Ce.cs iC)⟩, ⟨p12, 60, (Ce.cs eC)⟩, ⟨p10, 60, (Ce.cs zeroCe)⟩, ⟨p8, 60, (Ce.cs wC)⟩, ⟨p6, 60, (Ce.cs aC)⟩] w33 := hH33
    clear hf
    clear he32 a32 hH31
    refine wpList_nil ?_
    refine then_ok ?_
    have he35 : Env 248 [(6, Value.pointer (some ⟨p31, 0, none⟩)), (5, Value.pointer (some ⟨p25, 0, none⟩)), (4, Value.pointer (some ⟨p12, 0, none⟩)), (3, Value.pointer (some ⟨p10, 0, none⟩)), (2, Value.pointer (some ⟨p8, 0, none⟩)), (1, Value.pointer (some ⟨p6, 0, none⟩)), (0, Value.bool false)] a34 := he34.mem ⟨rfl, rfl, rfl, rfl, rfl, rfl, rfl, trivial⟩
    clear he34
    refine wp_seq ?_
    refine wp_region_lit ?_
    refine lV (Ce.v aC) he35 rfl rfl (wanted_plain rfl _) (rn_load rfl (he35.op rfl) (hH33.at (i := 5) rfl)) ?_
    intro a36 he36
    clear he35 a34
    refine lV (Ce.v wC) he36 rfl rfl (wanted_plain rfl _) (rn_load rfl (he36.op rfl) (hH33.at (i := 4) rfl)) ?_
    intro a37 he37
    clear he36 a36
    refine lV (Ce.v zeroCe) he37 rfl rfl (wanted_plain rfl _) (rn_load rfl (he37.op rfl) (hH33.at (i := 3) rfl)) ?_
    intro a38 he38
    clear he37 a37
    refine lNew (fun p => .slice (some ⟨p, 0, none⟩) 3 3) he38 hH33 rfl rfl (wanted_plain rfl _) (rn_bs3 rfl (he38.op rfl) (he38.op rfl) (he38.op rfl) w33) ?_
    intro p39 w39 a40 hn hH39 he40
    clear he38 a38 hH33 hn
    refine lC he40 rfl rfl Tryd.func37 (by kernel_rfl) rfl rfl (wanted_plain rfl _) rfl (hard_c (some ⟨p39, 0, none⟩) 3 3 w39) ?_
    intro w41 a42 hn he42
    have hH41 := hH39.call hn
    clear he40 a40 hH39 hn
    refine lNew (fun p => .pointer (some ⟨p, 0, none⟩)) he42 hH41 rfl rfl (wanted_plain rfl _) (rn_allocL rfl w41) ?_
    intro p43 w43 a44 hn hH43 he44
    clear he42 a42 hH41 hn
    refine lSetF 0 #[Value.slice (some ⟨p39, 0, none⟩) 3 3, Value.bool false] (cs := #[Value.slice (some ⟨p39, 0, none⟩) 3 3, Value.bool false]) he44 hH43 rfl (wanted_plain rfl _) rfl rfl rfl rfl rfl (by kernel_rfl) (by kernel_rfl) (by kernel_rfl) rfl ?_
    intro w45 a46 hH45 hf he46
    replace hH45 : Hp w [⟨p43, 27, #[Value.slice (some ⟨p39, 0, none⟩) 3 3, Value.bool false]⟩, ⟨p39, 60, (cs3 aC wC zeroCe)⟩, ⟨p31, 27, #[Value.slice none 0 0, Value.bool false]⟩, ⟨p25, 60, (Ce.cs iC)⟩, ⟨p12, 60, (Ce.cs eC)⟩, ⟨p10, 60, (Ce.cs zeroCe)⟩, ⟨p8, 60, (Ce.cs wC)⟩, ⟨p6, 60, (Ce.cs aC)⟩] w45 := hH45
    clear hf
    clear he44 a44 hH43
    refine wpList_nil ?_
    refine then_ok ?_
    have he47 : Env 248 [(7, Value.pointer (some ⟨p43, 0, none⟩)), (6, Value.pointer (some ⟨p31, 0, none⟩)), (5, Value.pointer (some ⟨p25, 0, none⟩)), (4, Value.pointer (some ⟨p12, 0, none⟩)), (3, Value.pointer (some ⟨p10, 0, none⟩)), (2, Value.pointer (some ⟨p8, 0, none⟩)), (1, Value.pointer (some ⟨p6, 0, none⟩)), (0, Value.bool false)] a46 := he46.mem ⟨rfl, rfl, rfl, rfl, rfl, rfl, rfl, rfl, trivial⟩
    clear he46
    refine wp_seq ?_
    refine wp_region_lit ?_
    refine lV (Value.pointer (some ⟨p43, 1, none⟩)) he47 rfl rfl (wanted_plain rfl _) (rn_faL1 rfl (he47.op rfl) rfl w45) ?_
    intro a48 he48
    clear he47 a46
    refine lSetF 0 #[Value.bool true] (cs := #[Value.slice (some ⟨p39, 0, none⟩) 3 3, Value.bool true]) he48 hH45 rfl (wanted_plain rfl _) rfl rfl rfl rfl rfl (by kernel_rfl) (by kernel_rfl) (by kernel_rfl) rfl ?_
    intro w49 a50 hH49 hf he50
    replace hH49 : Hp w [⟨p43, 27, #[Value.slice (some ⟨p39, 0, none⟩) 3 3, Value.bool true]⟩, ⟨p39, 60, (cs3 aC wC zeroCe)⟩, ⟨p31, 27, #[Value.slice none 0 0, Value.bool false]⟩, ⟨p25, 60, (Ce.cs iC)⟩, ⟨p12, 60, (Ce.cs eC)⟩, ⟨p10, 60, (Ce.cs zeroCe)⟩, ⟨p8, 60, (Ce.cs wC)⟩, ⟨p6, 60, (Ce.cs aC)⟩] w49 := hH49
    clear hf
    clear he48 a48 hH45
    refine wpList_nil ?_
    refine then_ok ?_
    have he51 : Env 248 [(7, Value.pointer (some ⟨p43, 0, none⟩)), (6, Value.pointer (some ⟨p31, 0, none⟩)), (5, Value.pointer (some ⟨p25, 0, none⟩)), (4, Value.pointer (some ⟨p12, 0, none⟩)), (3, Value.pointer (some ⟨p10, 0, none⟩)), (2, Value.pointer (some ⟨p8, 0, none⟩)), (1, Value.pointer (some ⟨p6, 0, none⟩)), (0, Value.bool false)] a50 := he50.mem ⟨rfl, rfl, rfl, rfl, rfl, rfl, rfl, rfl, trivial⟩
    clear he50
    as_aux_lemma =>
      refine wp_seq ?_
      refine wp_seq ?_
      have heb52 : Env 248 [(7, Value.pointer (some ⟨p43, 0, none⟩)), (6, Value.pointer (some ⟨p31, 0, none⟩)), (5, Value.pointer (some ⟨p25, 0, none⟩)), (4, Value.pointer (some ⟨p12, 0, none⟩)), (3, Value.pointer (some ⟨p10, 0, none⟩)), (2, Value.pointer (some ⟨p8, 0, none⟩)), (1, Value.pointer (some ⟨p6, 0, none⟩)), (0, Value.bool false)] a50 := he51.mem ⟨rfl, rfl, rfl, rfl, rfl, rfl, rfl, rfl, trivial⟩
      clear he51
      refine region_any (S := fun W => Hp w [⟨p43, 27, #[Value.slice (some ⟨p39, 0, none⟩) 3 3, Value.bool true]⟩, ⟨p39, 60, (cs3 aC wC zeroCe)⟩, ⟨p31, 27, #[Value.slice none 0 0, Value.bool false]⟩, ⟨p25, 60, (Ce.cs iC)⟩, ⟨p12, 60, (Ce.cs eC)⟩, ⟨p10, 60, (Ce.cs zeroCe)⟩, ⟨p8, 60, (Ce.cs wC)⟩, ⟨p6, 60, (Ce.cs aC)⟩] W ∧ Tab W) (I := HoldsL [.val (Ce.v eC), .val (Ce.v eC), .cells ([eC, eC]), .line ([eC, eC]) false, .val (Value.bool true), .val (Value.bool false), .val (Value.bool false), .line ([]) false, .val (Value.bool true), .val (Value.bool false), .val (Value.bool false), .val (Value.bool false), .val (Ce.v aC), .val (Ce.v wC), .val (Ce.v zeroCe), .cells ([aC, wC, zeroCe]), .cells ([aC, wC, zeroCe]), .line ([aC, wC, zeroCe]) true, .val (Value.bool true), .val (Value.bool false), .val (Value.bool false), .val (Value.bool false), .val (Ce.v aC), .val (Ce.v wC), .cells ([aC, wC]), .cells ([aC, wC]), .line ([]) false, .val (Value.bool true), .val (Value.bool false), .val (Value.bool false), .val (Value.bool false), .val (Ce.v wC), .val (Ce.v zeroCe), .val (Ce.v eC), .cells ([wC, zeroCe, eC]), .line ([wC, zeroCe, eC]) false, .val (Value.bool true), .val (Value.bool false), .val (Value.bool false)]) (by kernel_rfl) heb52 ⟨hH49.drew, hT.new (hH49.drew).new⟩ (by kernel_rfl) HoldsL.new (fun w_ w1_ h_ hn_ => ⟨h_.1.call hn_, h_.2.new hn_⟩) ?_ ?_
      · skip
        refine StepsAll.cons ?_ ?_
        · intro aa ww hB hd
          have he : Env 248 [(7, Value.pointer (some ⟨p43, 0, none⟩)), (6, Value.pointer (some ⟨p31, 0, none⟩)), (5, Value.pointer (some ⟨p25, 0, none⟩)), (4, Value.pointer (some ⟨p12, 0, none⟩)), (3, Value.pointer (some ⟨p10, 0, none⟩)), (2, Value.pointer (some ⟨p8, 0, none⟩)), (1, Value.pointer (some ⟨p6, 0, none⟩)), (0, Value.bool false)] aa := hB.env
          exact .inr ⟨(wanted_plain rfl _), Does.val (v := Ce.v eC) (rn_load rfl (he.op rfl) (hB.held.1.at (i := 4) rfl)) ⟨Fr.refl _ _, rfl⟩⟩
        refine StepsAll.cons ?_ ?_
        · intro aa ww hB hd
          have he : Env 248 [(7, Value.pointer (some ⟨p43, 0, none⟩)), (6, Value.pointer (some ⟨p31, 0, none⟩)), (5, Value.pointer (some ⟨p25, 0, none⟩)), (4, Value.pointer (some ⟨p12, 0, none⟩)), (3, Value.pointer (some ⟨p10, 0, none⟩)), (2, Value.pointer (some ⟨p8, 0, none⟩)), (1, Value.pointer (some ⟨p6, 0, none⟩)), (0, Value.bool false)] aa := hB.env
          exact .inr ⟨(wanted_plain rfl _), Does.val (v := Ce.v eC) (rn_load rfl (he.op rfl) (hB.held.1.at (i := 4) rfl)) ⟨Fr.refl _ _, rfl⟩⟩
        refine StepsAll.cons ?_ ?_
        · intro aa ww hB hd
          have h22 : aa.eval (.tmp 22) = Ce.v eC := hd 0 (by kernel_rfl)
          have h23 : aa.eval (.tmp 23) = Ce.v eC := hd 1 (by kernel_rfl)
          have he : Env 248 [(23, Ce.v eC), (22, Ce.v eC), (7, Value.pointer (some ⟨p43, 0, none⟩)), (6, Value.pointer (some ⟨p31, 0, none⟩)), (5, Value.pointer (some ⟨p25, 0, none⟩)), (4, Value.pointer (some ⟨p12, 0, none⟩)), (3, Value.pointer (some ⟨p10, 0, none⟩)), (2, Value.pointer (some ⟨p8, 0, none⟩)), (1, Value.pointer (some ⟨p6, 0, none⟩)), (0, Value.bool false)] aa := ((hB.env.add h22).add h23)
          exact .inr ⟨(wanted_plain rfl _), Does.val (rn_bs2 rfl (he.op rfl) (he.op rfl) ww) ⟨(Fr.refl _ _).alloc _, SlC.mk (rdc_lit ww [eC, eC] _ rfl 2 rfl) (Nat.le_refl _)⟩⟩
        refine StepsAll.cons ?_ ?_
        · intro aa ww hB hd
          have hx24 : SlC ww (aa.eval (.tmp 24)) [eC, eC] := hd 2 (by kernel_rfl)
          obtain ⟨x24, h24⟩ : ∃ x, aa.eval (.tmp 24) = x := ⟨_, rfl⟩
          rw [h24] at hx24
          have he : Env 248 [(24, x24), (7, Value.pointer (some ⟨p43, 0, none⟩)), (6, Value.pointer (some ⟨p31, 0, none⟩)), (5, Value.pointer (some ⟨p25, 0, none⟩)), (4, Value.pointer (some ⟨p12, 0, none⟩)), (3, Value.pointer (some ⟨p10, 0, none⟩)), (2, Value.pointer (some ⟨p8, 0, none⟩)), (1, Value.pointer (some ⟨p6, 0, none⟩)), (0, Value.bool false)] aa := (hB.env.add h24)
          exact .inr ⟨(wanted_plain rfl _), does_call Tryd.func37 (by kernel_rfl) rfl rfl (he.args rfl) (hard_any _ _ ww hx24) (fun e_ w_ h_ => h_)⟩
        refine StepsAll.cons ?_ ?_
        · intro aa ww hB hd
          have hx25 : ∃ x, aa.eval (.tmp 25) = .agg #[x, .bool false] ∧ SlC ww x [eC, eC] := hd 3 (by kernel_rfl)
          obtain ⟨x25, h25, hx25⟩ := hx25
          have he : Env 248 [(25, Value.agg #[x25, Value.bool false]), (7, Value.pointer (some ⟨p43, 0, none⟩)), (6, Value.pointer (some ⟨p31, 0, none⟩)), (5, Value.pointer (some ⟨p25, 0, none⟩)), (4, Value.pointer (some ⟨p12, 0, none⟩)), (3, Value.pointer (some ⟨p10, 0, none⟩)), (2, Value.pointer (some ⟨p8, 0, none⟩)), (1, Value.pointer (some ⟨p6, 0, none⟩)), (0, Value.bool false)] aa := (hB.env.add h25)
          exact .inr ⟨(wanted_plain rfl _), does_call Tryd.func11 (by kernel_rfl) rfl rfl (he.args rfl) (news_s 2 _ [eC, eC] false 0 true kn2 (by decide) ww hx25 hB.held.2) (fun e_ w_ h_ => ⟨_, h_.1, h_.2, rfl⟩)⟩
        refine StepsAll.cons ?_ ?_
        · intro aa ww hB hd
          have h26 : aa.eval (.tmp 26) = Value.bool true := hd 4 (by kernel_rfl)
          have he : Env 248 [(26, Value.bool true), (7, Value.pointer (some ⟨p43, 0, none⟩)), (6, Value.pointer (some ⟨p31, 0, none⟩)), (5, Value.pointer (some ⟨p25, 0, none⟩)), (4, Value.pointer (some ⟨p12, 0, none⟩)), (3, Value.pointer (some ⟨p10, 0, none⟩)), (2, Value.pointer (some ⟨p8, 0, none⟩)), (1, Value.pointer (some ⟨p6, 0, none⟩)), (0, Value.bool false)] aa := (hB.env.add h26)
          exact .inr ⟨(wanted_plain rfl _), Does.val (v := Value.bool false) (rn_not (b := true) rfl (he.op rfl) ww) ⟨Fr.refl _ _, rfl⟩⟩
        refine StepsAll.cons ?_ ?_
        · intro aa ww hB hd
          have h27 : aa.eval (.tmp 27) = Value.bool false := hd 5 (by kernel_rfl)
          have he : Env 248 [(27, Value.bool false), (7, Value.pointer (some ⟨p43, 0, none⟩)), (6, Value.pointer (some ⟨p31, 0, none⟩)), (5, Value.pointer (some ⟨p25, 0, none⟩)), (4, Value.pointer (some ⟨p12, 0, none⟩)), (3, Value.pointer (some ⟨p10, 0, none⟩)), (2, Value.pointer (some ⟨p8, 0, none⟩)), (1, Value.pointer (some ⟨p6, 0, none⟩)), (0, Value.bool false)] aa := (hB.env.add h27)
          exact .inr ⟨(wanted_plain rfl _), Does.val (v := Value.bool false) (rn_mv rfl (he.op rfl) ww) ⟨Fr.refl _ _, rfl⟩⟩
        refine StepsAll.cons ?_ ?_
        · intro aa ww hB hd
          have h28 : aa.eval (.tmp 28) = Value.bool false := hd 6 (by kernel_rfl)
          have he : Env 248 [(28, Value.bool false), (7, Value.pointer (some ⟨p43, 0, none⟩)), (6, Value.pointer (some ⟨p31, 0, none⟩)), (5, Value.pointer (some ⟨p25, 0, none⟩)), (4, Value.pointer (some ⟨p12, 0, none⟩)), (3, Value.pointer (some ⟨p10, 0, none⟩)), (2, Value.pointer (some ⟨p8, 0, none⟩)), (1, Value.pointer (some ⟨p6, 0, none⟩)), (0, Value.bool false)] aa := (hB.env.add h28)
          exact .inr ⟨(he.want rfl rfl rfl rfl rfl), Does.val (v := Value.agg #[Value.slice none 0 0, Value.bool false]) (rn_ldp [Value.slice none 0 0, Value.bool false] rfl (he.op rfl) undL rfl infoL2 (hB.held.1.at (i := 2) rfl) rfl) ⟨Fr.refl _ _, _, rfl, SlC.nil _⟩⟩
        refine StepsAll.cons ?_ ?_
        · intro aa ww hB hd
          have hx29 : ∃ x, aa.eval (.tmp 29) = .agg #[x, .bool false] ∧ SlC ww x [] := hd 7 (by kernel_rfl)
          obtain ⟨x29, h29, hx29⟩ := hx29
          have h28 : aa.eval (.tmp 28) = Value.bool false := hd 6 (by kernel_rfl)
          have he : Env 248 [(28, Value.bool false), (29, Value.agg #[x29, Value.bool false]), (7, Value.pointer (some ⟨p43, 0, none⟩)), (6, Value.pointer (some ⟨p31, 0, none⟩)), (5, Value.pointer (some ⟨p25, 0, none⟩)), (4, Value.pointer (some ⟨p12, 0, none⟩)), (3, Value.pointer (some ⟨p10, 0, none⟩)), (2, Value.pointer (some ⟨p8, 0, none⟩)), (1, Value.pointer (some ⟨p6, 0, none⟩)), (0, Value.bool false)] aa := ((hB.env.add h29).add h28)
          exact .inr ⟨(he.want rfl rfl rfl rfl rfl), does_call Tryd.func11 (by kernel_rfl) rfl rfl (he.args rfl) (news_s 1001 _ [] false 2 true kn3 (by decide) ww hx29 hB.held.2) (fun e_ w_ h_ => ⟨_, h_.1, h_.2, rfl⟩)⟩
        refine StepsAll.cons ?_ ?_
        · intro aa ww hB hd
          have h30 : aa.eval (.tmp 30) = Value.bool true := hd 8 (by kernel_rfl)
          have h28 : aa.eval (.tmp 28) = Value.bool false := hd 6 (by kernel_rfl)
          have he : Env 248 [(28, Value.bool false), (30, Value.bool true), (7, Value.pointer (some ⟨p43, 0, none⟩)), (6, Value.pointer (some ⟨p31, 0, none⟩)), (5, Value.pointer (some ⟨p25, 0, none⟩)), (4, Value.pointer (some ⟨p12, 0, none⟩)), (3, Value.pointer (some ⟨p10, 0, none⟩)), (2, Value.pointer (some ⟨p8, 0, none⟩)), (1, Value.pointer (some ⟨p6, 0, none⟩)), (0, Value.bool false)] aa := ((hB.env.add h30).add h28)
          exact .inr ⟨(he.want rfl rfl rfl rfl rfl), Does.val (v := Value.bool false) (rn_not (b := true) rfl (he.op rfl) ww) ⟨Fr.refl _ _, rfl⟩⟩
        refine StepsAll.cons ?_ ?_
        · intro aa ww hB hd
          have h28 : aa.eval (.tmp 28) = Value.bool false := hd 6 (by kernel_rfl)
          have h31 : aa.eval (.tmp 31) = Value.bool false := hd 9 (by kernel_rfl)
          have he : Env 248 [(31, Value.bool false), (28, Value.bool false), (7, Value.pointer (some ⟨p43, 0, none⟩)), (6, Value.pointer (some ⟨p31, 0, none⟩)), (5, Value.pointer (some ⟨p25, 0, none⟩)), (4, Value.pointer (some ⟨p12, 0, none⟩)), (3, Value.pointer (some ⟨p10, 0, none⟩)), (2, Value.pointer (some ⟨p8, 0, none⟩)), (1, Value.pointer (some ⟨p6, 0, none⟩)), (0, Value.bool false)] aa := ((hB.env.add h28).add h31)
          exact .inr ⟨(wanted_plain rfl _), Does.val (v := Value.bool false) (rn_pk0 rfl (he.op rfl) (he.op rfl) ww) ⟨Fr.refl _ _, rfl⟩⟩
        refine StepsAll.cons ?_ ?_
        · intro aa ww hB hd
          have h32 : aa.eval (.tmp 32) = Value.bool false := hd 10 (by kernel_rfl)
          have he : Env 248 [(32, Value.bool false), (7, Value.pointer (some ⟨p43, 0, none⟩)), (6, Value.pointer (some ⟨p31, 0, none⟩)), (5, Value.pointer (some ⟨p25, 0, none⟩)), (4, Value.pointer (some ⟨p12, 0, none⟩)), (3, Value.pointer (some ⟨p10, 0, none⟩)), (2, Value.pointer (some ⟨p8, 0, none⟩)), (1, Value.pointer (some ⟨p6, 0, none⟩)), (0, Value.bool false)] aa := (hB.env.add h32)
          exact .inr ⟨(wanted_plain rfl _), Does.val (v := Value.bool false) (rn_mv rfl (he.op rfl) ww) ⟨Fr.refl _ _, rfl⟩⟩
        refine StepsAll.cons ?_ ?_
        · intro aa ww hB hd
          have h33 : aa.eval (.tmp 33) = Value.bool false := hd 11 (by kernel_rfl)
          have he : Env 248 [(33, Value.bool false), (7, Value.pointer (some ⟨p43, 0, none⟩)), (6, Value.pointer (some ⟨p31, 0, none⟩)), (5, Value.pointer (some ⟨p25, 0, none⟩)), (4, Value.pointer (some ⟨p12, 0, none⟩)), (3, Value.pointer (some ⟨p10, 0, none⟩)), (2, Value.pointer (some ⟨p8, 0, none⟩)), (1, Value.pointer (some ⟨p6, 0, none⟩)), (0, Value.bool false)] aa := (hB.env.add h33)
          exact .inr ⟨(he.want rfl rfl rfl rfl rfl), Does.val (v := Ce.v aC) (rn_load rfl (he.op rfl) (hB.held.1.at (i := 7) rfl)) ⟨Fr.refl _ _, rfl⟩⟩
        refine StepsAll.cons ?_ ?_
        · intro aa ww hB hd
          have h33 : aa.eval (.tmp 33) = Value.bool false := hd 11 (by kernel_rfl)
          have he : Env 248 [(33, Value.bool false), (7, Value.pointer (some ⟨p43, 0, none⟩)), (6, Value.pointer (some ⟨p31, 0, none⟩)), (5, Value.pointer (some ⟨p25, 0, none⟩)), (4, Value.pointer (some ⟨p12, 0, none⟩)), (3, Value.pointer (some ⟨p10, 0, none⟩)), (2, Value.pointer (some ⟨p8, 0, none⟩)), (1, Value.pointer (some ⟨p6, 0, none⟩)), (0, Value.bool false)] aa := (hB.env.add h33)
          exact .inr ⟨(he.want rfl rfl rfl rfl rfl), Does.val (v := Ce.v wC) (rn_load rfl (he.op rfl) (hB.held.1.at (i := 6) rfl)) ⟨Fr.refl _ _, rfl⟩⟩
        refine StepsAll.cons ?_ ?_
        · intro aa ww hB hd
          have h33 : aa.eval (.tmp 33) = Value.bool false := hd 11 (by kernel_rfl)
          have he : Env 248 [(33, Value.bool false), (7, Value.pointer (some ⟨p43, 0, none⟩)), (6, Value.pointer (some ⟨p31, 0, none⟩)), (5, Value.pointer (some ⟨p25, 0, none⟩)), (4, Value.pointer (some ⟨p12, 0, none⟩)), (3, Value.pointer (some ⟨p10, 0, none⟩)), (2, Value.pointer (some ⟨p8, 0, none⟩)), (1, Value.pointer (some ⟨p6, 0, none⟩)), (0, Value.bool false)] aa := (hB.env.add h33)
          exact .inr ⟨(he.want rfl rfl rfl rfl rfl), Does.val (v := Ce.v zeroCe) (rn_load rfl (he.op rfl) (hB.held.1.at (i := 5) rfl)) ⟨Fr.refl _ _, rfl⟩⟩
        refine StepsAll.cons ?_ ?_
        · intro aa ww hB hd
          have h34 : aa.eval (.tmp 34) = Ce.v aC := hd 12 (by kernel_rfl)
          have h35 : aa.eval (.tmp 35) = Ce.v wC := hd 13 (by kernel_rfl)
          have h36 : aa.eval (.tmp 36) = Ce.v zeroCe := hd 14 (by kernel_rfl)
          have h33 : aa.eval (.tmp 33) = Value.bool false := hd 11 (by kernel_rfl)
          have he : Env 248 [(33, Value.bool false), (36, Ce.v zeroCe), (35, Ce.v wC), (34, Ce.v aC), (7, Value.pointer (some ⟨p43, 0, none⟩)), (6, Value.pointer (some ⟨p31, 0, none⟩)), (5, Value.pointer (some ⟨p25, 0, none⟩)), (4, Value.pointer (some ⟨p12, 0, none⟩)), (3, Value.pointer (some ⟨p10, 0, none⟩)), (2, Value.pointer (some ⟨p8, 0, none⟩)), (1, Value.pointer (some ⟨p6, 0, none⟩)), (0, Value.bool false)] aa := ((((hB.env.add h34).add h35).add h36).add h33)
          exact .inr ⟨(he.want rfl rfl rfl rfl rfl), Does.val (rn_bs3 rfl (he.op rfl) (he.op rfl) (he.op rfl) ww) ⟨(Fr.refl _ _).alloc _, SlC.mk (rdc_lit ww [aC, wC, zeroCe] _ rfl 3 rfl) (Nat.le_refl _)⟩⟩
        refine StepsAll.cons ?_ ?_
        · intro aa ww hB hd
          have hx37 : SlC ww (aa.eval (.tmp 37)) [aC, wC, zeroCe] := hd 15 (by kernel_rfl)
          obtain ⟨x37, h37⟩ : ∃ x, aa.eval (.tmp 37) = x := ⟨_, rfl⟩
          rw [h37] at hx37
          have h33 : aa.eval (.tmp 33) = Value.bool false := hd 11 (by kernel_rfl)
          have he : Env 248 [(33, Value.bool false), (37, x37), (7, Value.pointer (some ⟨p43, 0, none⟩)), (6, Value.pointer (some ⟨p31, 0, none⟩)), (5, Value.pointer (some ⟨p25, 0, none⟩)), (4, Value.pointer (some ⟨p12, 0, none⟩)), (3, Value.pointer (some ⟨p10, 0, none⟩)), (2, Value.pointer (some ⟨p8, 0, none⟩)), (1, Value.pointer (some ⟨p6, 0, none⟩)), (0, Value.bool false)] aa := ((hB.env.add h37).add h33)
          exact .inr ⟨(he.want rfl rfl rfl rfl rfl), does_call Tryd.func38 (by kernel_rfl) rfl rfl (he.args rfl) (list_any _ _ ww hx37) (fun e_ w_ h_ => h_)⟩
        refine StepsAll.cons ?_ ?_
        · intro aa ww hB hd
          have h33 : aa.eval (.tmp 33) = Value.bool false := hd 11 (by kernel_rfl)
          have he : Env 248 [(33, Value.bool false), (7, Value.pointer (some ⟨p43, 0, none⟩)), (6, Value.pointer (some ⟨p31, 0, none⟩)), (5, Value.pointer (some ⟨p25, 0, none⟩)), (4, Value.pointer (some ⟨p12, 0, none⟩)), (3, Value.pointer (some ⟨p10, 0, none⟩)), (2, Value.pointer (some ⟨p8, 0, none⟩)), (1, Value.pointer (some ⟨p6, 0, none⟩)), (0, Value.bool false)] aa := (hB.env.add h33)
          exact .inr ⟨(he.want rfl rfl rfl rfl rfl), Does.val (v := Value.agg #[Value.slice (some ⟨p39, 0, none⟩) 3 3, Value.bool true]) (rn_ldp [Value.slice (some ⟨p39, 0, none⟩) 3 3, Value.bool true] rfl (he.op rfl) undL rfl infoL2 (hB.held.1.at (i := 0) rfl) rfl) ⟨Fr.refl _ _, _, rfl, SlC.mk (rdc_of (rdg_blk (R := rC) (n := 3) (l := [aC, wC, zeroCe]) (hB.held.1.at (i := 1) rfl) rfl rfl)) (Nat.le_refl _)⟩⟩
        refine StepsAll.cons ?_ ?_
        · intro aa ww hB hd
          have hx38 : SlC ww (aa.eval (.tmp 38)) [aC, wC, zeroCe] := hd 16 (by kernel_rfl)
          obtain ⟨x38, h38⟩ : ∃ x, aa.eval (.tmp 38) = x := ⟨_, rfl⟩
          rw [h38] at hx38
          have hx39 : ∃ x, aa.eval (.tmp 39) = .agg #[x, .bool true] ∧ SlC ww x [aC, wC, zeroCe] := hd 17 (by kernel_rfl)
          obtain ⟨x39, h39, hx39⟩ := hx39
          have h33 : aa.eval (.tmp 33) = Value.bool false := hd 11 (by kernel_rfl)
          have he : Env 248 [(33, Value.bool false), (39, Value.agg #[x39, Value.bool true]), (38, x38), (7, Value.pointer (some ⟨p43, 0, none⟩)), (6, Value.pointer (some ⟨p31, 0, none⟩)), (5, Value.pointer (some ⟨p25, 0, none⟩)), (4, Value.pointer (some ⟨p12, 0, none⟩)), (3, Value.pointer (some ⟨p10, 0, none⟩)), (2, Value.pointer (some ⟨p8, 0, none⟩)), (1, Value.pointer (some ⟨p6, 0, none⟩)), (0, Value.bool false)] aa := (((hB.env.add h38).add h39).add h33)
          exact .inr ⟨(he.want rfl rfl rfl rfl rfl), does_call Tryd.func15 (by kernel_rfl) rfl rfl (he.args rfl) (of_s _ [aC, wC, zeroCe] true _ [aC, wC, zeroCe] true 0 true kn5 (by decide) (by decide) ww hx38 hx39 hB.held.2) (fun e_ w_ h_ => ⟨_, h_.1, h_.2, rfl⟩)⟩
        refine StepsAll.cons ?_ ?_
        · intro aa ww hB hd
          have h40 : aa.eval (.tmp 40) = Value.bool true := hd 18 (by kernel_rfl)
          have h33 : aa.eval (.tmp 33) = Value.bool false := hd 11 (by kernel_rfl)
          have he : Env 248 [(33, Value.bool false), (40, Value.bool true), (7, Value.pointer (some ⟨p43, 0, none⟩)), (6, Value.pointer (some ⟨p31, 0, none⟩)), (5, Value.pointer (some ⟨p25, 0, none⟩)), (4, Value.pointer (some ⟨p12, 0, none⟩)), (3, Value.pointer (some ⟨p10, 0, none⟩)), (2, Value.pointer (some ⟨p8, 0, none⟩)), (1, Value.pointer (some ⟨p6, 0, none⟩)), (0, Value.bool false)] aa := ((hB.env.add h40).add h33)
          exact .inr ⟨(he.want rfl rfl rfl rfl rfl), Does.val (v := Value.bool false) (rn_not (b := true) rfl (he.op rfl) ww) ⟨Fr.refl _ _, rfl⟩⟩
        refine StepsAll.cons ?_ ?_
        · intro aa ww hB hd
          have h33 : aa.eval (.tmp 33) = Value.bool false := hd 11 (by kernel_rfl)
          have h41 : aa.eval (.tmp 41) = Value.bool false := hd 19 (by kernel_rfl)
          have he : Env 248 [(41, Value.bool false), (33, Value.bool false), (7, Value.pointer (some ⟨p43, 0, none⟩)), (6, Value.pointer (some ⟨p31, 0, none⟩)), (5, Value.pointer (some ⟨p25, 0, none⟩)), (4, Value.pointer (some ⟨p12, 0, none⟩)), (3, Value.pointer (some ⟨p10, 0, none⟩)), (2, Value.pointer (some ⟨p8, 0, none⟩)), (1, Value.pointer (some ⟨p6, 0, none⟩)), (0, Value.bool false)] aa := ((hB.env.add h33).add h41)
          exact .inr ⟨(wanted_plain rfl _), Does.val (v := Value.bool false) (rn_pk0 rfl (he.op rfl) (he.op rfl) ww) ⟨Fr.refl _ _, rfl⟩⟩
        refine StepsAll.cons ?_ ?_
        · intro aa ww hB hd
          have h42 : aa.eval (.tmp 42) = Value.bool false := hd 20 (by kernel_rfl)
          have he : Env 248 [(42, Value.bool false), (7, Value.pointer (some ⟨p43, 0, none⟩)), (6, Value.pointer (some ⟨p31, 0, none⟩)), (5, Value.pointer (some ⟨p25, 0, none⟩)), (4, Value.pointer (some ⟨p12, 0, none⟩)), (3, Value.pointer (some ⟨p10, 0, none⟩)), (2, Value.pointer (some ⟨p8, 0, none⟩)), (1, Value.pointer (some ⟨p6, 0, none⟩)), (0, Value.bool false)] aa := (hB.env.add h42)
          exact .inr ⟨(wanted_plain rfl _), Does.val (v := Value.bool false) (rn_mv rfl (he.op rfl) ww) ⟨Fr.refl _ _, rfl⟩⟩
        refine StepsAll.cons ?_ ?_
        · intro aa ww hB hd
          have h43 : aa.eval (.tmp 43) = Value.bool false := hd 21 (by kernel_rfl)
          have he : Env 248 [(43, Value.bool false), (7, Value.pointer (some ⟨p43, 0, none⟩)), (6, Value.pointer (some ⟨p31, 0, none⟩)), (5, Value.pointer (some ⟨p25, 0, none⟩)), (4, Value.pointer (some ⟨p12, 0, none⟩)), (3, Value.pointer (some ⟨p10, 0, none⟩)), (2, Value.pointer (some ⟨p8, 0, none⟩)), (1, Value.pointer (some ⟨p6, 0, none⟩)), (0, Value.bool false)] aa := (hB.env.add h43)
          exact .inr ⟨(he.want rfl rfl rfl rfl rfl), Does.val (v := Ce.v aC) (rn_load rfl (he.op rfl) (hB.held.1.at (i := 7) rfl)) ⟨Fr.refl _ _, rfl⟩⟩
        refine StepsAll.cons ?_ ?_
        · intro aa ww hB hd
          have h43 : aa.eval (.tmp 43) = Value.bool false := hd 21 (by kernel_rfl)
          have he : Env 248 [(43, Value.bool false), (7, Value.pointer (some ⟨p43, 0, none⟩)), (6, Value.pointer (some ⟨p31, 0, none⟩)), (5, Value.pointer (some ⟨p25, 0, none⟩)), (4, Value.pointer (some ⟨p12, 0, none⟩)), (3, Value.pointer (some ⟨p10, 0, none⟩)), (2, Value.pointer (some ⟨p8, 0, none⟩)), (1, Value.pointer (some ⟨p6, 0, none⟩)), (0, Value.bool false)] aa := (hB.env.add h43)
          exact .inr ⟨(he.want rfl rfl rfl rfl rfl), Does.val (v := Ce.v wC) (rn_load rfl (he.op rfl) (hB.held.1.at (i := 6) rfl)) ⟨Fr.refl _ _, rfl⟩⟩
        refine StepsAll.cons ?_ ?_
        · intro aa ww hB hd
          have h44 : aa.eval (.tmp 44) = Ce.v aC := hd 22 (by kernel_rfl)
          have h45 : aa.eval (.tmp 45) = Ce.v wC := hd 23 (by kernel_rfl)
          have h43 : aa.eval (.tmp 43) = Value.bool false := hd 21 (by kernel_rfl)
          have he : Env 248 [(43, Value.bool false), (45, Ce.v wC), (44, Ce.v aC), (7, Value.pointer (some ⟨p43, 0, none⟩)), (6, Value.pointer (some ⟨p31, 0, none⟩)), (5, Value.pointer (some ⟨p25, 0, none⟩)), (4, Value.pointer (some ⟨p12, 0, none⟩)), (3, Value.pointer (some ⟨p10, 0, none⟩)), (2, Value.pointer (some ⟨p8, 0, none⟩)), (1, Value.pointer (some ⟨p6, 0, none⟩)), (0, Value.bool false)] aa := (((hB.env.add h44).add h45).add h43)
          exact .inr ⟨(he.want rfl rfl rfl rfl rfl), Does.val (rn_bs2 rfl (he.op rfl) (he.op rfl) ww) ⟨(Fr.refl _ _).alloc _, SlC.mk (rdc_lit ww [aC, wC] _ rfl 2 rfl) (Nat.le_refl _)⟩⟩
        refine StepsAll.cons ?_ ?_
        · intro aa ww hB hd
          have hx46 : SlC ww (aa.eval (.tmp 46)) [aC, wC] := hd 24 (by kernel_rfl)
          obtain ⟨x46, h46⟩ : ∃ x, aa.eval (.tmp 46) = x := ⟨_, rfl⟩
          rw [h46] at hx46
          have h43 : aa.eval (.tmp 43) = Value.bool false := hd 21 (by kernel_rfl)
          have he : Env 248 [(43, Value.bool false), (46, x46), (7, Value.pointer (some ⟨p43, 0, none⟩)), (6, Value.pointer (some ⟨p31, 0, none⟩)), (5, Value.pointer (some ⟨p25, 0, none⟩)), (4, Value.pointer (some ⟨p12, 0, none⟩)), (3, Value.pointer (some ⟨p10, 0, none⟩)), (2, Value.pointer (some ⟨p8, 0, none⟩)), (1, Value.pointer (some ⟨p6, 0, none⟩)), (0, Value.bool false)] aa := ((hB.env.add h46).add h43)
          exact .inr ⟨(he.want rfl rfl rfl rfl rfl), does_call Tryd.func38 (by kernel_rfl) rfl rfl (he.args rfl) (list_any _ _ ww hx46) (fun e_ w_ h_ => h_)⟩
        refine StepsAll.cons ?_ ?_
        · intro aa ww hB hd
          have h43 : aa.eval (.tmp 43) = Value.bool false := hd 21 (by kernel_rfl)
          have he : Env 248 [(43, Value.bool false), (7, Value.pointer (some ⟨p43, 0, none⟩)), (6, Value.pointer (some ⟨p31, 0, none⟩)), (5, Value.pointer (some ⟨p25, 0, none⟩)), (4, Value.pointer (some ⟨p12, 0, none⟩)), (3, Value.pointer (some ⟨p10, 0, none⟩)), (2, Value.pointer (some ⟨p8, 0, none⟩)), (1, Value.pointer (some ⟨p6, 0, none⟩)), (0, Value.bool false)] aa := (hB.env.add h43)
          exact .inr ⟨(he.want rfl rfl rfl rfl rfl), Does.val (v := Value.agg #[Value.slice none 0 0, Value.bool false]) (rn_ldp [Value.slice none 0 0, Value.bool false] rfl (he.op rfl) undL rfl infoL2 (hB.held.1.at (i := 2) rfl) rfl) ⟨Fr.refl _ _, _, rfl, SlC.nil _⟩⟩
        refine StepsAll.cons ?_ ?_
        · intro aa ww hB hd
          have hx47 : SlC ww (aa.eval (.tmp 47)) [aC, wC] := hd 25 (by kernel_rfl)
          obtain ⟨x47, h47⟩ : ∃ x, aa.eval (.tmp 47) = x := ⟨_, rfl⟩
          rw [h47] at hx47
          have hx48 : ∃ x, aa.eval (.tmp 48) = .agg #[x, .bool false] ∧ SlC ww x [] := hd 26 (by kernel_rfl)
          obtain ⟨x48, h48, hx48⟩ := hx48
          have h43 : aa.eval (.tmp 43) = Value.bool false := hd 21 (by kernel_rfl)
          have he : Env 248 [(43, Value.bool false), (48, Value.agg #[x48, Value.bool false]), (47, x47), (7, Value.pointer (some ⟨p43, 0, none⟩)), (6, Value.pointer (some ⟨p31, 0, none⟩)), (5, Value.pointer (some ⟨p25, 0, none⟩)), (4, Value.pointer (some ⟨p12, 0, none⟩)), (3, Value.pointer (some ⟨p10, 0, none⟩)), (2, Value.pointer (some ⟨p8, 0, none⟩)), (1, Value.pointer (some ⟨p6, 0, none⟩)), (0, Value.bool false)] aa := (((hB.env.add h47).add h48).add h43)
          exact .inr ⟨(he.want rfl rfl rfl rfl rfl), does_call Tryd.func15 (by kernel_rfl) rfl rfl (he.args rfl) (of_s _ [aC, wC] false _ [] false 2 true kn7 (by decide) (by decide) ww hx47 hx48 hB.held.2) (fun e_ w_ h_ => ⟨_, h_.1, h_.2, rfl⟩)⟩
        refine StepsAll.cons ?_ ?_
        · intro aa ww hB hd
          have h49 : aa.eval (.tmp 49) = Value.bool true := hd 27 (by kernel_rfl)
          have h43 : aa.eval (.tmp 43) = Value.bool false := hd 21 (by kernel_rfl)
          have he : Env 248 [(43, Value.bool false), (49, Value.bool true), (7, Value.pointer (some ⟨p43, 0, none⟩)), (6, Value.pointer (some ⟨p31, 0, none⟩)), (5, Value.pointer (some ⟨p25, 0, none⟩)), (4, Value.pointer (some ⟨p12, 0, none⟩)), (3, Value.pointer (some ⟨p10, 0, none⟩)), (2, Value.pointer (some ⟨p8, 0, none⟩)), (1, Value.pointer (some ⟨p6, 0, none⟩)), (0, Value.bool false)] aa := ((hB.env.add h49).add h43)
          exact .inr ⟨(he.want rfl rfl rfl rfl rfl), Does.val (v := Value.bool false) (rn_not (b := true) rfl (he.op rfl) ww) ⟨Fr.refl _ _, rfl⟩⟩
        refine StepsAll.cons ?_ ?_
        · intro aa ww hB hd
          have h43 : aa.eval (.tmp 43) = Value.bool false := hd 21 (by kernel_rfl)
          have h50 : aa.eval (.tmp 50) = Value.bool false := hd 28 (by kernel_rfl)
          have he : Env 248 [(50, Value.bool false), (43, Value.bool false), (7, Value.pointer (some ⟨p43, 0, none⟩)), (6, Value.pointer (some ⟨p31, 0, none⟩)), (5, Value.pointer (some ⟨p25, 0, none⟩)), (4, Value.pointer (some ⟨p12, 0, none⟩)), (3, Value.pointer (some ⟨p10, 0, none⟩)), (2, Value.pointer (some ⟨p8, 0, none⟩)), (1, Value.pointer (some ⟨p6, 0, none⟩)), (0, Value.bool false)] aa := ((hB.env.add h43).add h50)
          exact .inr ⟨(wanted_plain rfl _), Does.val (v := Value.bool false) (rn_pk0 rfl (he.op rfl) (he.op rfl) ww) ⟨Fr.refl _ _, rfl⟩⟩
        refine StepsAll.cons ?_ ?_
        · intro aa ww hB hd
          have h51 : aa.eval (.tmp 51) = Value.bool false := hd 29 (by kernel_rfl)
          have he : Env 248 [(51, Value.bool false), (7, Value.pointer (some ⟨p43, 0, none⟩)), (6, Value.pointer (some ⟨p31, 0, none⟩)), (5, Value.pointer (some ⟨p25, 0, none⟩)), (4, Value.pointer (some ⟨p12, 0, none⟩)), (3, Value.pointer (some ⟨p10, 0, none⟩)), (2, Value.pointer (some ⟨p8, 0, none⟩)), (1, Value.pointer (some ⟨p6, 0, none⟩)), (0, Value.bool false)] aa := (hB.env.add h51)
          exact .inr ⟨(wanted_plain rfl _), Does.val (v := Value.bool false) (rn_mv rfl (he.op rfl) ww) ⟨Fr.refl _ _, rfl⟩⟩
        refine StepsAll.cons ?_ ?_
        · intro aa ww hB hd
          have h52 : aa.eval (.tmp 52) = Value.bool false := hd 30 (by kernel_rfl)
          have he : Env 248 [(52, Value.bool false), (7, Value.pointer (some ⟨p43, 0, none⟩)), (6, Value.pointer (some ⟨p31, 0, none⟩)), (5, Value.pointer (some ⟨p25, 0, none⟩)), (4, Value.pointer (some ⟨p12, 0, none⟩)), (3, Value.pointer (some ⟨p10, 0, none⟩)), (2, Value.pointer (some ⟨p8, 0, none⟩)), (1, Value.pointer (some ⟨p6, 0, none⟩)), (0, Value.bool false)] aa := (hB.env.add h52)
          exact .inr ⟨(he.want rfl rfl rfl rfl rfl), Does.val (v := Ce.v wC) (rn_load rfl (he.op rfl) (hB.held.1.at (i := 6) rfl)) ⟨Fr.refl _ _, rfl⟩⟩
        refine StepsAll.cons ?_ ?_
        · intro aa ww hB hd
          have h52 : aa.eval (.tmp 52) = Value.bool false := hd 30 (by kernel_rfl)
          have he : Env 248 [(52, Value.bool false), (7, Value.pointer (some ⟨p43, 0, none⟩)), (6, Value.pointer (some ⟨p31, 0, none⟩)), (5, Value.pointer (some ⟨p25, 0, none⟩)), (4, Value.pointer (some ⟨p12, 0, none⟩)), (3, Value.pointer (some ⟨p10, 0, none⟩)), (2, Value.pointer (some ⟨p8, 0, none⟩)), (1, Value.pointer (some ⟨p6, 0, none⟩)), (0, Value.bool false)] aa := (hB.env.add h52)
          exact .inr ⟨(he.want rfl rfl rfl rfl rfl), Does.val (v := Ce.v zeroCe) (rn_load rfl (he.op rfl) (hB.held.1.at (i := 5) rfl)) ⟨Fr.refl _ _, rfl⟩⟩
        refine StepsAll.cons ?_ ?_
        · intro aa ww hB hd
          have h52 : aa.eval (.tmp 52) = Value.bool false := hd 30 (by kernel_rfl)
          have he : Env 248 [(52, Value.bool false), (7, Value.pointer (some ⟨p43, 0, none⟩)), (6, Value.pointer (some ⟨p31, 0, none⟩)), (5, Value.pointer (some ⟨p25, 0, none⟩)), (4, Value.pointer (some ⟨p12, 0, none⟩)), (3, Value.pointer (some ⟨p10, 0, none⟩)), (2, Value.pointer (some ⟨p8, 0, none⟩)), (1, Value.pointer (some ⟨p6, 0, none⟩)), (0, Value.bool false)] aa := (hB.env.add h52)
          exact .inr ⟨(he.want rfl rfl rfl rfl rfl), Does.val (v := Ce.v eC) (rn_load rfl (he.op rfl) (hB.held.1.at (i := 4) rfl)) ⟨Fr.refl _ _, rfl⟩⟩
        refine StepsAll.cons ?_ ?_
        · intro aa ww hB hd
          have h53 : aa.eval (.tmp 53) = Ce.v wC := hd 31 (by kernel_rfl)
          have h54 : aa.eval (.tmp 54) = Ce.v zeroCe := hd 32 (by kernel_rfl)
          have h55 : aa.eval (.tmp 55) = Ce.v eC := hd 33 (by kernel_rfl)
          have h52 : aa.eval (.tmp 52) = Value.bool false := hd 30 (by kernel_rfl)
          have he : Env 248 [(52, Value.bool false), (55, Ce.v eC), (54, Ce.v zeroCe), (53, Ce.v wC), (7, Value.pointer (some ⟨p43, 0, none⟩)), (6, Value.pointer (some ⟨p31, 0, none⟩)), (5, Value.pointer (some ⟨p25, 0, none⟩)), (4, Value.pointer (some ⟨p12, 0, none⟩)), (3, Value.pointer (some ⟨p10, 0, none⟩)), (2, Value.pointer (some ⟨p8, 0, none⟩)), (1, Value.pointer (some ⟨p6, 0, none⟩)), (0, Value.bool false)] aa := ((((hB.env.add h53).add h54).add h55).add h52)
          exact .inr ⟨(he.want rfl rfl rfl rfl rfl), Does.val (rn_bs3 rfl (he.op rfl) (he.op rfl) (he.op rfl) ww) ⟨(Fr.refl _ _).alloc _, SlC.mk (rdc_lit ww [wC, zeroCe, eC] _ rfl 3 rfl) (Nat.le_refl _)⟩⟩
        refine StepsAll.cons ?_ ?_
        · intro aa ww hB hd
          have hx56 : SlC ww (aa.eval (.tmp 56)) [wC, zeroCe, eC] := hd 34 (by kernel_rfl)
          obtain ⟨x56, h56⟩ : ∃ x, aa.eval (.tmp 56) = x := ⟨_, rfl⟩
          rw [h56] at hx56
          have h52 : aa.eval (.tmp 52) = Value.bool false := hd 30 (by kernel_rfl)
          have he : Env 248 [(52, Value.bool false), (56, x56), (7, Value.pointer (some ⟨p43, 0, none⟩)), (6, Value.pointer (some ⟨p31, 0, none⟩)), (5, Value.pointer (some ⟨p25, 0, none⟩)), (4, Value.pointer (some ⟨p12, 0, none⟩)), (3, Value.pointer (some ⟨p10, 0, none⟩)), (2, Value.pointer (some ⟨p8, 0, none⟩)), (1, Value.pointer (some ⟨p6, 0, none⟩)), (0, Value.bool false)] aa := ((hB.env.add h56).add h52)
          exact .inr ⟨(he.want rfl rfl rfl rfl rfl), does_call Tryd.func37 (by kernel_rfl) rfl rfl (he.args rfl) (hard_any _ _ ww hx56) (fun e_ w_ h_ => h_)⟩
        refine StepsAll.cons ?_ ?_
        · intro aa ww hB hd
          have hx57 : ∃ x, aa.eval (.tmp 57) = .agg #[x, .bool false] ∧ SlC ww x [wC, zeroCe, eC] := hd 35 (by kernel_rfl)
          obtain ⟨x57, h57, hx57⟩ := hx57
          have h52 : aa.eval (.tmp 52) = Value.bool false := hd 30 (by kernel_rfl)
          have he : Env 248 [(52, Value.bool false), (57, Value.agg #[x57, Value.bool false]), (7, Value.pointer (some ⟨p43, 0, none⟩)), (6, Value.pointer (some ⟨p31, 0, none⟩)), (5, Value.pointer (some ⟨p25, 0, none⟩)), (4, Value.pointer (some ⟨p12, 0, none⟩)), (3, Value.pointer (some ⟨p10, 0, none⟩)), (2, Value.pointer (some ⟨p8, 0, none⟩)), (1, Value.pointer (some ⟨p6, 0, none⟩)), (0, Value.bool false)] aa := ((hB.env.add h57).add h52)
          exact .inr ⟨(he.want rfl rfl rfl rfl rfl), does_call Tryd.func13 (by kernel_rfl) rfl rfl (he.args rfl) (valid_s _ [wC, zeroCe, eC] false true kn9 ww hx57 hB.held.2) (fun e_ w_ h_ => ⟨_, h_.1, h_.2, rfl⟩)⟩
        refine StepsAll.cons ?_ ?_
        · intro aa ww hB hd
          have h58 : aa.eval (.tmp 58) = Value.bool true := hd 36 (by kernel_rfl)
          have h52 : aa.eval (.tmp 52) = Value.bool false := hd 30 (by kernel_rfl)
          have he : Env 248 [(52, Value.bool false), (58, Value.bool true), (7, Value.pointer (some ⟨p43, 0, none⟩)), (6, Value.pointer (some ⟨p31, 0, none⟩)), (5, Value.pointer (some ⟨p25, 0, none⟩)), (4, Value.pointer (some ⟨p12, 0, none⟩)), (3, Value.pointer (some ⟨p10, 0, none⟩)), (2, Value.pointer (some ⟨p8, 0, none⟩)), (1, Value.pointer (some ⟨p6, 0, none⟩)), (0, Value.bool false)] aa := ((hB.env.add h58).add h52)
          exact .inr ⟨(he.want rfl rfl rfl rfl rfl), Does.val (v := Value.bool false) (rn_not (b := true) rfl (he.op rfl) ww) ⟨Fr.refl _ _, rfl⟩⟩
        refine StepsAll.cons ?_ ?_
        · intro aa ww hB hd
          have h52 : aa.eval (.tmp 52) = Value.bool false := hd 30 (by kernel_rfl)
          have h59 : aa.eval (.tmp 59) = Value.bool false := hd 37 (by kernel_rfl)
          have he : Env 248 [(59, Value.bool false), (52, Value.bool false), (7, Value.pointer (some ⟨p43, 0, none⟩)), (6, Value.pointer (some ⟨p31, 0, none⟩)), (5, Value.pointer (some ⟨p25, 0, none⟩)), (4, Value.pointer (some ⟨p12, 0, none⟩)), (3, Value.pointer (some ⟨p10, 0, none⟩)), (2, Value.pointer (some ⟨p8, 0, none⟩)), (1, Value.pointer (some ⟨p6, 0, none⟩)), (0, Value.bool false)] aa := ((hB.env.add h52).add h59)
          exact .inr ⟨(wanted_plain rfl _), Does.val (v := Value.bool false) (rn_pk0 rfl (he.op rfl) (he.op rfl) ww) ⟨Fr.refl _ _, rfl⟩⟩
        exact StepsAll.nil
      · intro aa ww hB hall
        have h60 : aa.eval (.tmp 60) = Value.bool false := hall 38 (Nat.le_of_ble_eq_true (n := 39) (by kernel_rfl))
        have he53 : Env 248 [(60, Value.bool false), (7, Value.pointer (some ⟨p43, 0, none⟩)), (6, Value.pointer (some ⟨p31, 0, none⟩)), (5, Value.pointer (some ⟨p25, 0, none⟩)), (4, Value.pointer (some ⟨p12, 0, none⟩)), (3, Value.pointer (some ⟨p10, 0, none⟩)), (2, Value.pointer (some ⟨p8, 0, none⟩)), (1, Value.pointer (some ⟨p6, 0, none⟩)), (0, Value.bool false)] aa := (hB.env.add h60)
        have hH53 := hB.held.1
        have hTt := hB.held.2
        clear hB hall heb52 hH49 h60
        refine then_ok ?_
        clear hTt
        refine wp_cond_false (he53.op rfl) ?_
        refine wp_skip ?_
        refine then_ok ?_
        have he54 : Env 248 [(7, Value.pointer (some ⟨p43, 0, none⟩)), (6, Value.pointer (some ⟨p31, 0, none⟩)), (5, Value.pointer (some ⟨p25, 0, none⟩)), (4, Value.pointer (some ⟨p12, 0, none⟩)), (3, Value.pointer (some ⟨p10, 0, none⟩)), (2, Value.pointer (some ⟨p8, 0, none⟩)), (1, Value.pointer (some ⟨p6, 0, none⟩)), (0, Value.bool false)] aa := he53.mem ⟨rfl, rfl, rfl, rfl, rfl, rfl, rfl, rfl, trivial⟩
        clear he53
        as_aux_lemma =>
          refine wp_seq ?_
          refine wp_seq ?_
          have heb55 : Env 248 [(7, Value.pointer (some ⟨p43, 0, none⟩)), (6, Value.pointer (some ⟨p31, 0, none⟩)), (5, Value.pointer (some ⟨p25, 0, none⟩)), (4, Value.pointer (some ⟨p12, 0, none⟩)), (3, Value.pointer (some ⟨p10, 0, none⟩)), (2, Value.pointer (some ⟨p8, 0, none⟩)), (1, Value.pointer (some ⟨p6, 0, none⟩)), (0, Value.bool false)] aa := he54.mem ⟨rfl, rfl, rfl, rfl, rfl, rfl, rfl, rfl, trivial⟩
          clear he54
          refine region_any (S := fun W => Hp w [⟨p43, 27, #[Value.slice (some ⟨p39, 0, none⟩) 3 3, Value.bool true]⟩, ⟨p39, 60, (cs3 aC wC zeroCe)⟩, ⟨p31, 27, #[Value.slice none 0 0, Value.bool false]⟩, ⟨p25, 60, (Ce.cs iC)⟩, ⟨p12, 60, (Ce.cs eC)⟩, ⟨p10, 60, (Ce.cs zeroCe)⟩, ⟨p8, 60, (Ce.cs wC)⟩, ⟨p6, 60, (Ce.cs aC)⟩] W ∧ Tab W) (I := HoldsL [.val (Ce.v aC), .val (Ce.v eC), .val (Ce.v iC), .val (Ce.v eC), .cells ([aC, eC, iC, eC]), .line ([aC, eC, iC, eC]) false, .val (Value.int .i64 3), .val (Value.bool false), .val (Value.bool false), .val (Ce.v aC), .val (Ce.v eC), .val (Ce.v eC), .cells ([aC, eC, eC]), .line ([aC, eC, eC]) false, .val (Ce.v aC), .cells ([aC]), .line ([aC]) false, .val (Value.bool true), .val (Value.bool false), .val (Value.bool false), .val (Value.bool false), .val (Ce.v eC), .val (Ce.v eC), .cells ([eC, eC]), .line ([eC, eC]) false, .line ([]) false, .val (Value.bool true), .val (Value.bool false), .val (Value.bool false), .val (Value.bool false), .val (Ce.v aC), .val (Ce.v wC), .val (Ce.v zeroCe), .cells ([aC, wC, zeroCe]), .line ([aC, wC, zeroCe]) false, .val (Ce.v aC), .val (Ce.v eC), .cells ([aC, eC]), .line ([aC, eC]) false, .val (Value.bool true), .val (Value.bool false), .val (Value.bool false), .val (Value.bool false), .val (Ce.v aC), .val (Ce.v wC), .val (Ce.v zeroCe), .cells ([aC, wC, zeroCe]), .line ([aC, wC, zeroCe]) false, .val (Ce.v aC), .val (Ce.v wC), .val (Ce.v zeroCe), .val (Ce.v eC), .val (Ce.v eC), .cells ([aC, wC, zeroCe, eC, eC]), .line ([aC, wC, zeroCe, eC, eC]) false, .val (Value.bool true), .val (Value.bool false), .val (Value.bool false), .val (Value.bool false), .val (Ce.v aC), .val (Ce.v wC), .val (Ce.v zeroCe), .cells ([aC, wC, zeroCe]), .line ([aC, wC, zeroCe]) false, .line ([]) false, .val (Value.bool true), .val (Value.bool false), .val (Value.bool false), .val (Value.bool false), .val (Ce.v eC), .val (Ce.v aC), .val (Ce.v eC), .val (Ce.v eC), .cells ([eC, aC, eC, eC]), .line ([eC, aC, eC, eC]) false, .val (Value.string { data := #[32, 97] }), .val (Value.bool false), .val (Value.bool false)]) (by kernel_rfl) heb55 ⟨hH53.drew, hT.new (hH53.drew).new⟩ (by kernel_rfl) HoldsL.new (fun w_ w1_ h_ hn_ => ⟨h_.1.call hn_, h_.2.new hn_⟩) ?_ ?_
          · skip
            refine StepsAll.cons ?_ ?_
            · intro aa ww hB hd
              have he : Env 248 [(7, Value.pointer (some ⟨p43, 0, none⟩)), (6, Value.pointer (some ⟨p31, 0, none⟩)), (5, Value.pointer (some ⟨p25, 0, none⟩)), (4, Value.pointer (some ⟨p12, 0, none⟩)), (3, Value.pointer (some ⟨p10, 0, none⟩)), (2, Value.pointer (some ⟨p8, 0, none⟩)), (1, Value.pointer (some ⟨p6, 0, none⟩)), (0, Value.bool false)] aa := hB.env
              exact .inr ⟨(wanted_plain rfl _), Does.val (v := Ce.v aC) (rn_load rfl (he.op rfl) (hB.held.1.at (i := 7) rfl)) ⟨Fr.refl _ _, rfl⟩⟩
            refine StepsAll.cons ?_ ?_
            · intro aa ww hB hd
              have he : Env 248 [(7, Value.pointer (some ⟨p43, 0, none⟩)), (6, Value.pointer (some ⟨p31, 0, none⟩)), (5, Value.pointer (some ⟨p25, 0, none⟩)), (4, Value.pointer (some ⟨p12, 0, none⟩)), (3, Value.pointer (some ⟨p10, 0, none⟩)), (2, Value.pointer (some ⟨p8, 0, none⟩)), (1, Value.pointer (some ⟨p6, 0, none⟩)), (0, Value.bool false)] aa := hB.env
              exact .inr ⟨(wanted_plain rfl _), Does.val (v := Ce.v eC) (rn_load rfl (he.op rfl) (hB.held.1.at (i := 4) rfl)) ⟨Fr.refl _ _, rfl⟩⟩
            refine StepsAll.cons ?_ ?_
            · intro aa ww hB hd
              have he : Env 248 [(7, Value.pointer (some ⟨p43, 0, none⟩)), (6, Value.pointer (some ⟨p31, 0, none⟩)), (5, Value.pointer (some ⟨p25, 0, none⟩)), (4, Value.pointer (some ⟨p12, 0, none⟩)), (3, Value.pointer (some ⟨p10, 0, none⟩)), (2, Value.pointer (some ⟨p8, 0, none⟩)), (1, Value.pointer (some ⟨p6, 0, none⟩)), (0, Value.bool false)] aa := hB.env
              exact .inr ⟨(wanted_plain rfl _), Does.val (v := Ce.v iC) (rn_load rfl (he.op rfl) (hB.held.1.at (i := 3) rfl)) ⟨Fr.refl _ _, rfl⟩⟩
            refine StepsAll.cons ?_ ?_
            · intro aa ww hB hd
              have he : Env 248 [(7, Value.pointer (some ⟨p43, 0, none⟩)), (6, Value.pointer (some ⟨p31, 0, none⟩)), (5, Value.pointer (some ⟨p25, 0, none⟩)), (4, Value.pointer (some ⟨p12, 0, none⟩)), (3, Value.pointer (some ⟨p10, 0, none⟩)), (2, Value.pointer (some ⟨p8, 0, none⟩)), (1, Value.pointer (some ⟨p6, 0, none⟩)), (0, Value.bool false)] aa := hB.env
              exact .inr ⟨(wanted_plain rfl _), Does.val (v := Ce.v eC) (rn_load rfl (he.op rfl) (hB.held.1.at (i := 4) rfl)) ⟨Fr.refl _ _, rfl⟩⟩
            refine StepsAll.cons ?_ ?_
            · intro aa ww hB hd
              have h61 : aa.eval (.tmp 61) = Ce.v aC := hd 0 (by kernel_rfl)
              have h62 : aa.eval (.tmp 62) = Ce.v eC := hd 1 (by kernel_rfl)
              have h63 : aa.eval (.tmp 63) = Ce.v iC := hd 2 (by kernel_rfl)
              have h64 : aa.eval (.tmp 64) = Ce.v eC := hd 3 (by kernel_rfl)
              have he : Env 248 [(64, Ce.v eC), (63, Ce.v iC), (62, Ce.v eC), (61, Ce.v aC), (7, Value.pointer (some ⟨p43, 0, none⟩)), (6, Value.pointer (some ⟨p31, 0, none⟩)), (5, Value.pointer (some ⟨p25, 0, none⟩)), (4, Value.pointer (some ⟨p12, 0, none⟩)), (3, Value.pointer (some ⟨p10, 0, none⟩)), (2, Value.pointer (some ⟨p8, 0, none⟩)), (1, Value.pointer (some ⟨p6, 0, none⟩)), (0, Value.bool false)] aa := ((((hB.env.add h61).add h62).add h63).add h64)
              exact .inr ⟨(wanted_plain rfl _), Does.val (rn_bs4 rfl (he.op rfl) (he.op rfl) (he.op rfl) (he.op rfl) ww) ⟨(Fr.refl _ _).alloc _, SlC.mk (rdc_lit ww [aC, eC, iC, eC] _ rfl 4 rfl) (Nat.le_refl _)⟩⟩
            refine StepsAll.cons ?_ ?_
            · intro aa ww hB hd
              have hx65 : SlC ww (aa.eval (.tmp 65)) [aC, eC, iC, eC] := hd 4 (by kernel_rfl)
              obtain ⟨x65, h65⟩ : ∃ x, aa.eval (.tmp 65) = x := ⟨_, rfl⟩
              rw [h65] at hx65
              have he : Env 248 [(65, x65), (7, Value.pointer (some ⟨p43, 0, none⟩)), (6, Value.pointer (some ⟨p31, 0, none⟩)), (5, Value.pointer (some ⟨p25, 0, none⟩)), (4, Value.pointer (some ⟨p12, 0, none⟩)), (3, Value.pointer (some ⟨p10, 0, none⟩)), (2, Value.pointer (some ⟨p8, 0, none⟩)), (1, Value.pointer (some ⟨p6, 0, none⟩)), (0, Value.bool false)] aa := (hB.env.add h65)
              exact .inr ⟨(wanted_plain rfl _), does_call Tryd.func37 (by kernel_rfl) rfl rfl (he.args rfl) (hard_any _ _ ww hx65) (fun e_ w_ h_ => h_)⟩
            refine StepsAll.cons ?_ ?_
            · intro aa ww hB hd
              have hx66 : ∃ x, aa.eval (.tmp 66) = .agg #[x, .bool false] ∧ SlC ww x [aC, eC, iC, eC] := hd 5 (by kernel_rfl)
              obtain ⟨x66, h66, hx66⟩ := hx66
              have he : Env 248 [(66, Value.agg #[x66, Value.bool false]), (7, Value.pointer (some ⟨p43, 0, none⟩)), (6, Value.pointer (some ⟨p31, 0, none⟩)), (5, Value.pointer (some ⟨p25, 0, none⟩)), (4, Value.pointer (some ⟨p12, 0, none⟩)), (3, Value.pointer (some ⟨p10, 0, none⟩)), (2, Value.pointer (some ⟨p8, 0, none⟩)), (1, Value.pointer (some ⟨p6, 0, none⟩)), (0, Value.bool false)] aa := (hB.env.add h66)
              exact .inr ⟨(wanted_plain rfl _), does_call Tryd.func20 (by kernel_rfl) rfl rfl (he.args rfl) (used_s _ [aC, eC, iC, eC] false 3 kn11 (by decide) ww hx66) (fun e_ w_ h_ => ⟨_, h_.1, h_.2, rfl⟩)⟩
            refine StepsAll.cons ?_ ?_
            · intro aa ww hB hd
              have h67 : aa.eval (.tmp 67) = Value.int .i64 3 := hd 6 (by kernel_rfl)
              have he : Env 248 [(67, Value.int .i64 3), (7, Value.pointer (some ⟨p43, 0, none⟩)), (6, Value.pointer (some ⟨p31, 0, none⟩)), (5, Value.pointer (some ⟨p25, 0, none⟩)), (4, Value.pointer (some ⟨p12, 0, none⟩)), (3, Value.pointer (some ⟨p10, 0, none⟩)), (2, Value.pointer (some ⟨p8, 0, none⟩)), (1, Value.pointer (some ⟨p6, 0, none⟩)), (0, Value.bool false)] aa := (hB.env.add h67)
              exact .inr ⟨(wanted_plain rfl _), Does.val (v := Value.bool false) (rn_neI rfl (he.op rfl) (he.op rfl) (by decide) ww) ⟨Fr.refl _ _, rfl⟩⟩
            refine StepsAll.cons ?_ ?_
            · intro aa ww hB hd
              have h68 : aa.eval (.tmp 68) = Value.bool false := hd 7 (by kernel_rfl)
              have he : Env 248 [(68, Value.bool false), (7, Value.pointer (some ⟨p43, 0, none⟩)), (6, Value.pointer (some ⟨p31, 0, none⟩)), (5, Value.pointer (some ⟨p25, 0, none⟩)), (4, Value.pointer (some ⟨p12, 0, none⟩)), (3, Value.pointer (some ⟨p10, 0, none⟩)), (2, Value.pointer (some ⟨p8, 0, none⟩)), (1, Value.pointer (some ⟨p6, 0, none⟩)), (0, Value.bool false)] aa := (hB.env.add h68)
              exact .inr ⟨(wanted_plain rfl _), Does.val (v := Value.bool false) (rn_mv rfl (he.op rfl) ww) ⟨Fr.refl _ _, rfl⟩⟩
            refine StepsAll.cons ?_ ?_
            · intro aa ww hB hd
              have h69 : aa.eval (.tmp 69) = Value.bool false := hd 8 (by kernel_rfl)
              have he : Env 248 [(69, Value.bool false), (7, Value.pointer (some ⟨p43, 0, none⟩)), (6, Value.pointer (some ⟨p31, 0, none⟩)), (5, Value.pointer (some ⟨p25, 0, none⟩)), (4, Value.pointer (some ⟨p12, 0, none⟩)), (3, Value.pointer (some ⟨p10, 0, none⟩)), (2, Value.pointer (some ⟨p8, 0, none⟩)), (1, Value.pointer (some ⟨p6, 0, none⟩)), (0, Value.bool false)] aa := (hB.env.add h69)
              exact .inr ⟨(he.want rfl rfl rfl rfl rfl), Does.val (v := Ce.v aC) (rn_load rfl (he.op rfl) (hB.held.1.at (i := 7) rfl)) ⟨Fr.refl _ _, rfl⟩⟩
            refine StepsAll.cons ?_ ?_
            · intro aa ww hB hd
              have h69 : aa.eval (.tmp 69) = Value.bool false := hd 8 (by kernel_rfl)
              have he : Env 248 [(69, Value.bool false), (7, Value.pointer (some ⟨p43, 0, none⟩)), (6, Value.pointer (some ⟨p31, 0, none⟩)), (5, Value.pointer (some ⟨p25, 0, none⟩)), (4, Value.pointer (some ⟨p12, 0, none⟩)), (3, Value.pointer (some ⟨p10, 0, none⟩)), (2, Value.pointer (some ⟨p8, 0, none⟩)), (1, Value.pointer (some ⟨p6, 0, none⟩)), (0, Value.bool false)] aa := (hB.env.add h69)
              exact .inr ⟨(he.want rfl rfl rfl rfl rfl), Does.val (v := Ce.v eC) (rn_load rfl (he.op rfl) (hB.held.1.at (i := 4) rfl)) ⟨Fr.refl _ _, rfl⟩⟩
            refine StepsAll.cons ?_ ?_
            · intro aa ww hB hd
              have h69 : aa.eval (.tmp 69) = Value.bool false := hd 8 (by kernel_rfl)
              have he : Env 248 [(69, Value.bool false), (7, Value.pointer (some ⟨p43, 0, none⟩)), (6, Value.pointer (some ⟨p31, 0, none⟩)), (5, Value.pointer (some ⟨p25, 0, none⟩)), (4, Value.pointer (some ⟨p12, 0, none⟩)), (3, Value.pointer (some ⟨p10, 0, none⟩)), (2, Value.pointer (some ⟨p8, 0, none⟩)), (1, Value.pointer (some ⟨p6, 0, none⟩)), (0, Value.bool false)] aa := (hB.env.add h69)
              exact .inr ⟨(he.want rfl rfl rfl rfl rfl), Does.val (v := Ce.v eC) (rn_load rfl (he.op rfl) (hB.held.1.at (i := 4) rfl)) ⟨Fr.refl _ _, rfl⟩⟩
            refine StepsAll.cons ?_ ?_
            · intro aa ww hB hd
              have h70 : aa.eval (.tmp 70) = Ce.v aC := hd 9 (by kernel_rfl)
              have h71 : aa.eval (.tmp 71) = Ce.v eC := hd 10 (by kernel_rfl)
              have h72 : aa.eval (.tmp 72) = Ce.v eC := hd 11 (by kernel_rfl)
              have h69 : aa.eval (.tmp 69) = Value.bool false := hd 8 (by kernel_rfl)
              have he : Env 248 [(69, Value.bool false), (72, Ce.v eC), (71, Ce.v eC), (70, Ce.v aC), (7, Value.pointer (some ⟨p43, 0, none⟩)), (6, Value.pointer (some ⟨p31, 0, none⟩)), (5, Value.pointer (some ⟨p25, 0, none⟩)), (4, Value.pointer (some ⟨p12, 0, none⟩)), (3, Value.pointer (some ⟨p10, 0, none⟩)), (2, Value.pointer (some ⟨p8, 0, none⟩)), (1, Value.pointer (some ⟨p6, 0, none⟩)), (0, Value.bool false)] aa := ((((hB.env.add h70).add h71).add h72).add h69)
              exact .inr ⟨(he.want rfl rfl rfl rfl rfl), Does.val (rn_bs3 rfl (he.op rfl) (he.op rfl) (he.op rfl) ww) ⟨(Fr.refl _ _).alloc _, SlC.mk (rdc_lit ww [aC, eC, eC] _ rfl 3 rfl) (Nat.le_refl _)⟩⟩
            refine StepsAll.cons ?_ ?_
            · intro aa ww hB hd
              have hx73 : SlC ww (aa.eval (.tmp 73)) [aC, eC, eC] := hd 12 (by kernel_rfl)
              obtain ⟨x73, h73⟩ : ∃ x, aa.eval (.tmp 73) = x := ⟨_, rfl⟩
              rw [h73] at hx73
              have h69 : aa.eval (.tmp 69) = Value.bool false := hd 8 (by kernel_rfl)
              have he : Env 248 [(69, Value.bool false), (73, x73), (7, Value.pointer (some ⟨p43, 0, none⟩)), (6, Value.pointer (some ⟨p31, 0, none⟩)), (5, Value.pointer (some ⟨p25, 0, none⟩)), (4, Value.pointer (some ⟨p12, 0, none⟩)), (3, Value.pointer (some ⟨p10, 0, none⟩)), (2, Value.pointer (some ⟨p8, 0, none⟩)), (1, Value.pointer (some ⟨p6, 0, none⟩)), (0, Value.bool false)] aa := ((hB.env.add h73).add h69)
              exact .inr ⟨(he.want rfl rfl rfl rfl rfl), does_call Tryd.func37 (by kernel_rfl) rfl rfl (he.args rfl) (hard_any _ _ ww hx73) (fun e_ w_ h_ => h_)⟩
            refine StepsAll.cons ?_ ?_
            · intro aa ww hB hd
              have h69 : aa.eval (.tmp 69) = Value.bool false := hd 8 (by kernel_rfl)
              have he : Env 248 [(69, Value.bool false), (7, Value.pointer (some ⟨p43, 0, none⟩)), (6, Value.pointer (some ⟨p31, 0, none⟩)), (5, Value.pointer (some ⟨p25, 0, none⟩)), (4, Value.pointer (some ⟨p12, 0, none⟩)), (3, Value.pointer (some ⟨p10, 0, none⟩)), (2, Value.pointer (some ⟨p8, 0, none⟩)), (1, Value.pointer (some ⟨p6, 0, none⟩)), (0, Value.bool false)] aa := (hB.env.add h69)
              exact .inr ⟨(he.want rfl rfl rfl rfl rfl), Does.val (v := Ce.v aC) (rn_load rfl (he.op rfl) (hB.held.1.at (i := 7) rfl)) ⟨Fr.refl _ _, rfl⟩⟩
            refine StepsAll.cons ?_ ?_
            · intro aa ww hB hd
              have h75 : aa.eval (.tmp 75) = Ce.v aC := hd 14 (by kernel_rfl)
              have h69 : aa.eval (.tmp 69) = Value.bool false := hd 8 (by kernel_rfl)
              have he : Env 248 [(69, Value.bool false), (75, Ce.v aC), (7, Value.pointer (some ⟨p43, 0, none⟩)), (6, Value.pointer (some ⟨p31, 0, none⟩)), (5, Value.pointer (some ⟨p25, 0, none⟩)), (4, Value.pointer (some ⟨p12, 0, none⟩)), (3, Value.pointer (some ⟨p10, 0, none⟩)), (2, Value.pointer (some ⟨p8, 0, none⟩)), (1, Value.pointer (some ⟨p6, 0, none⟩)), (0, Value.bool false)] aa := ((hB.env.add h75).add h69)
              exact .inr ⟨(he.want rfl rfl rfl rfl rfl), Does.val (rn_bs1 rfl (he.op rfl) ww) ⟨(Fr.refl _ _).alloc _, SlC.mk (rdc_lit ww [aC] _ rfl 1 rfl) (Nat.le_refl _)⟩⟩
            refine StepsAll.cons ?_ ?_
            · intro aa ww hB hd
              have hx76 : SlC ww (aa.eval (.tmp 76)) [aC] := hd 15 (by kernel_rfl)
              obtain ⟨x76, h76⟩ : ∃ x, aa.eval (.tmp 76) = x := ⟨_, rfl⟩
              rw [h76] at hx76
              have h69 : aa.eval (.tmp 69) = Value.bool false := hd 8 (by kernel_rfl)
              have he : Env 248 [(69, Value.bool false), (76, x76), (7, Value.pointer (some ⟨p43, 0, none⟩)), (6, Value.pointer (some ⟨p31, 0, none⟩)), (5, Value.pointer (some ⟨p25, 0, none⟩)), (4, Value.pointer (some ⟨p12, 0, none⟩)), (3, Value.pointer (some ⟨p10, 0, none⟩)), (2, Value.pointer (some ⟨p8, 0, none⟩)), (1, Value.pointer (some ⟨p6, 0, none⟩)), (0, Value.bool false)] aa := ((hB.env.add h76).add h69)
              exact .inr ⟨(he.want rfl rfl rfl rfl rfl), does_call Tryd.func37 (by kernel_rfl) rfl rfl (he.args rfl) (hard_any _ _ ww hx76) (fun e_ w_ h_ => h_)⟩
            refine StepsAll.cons ?_ ?_
            · intro aa ww hB hd
              have hx74 : ∃ x, aa.eval (.tmp 74) = .agg #[x, .bool false] ∧ SlC ww x [aC, eC, eC] := hd 13 (by kernel_rfl)
              obtain ⟨x74, h74, hx74⟩ := hx74
              have hx77 : ∃ x, aa.eval (.tmp 77) = .agg #[x, .bool false] ∧ SlC ww x [aC] := hd 16 (by kernel_rfl)
              obtain ⟨x77, h77, hx77⟩ := hx77
              have h69 : aa.eval (.tmp 69) = Value.bool false := hd 8 (by kernel_rfl)
              have he : Env 248 [(69, Value.bool false), (77, Value.agg #[x77, Value.bool false]), (74, Value.agg #[x74, Value.bool false]), (7, Value.pointer (some ⟨p43, 0, none⟩)), (6, Value.pointer (some ⟨p31, 0, none⟩)), (5, Value.pointer (some ⟨p25, 0, none⟩)), (4, Value.pointer (some ⟨p12, 0, none⟩)), (3, Value.pointer (some ⟨p10, 0, none⟩)), (2, Value.pointer (some ⟨p8, 0, none⟩)), (1, Value.pointer (some ⟨p6, 0, none⟩)), (0, Value.bool false)] aa := (((hB.env.add h74).add h77).add h69)
              exact .inr ⟨(he.want rfl rfl rfl rfl rfl), does_call Tryd.func28 (by kernel_rfl) rfl rfl (he.args rfl) (trims_s _ [aC, eC, eC] false _ [aC] false 0 true kn14 (by decide) (by decide) ww hx74 hx77 hB.held.2) (fun e_ w_ h_ => ⟨_, h_.1, h_.2, rfl⟩)⟩
            refine StepsAll.cons ?_ ?_
            · intro aa ww hB hd
              have h78 : aa.eval (.tmp 78) = Value.bool true := hd 17 (by kernel_rfl)
              have h69 : aa.eval (.tmp 69) = Value.bool false := hd 8 (by kernel_rfl)
              have he : Env 248 [(69, Value.bool false), (78, Value.bool true), (7, Value.pointer (some ⟨p43, 0, none⟩)), (6, Value.pointer (some ⟨p31, 0, none⟩)), (5, Value.pointer (some ⟨p25, 0, none⟩)), (4, Value.pointer (some ⟨p12, 0, none⟩)), (3, Value.pointer (some ⟨p10, 0, none⟩)), (2, Value.pointer (some ⟨p8, 0, none⟩)), (1, Value.pointer (some ⟨p6, 0, none⟩)), (0, Value.bool false)] aa := ((hB.env.add h78).add h69)
              exact .inr ⟨(he.want rfl rfl rfl rfl rfl), Does.val (v := Value.bool false) (rn_not (b := true) rfl (he.op rfl) ww) ⟨Fr.refl _ _, rfl⟩⟩
            refine StepsAll.cons ?_ ?_
            · intro aa ww hB hd
              have h69 : aa.eval (.tmp 69) = Value.bool false := hd 8 (by kernel_rfl)
              have h79 : aa.eval (.tmp 79) = Value.bool false := hd 18 (by kernel_rfl)
              have he : Env 248 [(79, Value.bool false), (69, Value.bool false), (7, Value.pointer (some ⟨p43, 0, none⟩)), (6, Value.pointer (some ⟨p31, 0, none⟩)), (5, Value.pointer (some ⟨p25, 0, none⟩)), (4, Value.pointer (some ⟨p12, 0, none⟩)), (3, Value.pointer (some ⟨p10, 0, none⟩)), (2, Value.pointer (some ⟨p8, 0, none⟩)), (1, Value.pointer (some ⟨p6, 0, none⟩)), (0, Value.bool false)] aa := ((hB.env.add h69).add h79)
              exact .inr ⟨(wanted_plain rfl _), Does.val (v := Value.bool false) (rn_pk0 rfl (he.op rfl) (he.op rfl) ww) ⟨Fr.refl _ _, rfl⟩⟩
            refine StepsAll.cons ?_ ?_
            · intro aa ww hB hd
              have h80 : aa.eval (.tmp 80) = Value.bool false := hd 19 (by kernel_rfl)
              have he : Env 248 [(80, Value.bool false), (7, Value.pointer (some ⟨p43, 0, none⟩)), (6, Value.pointer (some ⟨p31, 0, none⟩)), (5, Value.pointer (some ⟨p25, 0, none⟩)), (4, Value.pointer (some ⟨p12, 0, none⟩)), (3, Value.pointer (some ⟨p10, 0, none⟩)), (2, Value.pointer (some ⟨p8, 0, none⟩)), (1, Value.pointer (some ⟨p6, 0, none⟩)), (0, Value.bool false)] aa := (hB.env.add h80)
              exact .inr ⟨(wanted_plain rfl _), Does.val (v := Value.bool false) (rn_mv rfl (he.op rfl) ww) ⟨Fr.refl _ _, rfl⟩⟩
            refine StepsAll.cons ?_ ?_
            · intro aa ww hB hd
              have h81 : aa.eval (.tmp 81) = Value.bool false := hd 20 (by kernel_rfl)
              have he : Env 248 [(81, Value.bool false), (7, Value.pointer (some ⟨p43, 0, none⟩)), (6, Value.pointer (some ⟨p31, 0, none⟩)), (5, Value.pointer (some ⟨p25, 0, none⟩)), (4, Value.pointer (some ⟨p12, 0, none⟩)), (3, Value.pointer (some ⟨p10, 0, none⟩)), (2, Value.pointer (some ⟨p8, 0, none⟩)), (1, Value.pointer (some ⟨p6, 0, none⟩)), (0, Value.bool false)] aa := (hB.env.add h81)
              exact .inr ⟨(he.want rfl rfl rfl rfl rfl), Does.val (v := Ce.v eC) (rn_load rfl (he.op rfl) (hB.held.1.at (i := 4) rfl)) ⟨Fr.refl _ _, rfl⟩⟩
            refine StepsAll.cons ?_ ?_
            · intro aa ww hB hd
              have h81 : aa.eval (.tmp 81) = Value.bool false := hd 20 (by kernel_rfl)
              have he : Env 248 [(81, Value.bool false), (7, Value.pointer (some ⟨p43, 0, none⟩)), (6, Value.pointer (some ⟨p31, 0, none⟩)), (5, Value.pointer (some ⟨p25, 0, none⟩)), (4, Value.pointer (some ⟨p12, 0, none⟩)), (3, Value.pointer (some ⟨p10, 0, none⟩)), (2, Value.pointer (some ⟨p8, 0, none⟩)), (1, Value.pointer (some ⟨p6, 0, none⟩)), (0, Value.bool false)] aa := (hB.env.add h81)
              exact .inr ⟨(he.want rfl rfl rfl rfl rfl), Does.val (v := Ce.v eC) (rn_load rfl (he.op rfl) (hB.held.1.at (i := 4) rfl)) ⟨Fr.refl _ _, rfl⟩⟩
            refine StepsAll.cons ?_ ?_
            · intro aa ww hB hd
              have h82 : aa.eval (.tmp 82) = Ce.v eC := hd 21 (by kernel_rfl)
              have h83 : aa.eval (.tmp 83) = Ce.v eC := hd 22 (by kernel_rfl)
              have h81 : aa.eval (.tmp 81) = Value.bool false := hd 20 (by kernel_rfl)
              have he : Env 248 [(81, Value.bool false), (83, Ce.v eC), (82, Ce.v eC), (7, Value.pointer (some ⟨p43, 0, none⟩)), (6, Value.pointer (some ⟨p31, 0, none⟩)), (5, Value.pointer (some ⟨p25, 0, none⟩)), (4, Value.pointer (some ⟨p12, 0, none⟩)), (3, Value.pointer (some ⟨p10, 0, none⟩)), (2, Value.pointer (some ⟨p8, 0, none⟩)), (1, Value.pointer (some ⟨p6, 0, none⟩)), (0, Value.bool false)] aa := (((hB.env.add h82).add h83).add h81)
              exact .inr ⟨(he.want rfl rfl rfl rfl rfl), Does.val (rn_bs2 rfl (he.op rfl) (he.op rfl) ww) ⟨(Fr.refl _ _).alloc _, SlC.mk (rdc_lit ww [eC, eC] _ rfl 2 rfl) (Nat.le_refl _)⟩⟩
            refine StepsAll.cons ?_ ?_
            · intro aa ww hB hd
              have hx84 : SlC ww (aa.eval (.tmp 84)) [eC, eC] := hd 23 (by kernel_rfl)
              obtain ⟨x84, h84⟩ : ∃ x, aa.eval (.tmp 84) = x := ⟨_, rfl⟩
              rw [h84] at hx84
              have h81 : aa.eval (.tmp 81) = Value.bool false := hd 20 (by kernel_rfl)
              have he : Env 248 [(81, Value.bool false), (84, x84), (7, Value.pointer (some ⟨p43, 0, none⟩)), (6, Value.pointer (some ⟨p31, 0, none⟩)), (5, Value.pointer (some ⟨p25, 0, none⟩)), (4, Value.pointer (some ⟨p12, 0, none⟩)), (3, Value.pointer (some ⟨p10, 0, none⟩)), (2, Value.pointer (some ⟨p8, 0, none⟩)), (1, Value.pointer (some ⟨p6, 0, none⟩)), (0, Value.bool false)] aa := ((hB.env.add h84).add h81)
              exact .inr ⟨(he.want rfl rfl rfl rfl rfl), does_call Tryd.func37 (by kernel_rfl) rfl rfl (he.args rfl) (hard_any _ _ ww hx84) (fun e_ w_ h_ => h_)⟩
            refine StepsAll.cons ?_ ?_
            · intro aa ww hB hd
              have h81 : aa.eval (.tmp 81) = Value.bool false := hd 20 (by kernel_rfl)
              have he : Env 248 [(81, Value.bool false), (7, Value.pointer (some ⟨p43, 0, none⟩)), (6, Value.pointer (some ⟨p31, 0, none⟩)), (5, Value.pointer (some ⟨p25, 0, none⟩)), (4, Value.pointer (some ⟨p12, 0, none⟩)), (3, Value.pointer (some ⟨p10, 0, none⟩)), (2, Value.pointer (some ⟨p8, 0, none⟩)), (1, Value.pointer (some ⟨p6, 0, none⟩)), (0, Value.bool false)] aa := (hB.env.add h81)
              exact .inr ⟨(he.want rfl rfl rfl rfl rfl), does_call Tryd.func37 (by kernel_rfl) rfl rfl (he.args rfl) (hard_any _ _ ww (SlC.nil _)) (fun e_ w_ h_ => h_)⟩
            refine StepsAll.cons ?_ ?_
            · intro aa ww hB hd
              have hx85 : ∃ x, aa.eval (.tmp 85) = .agg #[x, .bool false] ∧ SlC ww x [eC, eC] := hd 24 (by kernel_rfl)
              obtain ⟨x85, h85, hx85⟩ := hx85
              have hx86 : ∃ x, aa.eval (.tmp 86) = .agg #[x, .bool false] ∧ SlC ww x [] := hd 25 (by kernel_rfl)
              obtain ⟨x86, h86, hx86⟩ := hx86
              have h81 : aa.eval (.tmp 81) = Value.bool false := hd 20 (by kernel_rfl)
              have he : Env 248 [(81, Value.bool false), (86, Value.agg #[x86, Value.bool false]), (85, Value.agg #[x85, Value.bool false]), (7, Value.pointer (some ⟨p43, 0, none⟩)), (6, Value.pointer (some ⟨p31, 0, none⟩)), (5, Value.pointer (some ⟨p25, 0, none⟩)), (4, Value.pointer (some ⟨p12, 0, none⟩)), (3, Value.pointer (some ⟨p10, 0, none⟩)), (2, Value.pointer (some ⟨p8, 0, none⟩)), (1, Value.pointer (some ⟨p6, 0, none⟩)), (0, Value.bool false)] aa := (((hB.env.add h85).add h86).add h81)
              exact .inr ⟨(he.want rfl rfl rfl rfl rfl), does_call Tryd.func28 (by kernel_rfl) rfl rfl (he.args rfl) (trims_s _ [eC, eC] false _ [] false 0 true kn17 (by decide) (by decide) ww hx85 hx86 hB.held.2) (fun e_ w_ h_ => ⟨_, h_.1, h_.2, rfl⟩)⟩
            refine StepsAll.cons ?_ ?_
            · intro aa ww hB hd
              have h87 : aa.eval (.tmp 87) = Value.bool true := hd 26 (by kernel_rfl)
              have h81 : aa.eval (.tmp 81) = Value.bool false := hd 20 (by kernel_rfl)
              have he : Env 248 [(81, Value.bool false), (87, Value.bool true), (7, Value.pointer (some ⟨p43, 0, none⟩)), (6, Value.pointer (some ⟨p31, 0, none⟩)), (5, Value.pointer (some ⟨p25, 0, none⟩)), (4, Value.pointer (some ⟨p12, 0, none⟩)), (3, Value.pointer (some ⟨p10, 0, none⟩)), (2, Value.pointer (some ⟨p8, 0, none⟩)), (1, Value.pointer (some ⟨p6, 0, none⟩)), (0, Value.bool false)] aa := ((hB.env.add h87).add h81)
              exact .inr ⟨(he.want rfl rfl rfl rfl rfl), Does.val (v := Value.bool false) (rn_not (b := true) rfl (he.op rfl) ww) ⟨Fr.refl _ _, rfl⟩⟩
            refine StepsAll.cons ?_ ?_
            · intro aa ww hB hd
              have h81 : aa.eval (.tmp 81) = Value.bool false := hd 20 (by kernel_rfl)
              have h88 : aa.eval (.tmp 88) = Value.bool false := hd 27 (by kernel_rfl)
              have he : Env 248 [(88, Value.bool false), (81, Value.bool false), (7, Value.pointer (some ⟨p43, 0, none⟩)), (6, Value.pointer (some ⟨p31, 0, none⟩)), (5, Value.pointer (some ⟨p25, 0, none⟩)), (4, Value.pointer (some ⟨p12, 0, none⟩)), (3, Value.pointer (some ⟨p10, 0, none⟩)), (2, Value.pointer (some ⟨p8, 0, none⟩)), (1, Value.pointer (some ⟨p6, 0, none⟩)), (0, Value.bool false)] aa := ((hB.env.add h81).add h88)
              exact .inr ⟨(wanted_plain rfl _), Does.val (v := Value.bool false) (rn_pk0 rfl (he.op rfl) (he.op rfl) ww) ⟨Fr.refl _ _, rfl⟩⟩
            refine StepsAll.cons ?_ ?_
            · intro aa ww hB hd
              have h89 : aa.eval (.tmp 89) = Value.bool false := hd 28 (by kernel_rfl)
              have he : Env 248 [(89, Value.bool false), (7, Value.pointer (some ⟨p43, 0, none⟩)), (6, Value.pointer (some ⟨p31, 0, none⟩)), (5, Value.pointer (some ⟨p25, 0, none⟩)), (4, Value.pointer (some ⟨p12, 0, none⟩)), (3, Value.pointer (some ⟨p10, 0, none⟩)), (2, Value.pointer (some ⟨p8, 0, none⟩)), (1, Value.pointer (some ⟨p6, 0, none⟩)), (0, Value.bool false)] aa := (hB.env.add h89)
              exact .inr ⟨(wanted_plain rfl _), Does.val (v := Value.bool false) (rn_mv rfl (he.op rfl) ww) ⟨Fr.refl _ _, rfl⟩⟩
            refine StepsAll.cons ?_ ?_
            · intro aa ww hB hd
              have h90 : aa.eval (.tmp 90) = Value.bool false := hd 29 (by kernel_rfl)
              have he : Env 248 [(90, Value.bool false), (7, Value.pointer (some ⟨p43, 0, none⟩)), (6, Value.pointer (some ⟨p31, 0, none⟩)), (5, Value.pointer (some ⟨p25, 0, none⟩)), (4, Value.pointer (some ⟨p12, 0, none⟩)), (3, Value.pointer (some ⟨p10, 0, none⟩)), (2, Value.pointer (some ⟨p8, 0, none⟩)), (1, Value.pointer (some ⟨p6, 0, none⟩)), (0, Value.bool false)] aa := (hB.env.add h90)
              exact .inr ⟨(he.want rfl rfl rfl rfl rfl), Does.val (v := Ce.v aC) (rn_load rfl (he.op rfl) (hB.held.1.at (i := 7) rfl)) ⟨Fr.refl _ _, rfl⟩⟩
            refine StepsAll.cons ?_ ?_
            · intro aa ww hB hd
              have h90 : aa.eval (.tmp 90) = Value.bool false := hd 29 (by kernel_rfl)
              have he : Env 248 [(90, Value.bool false), (7, Value.pointer (some ⟨p43, 0, none⟩)), (6, Value.pointer (some ⟨p31, 0, none⟩)), (5, Value.pointer (some ⟨p25, 0, none⟩)), (4, Value.pointer (some ⟨p12, 0, none⟩)), (3, Value.pointer (some ⟨p10, 0, none⟩)), (2, Value.pointer (some ⟨p8, 0, none⟩)), (1, Value.pointer (some ⟨p6, 0, none⟩)), (0, Value.bool false)] aa := (hB.env.add h90)
              exact .inr ⟨(he.want rfl rfl rfl rfl rfl), Does.val (v := Ce.v wC) (rn_load rfl (he.op rfl) (hB.held.1.at (i := 6) rfl)) ⟨Fr.refl _ _, rfl⟩⟩
            refine StepsAll.cons ?_ ?_
            · intro aa ww hB hd
              have h90 : aa.eval (.tmp 90) = Value.bool false := hd 29 (by kernel_rfl)
              have he : Env 248 [(90, Value.bool false), (7, Value.pointer (some ⟨p43, 0, none⟩)), (6, Value.pointer (some ⟨p31, 0, none⟩)), (5, Value.pointer (some ⟨p25, 0, none⟩)), (4, Value.pointer (some ⟨p12, 0, none⟩)), (3, Value.pointer (some ⟨p10, 0, none⟩)), (2, Value.pointer (some ⟨p8, 0, none⟩)), (1, Value.pointer (some ⟨p6, 0, none⟩)), (0, Value.bool false)] aa := (hB.env.add h90)
              exact .inr ⟨(he.want rfl rfl rfl rfl rfl), Does.val (v := Ce.v zeroCe) (rn_load rfl (he.op rfl) (hB.held.1.at (i := 5) rfl)) ⟨Fr.refl _ _, rfl⟩⟩
            refine StepsAll.cons ?_ ?_
            · intro aa ww hB hd
              have h91 : aa.eval (.tmp 91) = Ce.v aC := hd 30 (by kernel_rfl)
              have h92 : aa.eval (.tmp 92) = Ce.v wC := hd 31 (by kernel_rfl)
              have h93 : aa.eval (.tmp 93) = Ce.v zeroCe := hd 32 (by kernel_rfl)
              have h90 : aa.eval (.tmp 90) = Value.bool false := hd 29 (by kernel_rfl)
              have he : Env 248 [(90, Value.bool false), (93, Ce.v zeroCe), (92, Ce.v wC), (91, Ce.v aC), (7, Value.pointer (some ⟨p43, 0, none⟩)), (6, Value.pointer (some ⟨p31, 0, none⟩)), (5, Value.pointer (some ⟨p25, 0, none⟩)), (4, Value.pointer (some ⟨p12, 0, none⟩)), (3, Value.pointer (some ⟨p10, 0, none⟩)), (2, Value.pointer (some ⟨p8, 0, none⟩)), (1, Value.pointer (some ⟨p6, 0, none⟩)), (0, Value.bool false)] aa := ((((hB.env.add h91).add h92).add h93).add h90)
              exact .inr ⟨(he.want rfl rfl rfl rfl rfl), Does.val (rn_bs3 rfl (he.op rfl) (he.op rfl) (he.op rfl) ww) ⟨(Fr.refl _ _).alloc _, SlC.mk (rdc_lit ww [aC, wC, zeroCe] _ rfl 3 rfl) (Nat.le_refl _)⟩⟩
            refine StepsAll.cons ?_ ?_
            · intro aa ww hB hd
              have hx94 : SlC ww (aa.eval (.tmp 94)) [aC, wC, zeroCe] := hd 33 (by kernel_rfl)
              obtain ⟨x94, h94⟩ : ∃ x, aa.eval (.tmp 94) = x := ⟨_, rfl⟩
              rw [h94] at hx94
              have h90 : aa.eval (.tmp 90) = Value.bool false := hd 29 (by kernel_rfl)
              have he : Env 248 [(90, Value.bool false), (94, x94), (7, Value.pointer (some ⟨p43, 0, none⟩)), (6, Value.pointer (some ⟨p31, 0, none⟩)), (5, Value.pointer (some ⟨p25, 0, none⟩)), (4, Value.pointer (some ⟨p12, 0, none⟩)), (3, Value.pointer (some ⟨p10, 0, none⟩)), (2, Value.pointer (some ⟨p8, 0, none⟩)), (1, Value.pointer (some ⟨p6, 0, none⟩)), (0, Value.bool false)] aa := ((hB.env.add h94).add h90)
              exact .inr ⟨(he.want rfl rfl rfl rfl rfl), does_call Tryd.func37 (by kernel_rfl) rfl rfl (he.args rfl) (hard_any _ _ ww hx94) (fun e_ w_ h_ => h_)⟩
            refine StepsAll.cons ?_ ?_
            · intro aa ww hB hd
              have h90 : aa.eval (.tmp 90) = Value.bool false := hd 29 (by kernel_rfl)
              have he : Env 248 [(90, Value.bool false), (7, Value.pointer (some ⟨p43, 0, none⟩)), (6, Value.pointer (some ⟨p31, 0, none⟩)), (5, Value.pointer (some ⟨p25, 0, none⟩)), (4, Value.pointer (some ⟨p12, 0, none⟩)), (3, Value.pointer (some ⟨p10, 0, none⟩)), (2, Value.pointer (some ⟨p8, 0, none⟩)), (1, Value.pointer (some ⟨p6, 0, none⟩)), (0, Value.bool false)] aa := (hB.env.add h90)
              exact .inr ⟨(he.want rfl rfl rfl rfl rfl), Does.val (v := Ce.v aC) (rn_load rfl (he.op rfl) (hB.held.1.at (i := 7) rfl)) ⟨Fr.refl _ _, rfl⟩⟩
            refine StepsAll.cons ?_ ?_
            · intro aa ww hB hd
              have h90 : aa.eval (.tmp 90) = Value.bool false := hd 29 (by kernel_rfl)
              have he : Env 248 [(90, Value.bool false), (7, Value.pointer (some ⟨p43, 0, none⟩)), (6, Value.pointer (some ⟨p31, 0, none⟩)), (5, Value.pointer (some ⟨p25, 0, none⟩)), (4, Value.pointer (some ⟨p12, 0, none⟩)), (3, Value.pointer (some ⟨p10, 0, none⟩)), (2, Value.pointer (some ⟨p8, 0, none⟩)), (1, Value.pointer (some ⟨p6, 0, none⟩)), (0, Value.bool false)] aa := (hB.env.add h90)
              exact .inr ⟨(he.want rfl rfl rfl rfl rfl), Does.val (v := Ce.v eC) (rn_load rfl (he.op rfl) (hB.held.1.at (i := 4) rfl)) ⟨Fr.refl _ _, rfl⟩⟩
            refine StepsAll.cons ?_ ?_
            · intro aa ww hB hd
              have h96 : aa.eval (.tmp 96) = Ce.v aC := hd 35 (by kernel_rfl)
              have h97 : aa.eval (.tmp 97) = Ce.v eC := hd 36 (by kernel_rfl)
              have h90 : aa.eval (.tmp 90) = Value.bool false := hd 29 (by kernel_rfl)
              have he : Env 248 [(90, Value.bool false), (97, Ce.v eC), (96, Ce.v aC), (7, Value.pointer (some ⟨p43, 0, none⟩)), (6, Value.pointer (some ⟨p31, 0, none⟩)), (5, Value.pointer (some ⟨p25, 0, none⟩)), (4, Value.pointer (some ⟨p12, 0, none⟩)), (3, Value.pointer (some ⟨p10, 0, none⟩)), (2, Value.pointer (some ⟨p8, 0, none⟩)), (1, Value.pointer (some ⟨p6, 0, none⟩)), (0, Value.bool false)] aa := (((hB.env.add h96).add h97).add h90)
              exact .inr ⟨(he.want rfl rfl rfl rfl rfl), Does.val (rn_bs2 rfl (he.op rfl) (he.op rfl) ww) ⟨(Fr.refl _ _).alloc _, SlC.mk (rdc_lit ww [aC, eC] _ rfl 2 rfl) (Nat.le_refl _)⟩⟩
            refine StepsAll.cons ?_ ?_
            · intro aa ww hB hd
              have hx98 : SlC ww (aa.eval (.tmp 98)) [aC, eC] := hd 37 (by kernel_rfl)
              obtain ⟨x98, h98⟩ : ∃ x, aa.eval (.tmp 98) = x := ⟨_, rfl⟩
              rw [h98] at hx98
              have h90 : aa.eval (.tmp 90) = Value.bool false := hd 29 (by kernel_rfl)
              have he : Env 248 [(90, Value.bool false), (98, x98), (7, Value.pointer (some ⟨p43, 0, none⟩)), (6, Value.pointer (some ⟨p31, 0, none⟩)), (5, Value.pointer (some ⟨p25, 0, none⟩)), (4, Value.pointer (some ⟨p12, 0, none⟩)), (3, Value.pointer (some ⟨p10, 0, none⟩)), (2, Value.pointer (some ⟨p8, 0, none⟩)), (1, Value.pointer (some ⟨p6, 0, none⟩)), (0, Value.bool false)] aa := ((hB.env.add h98).add h90)
              exact .inr ⟨(he.want rfl rfl rfl rfl rfl), does_call Tryd.func37 (by kernel_rfl) rfl rfl (he.args rfl) (hard_any _ _ ww hx98) (fun e_ w_ h_ => h_)⟩
            refine StepsAll.cons ?_ ?_
            · intro aa ww hB hd
              have hx95 : ∃ x, aa.eval (.tmp 95) = .agg #[x, .bool false] ∧ SlC ww x [aC, wC, zeroCe] := hd 34 (by kernel_rfl)
              obtain ⟨x95, h95, hx95⟩ := hx95
              have hx99 : ∃ x, aa.eval (.tmp 99) = .agg #[x, .bool false] ∧ SlC ww x [aC, eC] := hd 38 (by kernel_rfl)
              obtain ⟨x99, h99, hx99⟩ := hx99
              have h90 : aa.eval (.tmp 90) = Value.bool false := hd 29 (by kernel_rfl)
              have he : Env 248 [(90, Value.bool false), (99, Value.agg #[x99, Value.bool false]), (95, Value.agg #[x95, Value.bool false]), (7, Value.pointer (some ⟨p43, 0, none⟩)), (6, Value.pointer (some ⟨p31, 0, none⟩)), (5, Value.pointer (some ⟨p25, 0, none⟩)), (4, Value.pointer (some ⟨p12, 0, none⟩)), (3, Value.pointer (some ⟨p10, 0, none⟩)), (2, Value.pointer (some ⟨p8, 0, none⟩)), (1, Value.pointer (some ⟨p6, 0, none⟩)), (0, Value.bool false)] aa := (((hB.env.add h95).add h99).add h90)
              exact .inr ⟨(he.want rfl rfl rfl rfl rfl), does_call Tryd.func29 (by kernel_rfl) rfl rfl (he.args rfl) (fits_s _ [aC, wC, zeroCe] false 2 _ [aC, eC] false 0 true kn20 (by decide) ww hx95 hx99 hB.held.2) (fun e_ w_ h_ => ⟨_, h_.1, h_.2, rfl⟩)⟩
            refine StepsAll.cons ?_ ?_
            · intro aa ww hB hd
              have h100 : aa.eval (.tmp 100) = Value.bool true := hd 39 (by kernel_rfl)
              have h90 : aa.eval (.tmp 90) = Value.bool false := hd 29 (by kernel_rfl)
              have he : Env 248 [(90, Value.bool false), (100, Value.bool true), (7, Value.pointer (some ⟨p43, 0, none⟩)), (6, Value.pointer (some ⟨p31, 0, none⟩)), (5, Value.pointer (some ⟨p25, 0, none⟩)), (4, Value.pointer (some ⟨p12, 0, none⟩)), (3, Value.pointer (some ⟨p10, 0, none⟩)), (2, Value.pointer (some ⟨p8, 0, none⟩)), (1, Value.pointer (some ⟨p6, 0, none⟩)), (0, Value.bool false)] aa := ((hB.env.add h100).add h90)
              exact .inr ⟨(he.want rfl rfl rfl rfl rfl), Does.val (v := Value.bool false) (rn_not (b := true) rfl (he.op rfl) ww) ⟨Fr.refl _ _, rfl⟩⟩
            refine StepsAll.cons ?_ ?_
            · intro aa ww hB hd
              have h90 : aa.eval (.tmp 90) = Value.bool false := hd 29 (by kernel_rfl)
              have h101 : aa.eval (.tmp 101) = Value.bool false := hd 40 (by kernel_rfl)
              have he : Env 248 [(101, Value.bool false), (90, Value.bool false), (7, Value.pointer (some ⟨p43, 0, none⟩)), (6, Value.pointer (some ⟨p31, 0, none⟩)), (5, Value.pointer (some ⟨p25, 0, none⟩)), (4, Value.pointer (some ⟨p12, 0, none⟩)), (3, Value.pointer (some ⟨p10, 0, none⟩)), (2, Value.pointer (some ⟨p8, 0, none⟩)), (1, Value.pointer (some ⟨p6, 0, none⟩)), (0, Value.bool false)] aa := ((hB.env.add h90).add h101)
              exact .inr ⟨(wanted_plain rfl _), Does.val (v := Value.bool false) (rn_pk0 rfl (he.op rfl) (he.op rfl) ww) ⟨Fr.refl _ _, rfl⟩⟩
            refine StepsAll.cons ?_ ?_
            · intro aa ww hB hd
              have h102 : aa.eval (.tmp 102) = Value.bool false := hd 41 (by kernel_rfl)
              have he : Env 248 [(102, Value.bool false), (7, Value.pointer (some ⟨p43, 0, none⟩)), (6, Value.pointer (some ⟨p31, 0, none⟩)), (5, Value.pointer (some ⟨p25, 0, none⟩)), (4, Value.pointer (some ⟨p12, 0, none⟩)), (3, Value.pointer (some ⟨p10, 0, none⟩)), (2, Value.pointer (some ⟨p8, 0, none⟩)), (1, Value.pointer (some ⟨p6, 0, none⟩)), (0, Value.bool false)] aa := (hB.env.add h102)
              exact .inr ⟨(wanted_plain rfl _), Does.val (v := Value.bool false) (rn_mv rfl (he.op rfl) ww) ⟨Fr.refl _ _, rfl⟩⟩
            refine StepsAll.cons ?_ ?_
            · intro aa ww hB hd
              have h103 : aa.eval (.tmp 103) = Value.bool false := hd 42 (by kernel_rfl)
              have he : Env 248 [(103, Value.bool false), (7, Value.pointer (some ⟨p43, 0, none⟩)), (6, Value.pointer (some ⟨p31, 0, none⟩)), (5, Value.pointer (some ⟨p25, 0, none⟩)), (4, Value.pointer (some ⟨p12, 0, none⟩)), (3, Value.pointer (some ⟨p10, 0, none⟩)), (2, Value.pointer (some ⟨p8, 0, none⟩)), (1, Value.pointer (some ⟨p6, 0, none⟩)), (0, Value.bool false)] aa := (hB.env.add h103)
              exact .inr ⟨(he.want rfl rfl rfl rfl rfl), Does.val (v := Ce.v aC) (rn_load rfl (he.op rfl) (hB.held.1.at (i := 7) rfl)) ⟨Fr.refl _ _, rfl⟩⟩
            refine StepsAll.cons ?_ ?_
            · intro aa ww hB hd
              have h103 : aa.eval (.tmp 103) = Value.bool false := hd 42 (by kernel_rfl)
              have he : Env 248 [(103, Value.bool false), (7, Value.pointer (some ⟨p43, 0, none⟩)), (6, Value.pointer (some ⟨p31, 0, none⟩)), (5, Value.pointer (some ⟨p25, 0, none⟩)), (4, Value.pointer (some ⟨p12, 0, none⟩)), (3, Value.pointer (some ⟨p10, 0, none⟩)), (2, Value.pointer (some ⟨p8, 0, none⟩)), (1, Value.pointer (some ⟨p6, 0, none⟩)), (0, Value.bool false)] aa := (hB.env.add h103)
              exact .inr ⟨(he.want rfl rfl rfl rfl rfl), Does.val (v := Ce.v wC) (rn_load rfl (he.op rfl) (hB.held.1.at (i := 6) rfl)) ⟨Fr.refl _ _, rfl⟩⟩
            refine StepsAll.cons ?_ ?_
            · intro aa ww hB hd
              have h103 : aa.eval (.tmp 103) = Value.bool false := hd 42 (by kernel_rfl)
              have he : Env 248 [(103, Value.bool false), (7, Value.pointer (some ⟨p43, 0, none⟩)), (6, Value.pointer (some ⟨p31, 0, none⟩)), (5, Value.pointer (some ⟨p25, 0, none⟩)), (4, Value.pointer (some ⟨p12, 0, none⟩)), (3, Value.pointer (some ⟨p10, 0, none⟩)), (2, Value.pointer (some ⟨p8, 0, none⟩)), (1, Value.pointer (some ⟨p6, 0, none⟩)), (0, Value.bool false)] aa := (hB.env.add h103)
              exact .inr ⟨(he.want rfl rfl rfl rfl rfl), Does.val (v := Ce.v zeroCe) (rn_load rfl (he.op rfl) (hB.held.1.at (i := 5) rfl)) ⟨Fr.refl _ _, rfl⟩⟩
            refine StepsAll.cons ?_ ?_
            · intro aa ww hB hd
              have h104 : aa.eval (.tmp 104) = Ce.v aC := hd 43 (by kernel_rfl)
              have h105 : aa.eval (.tmp 105) = Ce.v wC := hd 44 (by kernel_rfl)
              have h106 : aa.eval (.tmp 106) = Ce.v zeroCe := hd 45 (by kernel_rfl)
              have h103 : aa.eval (.tmp 103) = Value.bool false := hd 42 (by kernel_rfl)
              have he : Env 248 [(103, Value.bool false), (106, Ce.v zeroCe), (105, Ce.v wC), (104, Ce.v aC), (7, Value.pointer (some ⟨p43, 0, none⟩)), (6, Value.pointer (some ⟨p31, 0, none⟩)), (5, Value.pointer (some ⟨p25, 0, none⟩)), (4, Value.pointer (some ⟨p12, 0, none⟩)), (3, Value.pointer (some ⟨p10, 0, none⟩)), (2, Value.pointer (some ⟨p8, 0, none⟩)), (1, Value.pointer (some ⟨p6, 0, none⟩)), (0, Value.bool false)] aa := ((((hB.env.add h104).add h105).add h106).add h103)
              exact .inr ⟨(he.want rfl rfl rfl rfl rfl), Does.val (rn_bs3 rfl (he.op rfl) (he.op rfl) (he.op rfl) ww) ⟨(Fr.refl _ _).alloc _, SlC.mk (rdc_lit ww [aC, wC, zeroCe] _ rfl 3 rfl) (Nat.le_refl _)⟩⟩
            refine StepsAll.cons ?_ ?_
            · intro aa ww hB hd
              have hx107 : SlC ww (aa.eval (.tmp 107)) [aC, wC, zeroCe] := hd 46 (by kernel_rfl)
              obtain ⟨x107, h107⟩ : ∃ x, aa.eval (.tmp 107) = x := ⟨_, rfl⟩
              rw [h107] at hx107
              have h103 : aa.eval (.tmp 103) = Value.bool false := hd 42 (by kernel_rfl)
              have he : Env 248 [(103, Value.bool false), (107, x107), (7, Value.pointer (some ⟨p43, 0, none⟩)), (6, Value.pointer (some ⟨p31, 0, none⟩)), (5, Value.pointer (some ⟨p25, 0, none⟩)), (4, Value.pointer (some ⟨p12, 0, none⟩)), (3, Value.pointer (some ⟨p10, 0, none⟩)), (2, Value.pointer (some ⟨p8, 0, none⟩)), (1, Value.pointer (some ⟨p6, 0, none⟩)), (0, Value.bool false)] aa := ((hB.env.add h107).add h103)
              exact .inr ⟨(he.want rfl rfl rfl rfl rfl), does_call Tryd.func37 (by kernel_rfl) rfl rfl (he.args rfl) (hard_any _ _ ww hx107) (fun e_ w_ h_ => h_)⟩
            refine StepsAll.cons ?_ ?_
            · intro aa ww hB hd
              have h103 : aa.eval (.tmp 103) = Value.bool false := hd 42 (by kernel_rfl)
              have he : Env 248 [(103, Value.bool false), (7, Value.pointer (some ⟨p43, 0, none⟩)), (6, Value.pointer (some ⟨p31, 0, none⟩)), (5, Value.pointer (some ⟨p25, 0, none⟩)), (4, Value.pointer (some ⟨p12, 0, none⟩)), (3, Value.pointer (some ⟨p10, 0, none⟩)), (2, Value.pointer (some ⟨p8, 0, none⟩)), (1, Value.pointer (some ⟨p6, 0, none⟩)), (0, Value.bool false)] aa := (hB.env.add h103)
              exact .inr ⟨(he.want rfl rfl rfl rfl rfl), Does.val (v := Ce.v aC) (rn_load rfl (he.op rfl) (hB.held.1.at (i := 7) rfl)) ⟨Fr.refl _ _, rfl⟩⟩
            refine StepsAll.cons ?_ ?_
            · intro aa ww hB hd
              have h103 : aa.eval (.tmp 103) = Value.bool false := hd 42 (by kernel_rfl)
              have he : Env 248 [(103, Value.bool false), (7, Value.pointer (some ⟨p43, 0, none⟩)), (6, Value.pointer (some ⟨p31, 0, none⟩)), (5, Value.pointer (some ⟨p25, 0, none⟩)), (4, Value.pointer (some ⟨p12, 0, none⟩)), (3, Value.pointer (some ⟨p10, 0, none⟩)), (2, Value.pointer (some ⟨p8, 0, none⟩)), (1, Value.pointer (some ⟨p6, 0, none⟩)), (0, Value.bool false)] aa := (hB.env.add h103)
              exact .inr ⟨(he.want rfl rfl rfl rfl rfl), Does.val (v := Ce.v wC) (rn_load rfl (he.op rfl) (hB.held.1.at (i := 6) rfl)) ⟨Fr.refl _ _, rfl⟩⟩
            refine StepsAll.cons ?_ ?_
            · intro aa ww hB hd
              have h103 : aa.eval (.tmp 103) = Value.bool false := hd 42 (by kernel_rfl)
              have he : Env 248 [(103, Value.bool false), (7, Value.pointer (some ⟨p43, 0, none⟩)), (6, Value.pointer (some ⟨p31, 0, none⟩)), (5, Value.pointer (some ⟨p25, 0, none⟩)), (4, Value.pointer (some ⟨p12, 0, none⟩)), (3, Value.pointer (some ⟨p10, 0, none⟩)), (2, Value.pointer (some ⟨p8, 0, none⟩)), (1, Value.pointer (some ⟨p6, 0, none⟩)), (0, Value.bool false)] aa := (hB.env.add h103)
              exact .inr ⟨(he.want rfl rfl rfl rfl rfl), Does.val (v := Ce.v zeroCe) (rn_load rfl (he.op rfl) (hB.held.1.at (i := 5) rfl)) ⟨Fr.refl _ _, rfl⟩⟩
            refine StepsAll.cons ?_ ?_
            · intro aa ww hB hd
              have h103 : aa.eval (.tmp 103) = Value.bool false := hd 42 (by kernel_rfl)
              have he : Env 248 [(103, Value.bool false), (7, Value.pointer (some ⟨p43, 0, none⟩)), (6, Value.pointer (some ⟨p31, 0, none⟩)), (5, Value.pointer (some ⟨p25, 0, none⟩)), (4, Value.pointer (some ⟨p12, 0, none⟩)), (3, Value.pointer (some ⟨p10, 0, none⟩)), (2, Value.pointer (some ⟨p8, 0, none⟩)), (1, Value.pointer (some ⟨p6, 0, none⟩)), (0, Value.bool false)] aa := (hB.env.add h103)
              exact .inr ⟨(he.want rfl rfl rfl rfl rfl), Does.val (v := Ce.v eC) (rn_load rfl (he.op rfl) (hB.held.1.at (i := 4) rfl)) ⟨Fr.refl _ _, rfl⟩⟩
            refine StepsAll.cons ?_ ?_
            · intro aa ww hB hd
              have h103 : aa.eval (.tmp 103) = Value.bool false := hd 42 (by kernel_rfl)
              have he : Env 248 [(103, Value.bool false), (7, Value.pointer (some ⟨p43, 0, none⟩)), (6, Value.pointer (some ⟨p31, 0, none⟩)), (5, Value.pointer (some ⟨p25, 0, none⟩)), (4, Value.pointer (some ⟨p12, 0, none⟩)), (3, Value.pointer (some ⟨p10, 0, none⟩)), (2, Value.pointer (some ⟨p8, 0, none⟩)), (1, Value.pointer (some ⟨p6, 0, none⟩)), (0, Value.bool false)] aa := (hB.env.add h103)
              exact .inr ⟨(he.want rfl rfl rfl rfl rfl), Does.val (v := Ce.v eC) (rn_load rfl (he.op rfl) (hB.held.1.at (i := 4) rfl)) ⟨Fr.refl _ _, rfl⟩⟩
            refine StepsAll.cons ?_ ?_
            · intro aa ww hB hd
              have h109 : aa.eval (.tmp 109) = Ce.v aC := hd 48 (by kernel_rfl)
              have h110 : aa.eval (.tmp 110) = Ce.v wC := hd 49 (by kernel_rfl)
              have h111 : aa.eval (.tmp 111) = Ce.v zeroCe := hd 50 (by kernel_rfl)
              have h112 : aa.eval (.tmp 112) = Ce.v eC := hd 51 (by kernel_rfl)
              have h113 : aa.eval (.tmp 113) = Ce.v eC := hd 52 (by kernel_rfl)
              have h103 : aa.eval (.tmp 103) = Value.bool false := hd 42 (by kernel_rfl)
              have he : Env 248 [(103, Value.bool false), (113, Ce.v eC), (112, Ce.v eC), (111, Ce.v zeroCe), (110, Ce.v wC), (109, Ce.v aC), (7, Value.pointer (some ⟨p43, 0, none⟩)), (6, Value.pointer (some ⟨p31, 0, none⟩)), (5, Value.pointer (some ⟨p25, 0, none⟩)), (4, Value.pointer (some ⟨p12, 0, none⟩)), (3, Value.pointer (some ⟨p10, 0, none⟩)), (2, Value.pointer (some ⟨p8, 0, none⟩)), (1, Value.pointer (some ⟨p6, 0, none⟩)), (0, Value.bool false)] aa := ((((((hB.env.add h109).add h110).add h111).add h112).add h113).add h103)
              exact .inr ⟨(he.want rfl rfl rfl rfl rfl), Does.val (rn_bs5 rfl (he.op rfl) (he.op rfl) (he.op rfl) (he.op rfl) (he.op rfl) ww) ⟨(Fr.refl _ _).alloc _, SlC.mk (rdc_lit ww [aC, wC, zeroCe, eC, eC] _ rfl 5 rfl) (Nat.le_refl _)⟩⟩
            refine StepsAll.cons ?_ ?_
            · intro aa ww hB hd
              have hx114 : SlC ww (aa.eval (.tmp 114)) [aC, wC, zeroCe, eC, eC] := hd 53 (by kernel_rfl)
              obtain ⟨x114, h114⟩ : ∃ x, aa.eval (.tmp 114) = x := ⟨_, rfl⟩
              rw [h114] at hx114
              have h103 : aa.eval (.tmp 103) = Value.bool false := hd 42 (by kernel_rfl)
              have he : Env 248 [(103, Value.bool false), (114, x114), (7, Value.pointer (some ⟨p43, 0, none⟩)), (6, Value.pointer (some ⟨p31, 0, none⟩)), (5, Value.pointer (some ⟨p25, 0, none⟩)), (4, Value.pointer (some ⟨p12, 0, none⟩)), (3, Value.pointer (some ⟨p10, 0, none⟩)), (2, Value.pointer (some ⟨p8, 0, none⟩)), (1, Value.pointer (some ⟨p6, 0, none⟩)), (0, Value.bool false)] aa := ((hB.env.add h114).add h103)
              exact .inr ⟨(he.want rfl rfl rfl rfl rfl), does_call Tryd.func37 (by kernel_rfl) rfl rfl (he.args rfl) (hard_any _ _ ww hx114) (fun e_ w_ h_ => h_)⟩
            refine StepsAll.cons ?_ ?_
            · intro aa ww hB hd
              have hx108 : ∃ x, aa.eval (.tmp 108) = .agg #[x, .bool false] ∧ SlC ww x [aC, wC, zeroCe] := hd 47 (by kernel_rfl)
              obtain ⟨x108, h108, hx108⟩ := hx108
              have hx115 : ∃ x, aa.eval (.tmp 115) = .agg #[x, .bool false] ∧ SlC ww x [aC, wC, zeroCe, eC, eC] := hd 54 (by kernel_rfl)
              obtain ⟨x115, h115, hx115⟩ := hx115
              have h103 : aa.eval (.tmp 103) = Value.bool false := hd 42 (by kernel_rfl)
              have he : Env 248 [(103, Value.bool false), (115, Value.agg #[x115, Value.bool false]), (108, Value.agg #[x108, Value.bool false]), (7, Value.pointer (some ⟨p43, 0, none⟩)), (6, Value.pointer (some ⟨p31, 0, none⟩)), (5, Value.pointer (some ⟨p25, 0, none⟩)), (4, Value.pointer (some ⟨p12, 0, none⟩)), (3, Value.pointer (some ⟨p10, 0, none⟩)), (2, Value.pointer (some ⟨p8, 0, none⟩)), (1, Value.pointer (some ⟨p6, 0, none⟩)), (0, Value.bool false)] aa := (((hB.env.add h108).add h115).add h103)
              exact .inr ⟨(he.want rfl rfl rfl rfl rfl), does_call Tryd.func29 (by kernel_rfl) rfl rfl (he.args rfl) (fits_s _ [aC, wC, zeroCe] false 5 _ [aC, wC, zeroCe, eC, eC] false 0 true kn23 (by decide) ww hx108 hx115 hB.held.2) (fun e_ w_ h_ => ⟨_, h_.1, h_.2, rfl⟩)⟩
            refine StepsAll.cons ?_ ?_
            · intro aa ww hB hd
              have h116 : aa.eval (.tmp 116) = Value.bool true := hd 55 (by kernel_rfl)
              have h103 : aa.eval (.tmp 103) = Value.bool false := hd 42 (by kernel_rfl)
              have he : Env 248 [(103, Value.bool false), (116, Value.bool true), (7, Value.pointer (some ⟨p43, 0, none⟩)), (6, Value.pointer (some ⟨p31, 0, none⟩)), (5, Value.pointer (some ⟨p25, 0, none⟩)), (4, Value.pointer (some ⟨p12, 0, none⟩)), (3, Value.pointer (some ⟨p10, 0, none⟩)), (2, Value.pointer (some ⟨p8, 0, none⟩)), (1, Value.pointer (some ⟨p6, 0, none⟩)), (0, Value.bool false)] aa := ((hB.env.add h116).add h103)
              exact .inr ⟨(he.want rfl rfl rfl rfl rfl), Does.val (v := Value.bool false) (rn_not (b := true) rfl (he.op rfl) ww) ⟨Fr.refl _ _, rfl⟩⟩
            refine StepsAll.cons ?_ ?_
            · intro aa ww hB hd
              have h103 : aa.eval (.tmp 103) = Value.bool false := hd 42 (by kernel_rfl)
              have h117 : aa.eval (.tmp 117) = Value.bool false := hd 56 (by kernel_rfl)
              have he : Env 248 [(117, Value.bool false), (103, Value.bool false), (7, Value.pointer (some ⟨p43, 0, none⟩)), (6, Value.pointer (some ⟨p31, 0, none⟩)), (5, Value.pointer (some ⟨p25, 0, none⟩)), (4, Value.pointer (some ⟨p12, 0, none⟩)), (3, Value.pointer (some ⟨p10, 0, none⟩)), (2, Value.pointer (some ⟨p8, 0, none⟩)), (1, Value.pointer (some ⟨p6, 0, none⟩)), (0, Value.bool false)] aa := ((hB.env.add h103).add h117)
              exact .inr ⟨(wanted_plain rfl _), Does.val (v := Value.bool false) (rn_pk0 rfl (he.op rfl) (he.op rfl) ww) ⟨Fr.refl _ _, rfl⟩⟩
            refine StepsAll.cons ?_ ?_
            · intro aa ww hB hd
              have h118 : aa.eval (.tmp 118) = Value.bool false := hd 57 (by kernel_rfl)
              have he : Env 248 [(118, Value.bool false), (7, Value.pointer (some ⟨p43, 0, none⟩)), (6, Value.pointer (some ⟨p31, 0, none⟩)), (5, Value.pointer (some ⟨p25, 0, none⟩)), (4, Value.pointer (some ⟨p12, 0, none⟩)), (3, Value.pointer (some ⟨p10, 0, none⟩)), (2, Value.pointer (some ⟨p8, 0, none⟩)), (1, Value.pointer (some ⟨p6, 0, none⟩)), (0, Value.bool false)] aa := (hB.env.add h118)
              exact .inr ⟨(wanted_plain rfl _), Does.val (v := Value.bool false) (rn_mv rfl (he.op rfl) ww) ⟨Fr.refl _ _, rfl⟩⟩
            refine StepsAll.cons ?_ ?_
            · intro aa ww hB hd
              have h119 : aa.eval (.tmp 119) = Value.bool false := hd 58 (by kernel_rfl)
              have he : Env 248 [(119, Value.bool false), (7, Value.pointer (some ⟨p43, 0, none⟩)), (6, Value.pointer (some ⟨p31, 0, none⟩)), (5, Value.pointer (some ⟨p25, 0, none⟩)), (4, Value.pointer (some ⟨p12, 0, none⟩)), (3, Value.pointer (some ⟨p10, 0, none⟩)), (2, Value.pointer (some ⟨p8, 0, none⟩)), (1, Value.pointer (some ⟨p6, 0, none⟩)), (0, Value.bool false)] aa := (hB.env.add h119)
              exact .inr ⟨(he.want rfl rfl rfl rfl rfl), Does.val (v := Ce.v aC) (rn_load rfl (he.op rfl) (hB.held.1.at (i := 7) rfl)) ⟨Fr.refl _ _, rfl⟩⟩
            refine StepsAll.cons ?_ ?_
            · intro aa ww hB hd
              have h119 : aa.eval (.tmp 119) = Value.bool false := hd 58 (by kernel_rfl)
              have he : Env 248 [(119, Value.bool false), (7, Value.pointer (some ⟨p43, 0, none⟩)), (6, Value.pointer (some ⟨p31, 0, none⟩)), (5, Value.pointer (some ⟨p25, 0, none⟩)), (4, Value.pointer (some ⟨p12, 0, none⟩)), (3, Value.pointer (some ⟨p10, 0, none⟩)), (2, Value.pointer (some ⟨p8, 0, none⟩)), (1, Value.pointer (some ⟨p6, 0, none⟩)), (0, Value.bool false)] aa := (hB.env.add h119)
              exact .inr ⟨(he.want rfl rfl rfl rfl rfl), Does.val (v := Ce.v wC) (rn_load rfl (he.op rfl) (hB.held.1.at (i := 6) rfl)) ⟨Fr.refl _ _, rfl⟩⟩
            refine StepsAll.cons ?_ ?_
            · intro aa ww hB hd
              have h119 : aa.eval (.tmp 119) = Value.bool false := hd 58 (by kernel_rfl)
              have he : Env 248 [(119, Value.bool false), (7, Value.pointer (some ⟨p43, 0, none⟩)), (6, Value.pointer (some ⟨p31, 0, none⟩)), (5, Value.pointer (some ⟨p25, 0, none⟩)), (4, Value.pointer (some ⟨p12, 0, none⟩)), (3, Value.pointer (some ⟨p10, 0, none⟩)), (2, Value.pointer (some ⟨p8, 0, none⟩)), (1, Value.pointer (some ⟨p6, 0, none⟩)), (0, Value.bool false)] aa := (hB.env.add h119)
              exact .inr ⟨(he.want rfl rfl rfl rfl rfl), Does.val (v := Ce.v zeroCe) (rn_load rfl (he.op rfl) (hB.held.1.at (i := 5) rfl)) ⟨Fr.refl _ _, rfl⟩⟩
            refine StepsAll.cons ?_ ?_
            · intro aa ww hB hd
              have h120 : aa.eval (.tmp 120) = Ce.v aC := hd 59 (by kernel_rfl)
              have h121 : aa.eval (.tmp 121) = Ce.v wC := hd 60 (by kernel_rfl)
              have h122 : aa.eval (.tmp 122) = Ce.v zeroCe := hd 61 (by kernel_rfl)
              have h119 : aa.eval (.tmp 119) = Value.bool false := hd 58 (by kernel_rfl)
              have he : Env 248 [(119, Value.bool false), (122, Ce.v zeroCe), (121, Ce.v wC), (120, Ce.v aC), (7, Value.pointer (some ⟨p43, 0, none⟩)), (6, Value.pointer (some ⟨p31, 0, none⟩)), (5, Value.pointer (some ⟨p25, 0, none⟩)), (4, Value.pointer (some ⟨p12, 0, none⟩)), (3, Value.pointer (some ⟨p10, 0, none⟩)), (2, Value.pointer (some ⟨p8, 0, none⟩)), (1, Value.pointer (some ⟨p6, 0, none⟩)), (0, Value.bool false)] aa := ((((hB.env.add h120).add h121).add h122).add h119)
              exact .inr ⟨(he.want rfl rfl rfl rfl rfl), Does.val (rn_bs3 rfl (he.op rfl) (he.op rfl) (he.op rfl) ww) ⟨(Fr.refl _ _).alloc _, SlC.mk (rdc_lit ww [aC, wC, zeroCe] _ rfl 3 rfl) (Nat.le_refl _)⟩⟩
            refine StepsAll.cons ?_ ?_
            · intro aa ww hB hd
              have hx123 : SlC ww (aa.eval (.tmp 123)) [aC, wC, zeroCe] := hd 62 (by kernel_rfl)
              obtain ⟨x123, h123⟩ : ∃ x, aa.eval (.tmp 123) = x := ⟨_, rfl⟩
              rw [h123] at hx123
              have h119 : aa.eval (.tmp 119) = Value.bool false := hd 58 (by kernel_rfl)
              have he : Env 248 [(119, Value.bool false), (123, x123), (7, Value.pointer (some ⟨p43, 0, none⟩)), (6, Value.pointer (some ⟨p31, 0, none⟩)), (5, Value.pointer (some ⟨p25, 0, none⟩)), (4, Value.pointer (some ⟨p12, 0, none⟩)), (3, Value.pointer (some ⟨p10, 0, none⟩)), (2, Value.pointer (some ⟨p8, 0, none⟩)), (1, Value.pointer (some ⟨p6, 0, none⟩)), (0, Value.bool false)] aa := ((hB.env.add h123).add h119)
              exact .inr ⟨(he.want rfl rfl rfl rfl rfl), does_call Tryd.func37 (by kernel_rfl) rfl rfl (he.args rfl) (hard_any _ _ ww hx123) (fun e_ w_ h_ => h_)⟩
            refine StepsAll.cons ?_ ?_
            · intro aa ww hB hd
              have h119 : aa.eval (.tmp 119) = Value.bool false := hd 58 (by kernel_rfl)
              have he : Env 248 [(119, Value.bool false), (7, Value.pointer (some ⟨p43, 0, none⟩)), (6, Value.pointer (some ⟨p31, 0, none⟩)), (5, Value.pointer (some ⟨p25, 0, none⟩)), (4, Value.pointer (some ⟨p12, 0, none⟩)), (3, Value.pointer (some ⟨p10, 0, none⟩)), (2, Value.pointer (some ⟨p8, 0, none⟩)), (1, Value.pointer (some ⟨p6, 0, none⟩)), (0, Value.bool false)] aa := (hB.env.add h119)
              exact .inr ⟨(he.want rfl rfl rfl rfl rfl), Does.val (v := Value.agg #[Value.slice none 0 0, Value.bool false]) (rn_ldp [Value.slice none 0 0, Value.bool false] rfl (he.op rfl) undL rfl infoL2 (hB.held.1.at (i := 2) rfl) rfl) ⟨Fr.refl _ _, _, rfl, SlC.nil _⟩⟩
            refine StepsAll.cons ?_ ?_
            · intro aa ww hB hd
              have hx124 : ∃ x, aa.eval (.tmp 124) = .agg #[x, .bool false] ∧ SlC ww x [aC, wC, zeroCe] := hd 63 (by kernel_rfl)
              obtain ⟨x124, h124, hx124⟩ := hx124
              have hx125 : ∃ x, aa.eval (.tmp 125) = .agg #[x, .bool false] ∧ SlC ww x [] := hd 64 (by kernel_rfl)
              obtain ⟨x125, h125, hx125⟩ := hx125
              have h119 : aa.eval (.tmp 119) = Value.bool false := hd 58 (by kernel_rfl)
              have he : Env 248 [(119, Value.bool false), (125, Value.agg #[x125, Value.bool false]), (124, Value.agg #[x124, Value.bool false]), (7, Value.pointer (some ⟨p43, 0, none⟩)), (6, Value.pointer (some ⟨p31, 0, none⟩)), (5, Value.pointer (some ⟨p25, 0, none⟩)), (4, Value.pointer (some ⟨p12, 0, none⟩)), (3, Value.pointer (some ⟨p10, 0, none⟩)), (2, Value.pointer (some ⟨p8, 0, none⟩)), (1, Value.pointer (some ⟨p6, 0, none⟩)), (0, Value.bool false)] aa := (((hB.env.add h124).add h125).add h119)
              exact .inr ⟨(he.want rfl rfl rfl rfl rfl), does_call Tryd.func29 (by kernel_rfl) rfl rfl (he.args rfl) (fits_s _ [aC, wC, zeroCe] false (-1) _ [] false 2 true kn25 (by decide) ww hx124 hx125 hB.held.2) (fun e_ w_ h_ => ⟨_, h_.1, h_.2, rfl⟩)⟩
            refine StepsAll.cons ?_ ?_
            · intro aa ww hB hd
              have h126 : aa.eval (.tmp 126) = Value.bool true := hd 65 (by kernel_rfl)
              have h119 : aa.eval (.tmp 119) = Value.bool false := hd 58 (by kernel_rfl)
              have he : Env 248 [(119, Value.bool false), (126, Value.bool true), (7, Value.pointer (some ⟨p43, 0, none⟩)), (6, Value.pointer (some ⟨p31, 0, none⟩)), (5, Value.pointer (some ⟨p25, 0, none⟩)), (4, Value.pointer (some ⟨p12, 0, none⟩)), (3, Value.pointer (some ⟨p10, 0, none⟩)), (2, Value.pointer (some ⟨p8, 0, none⟩)), (1, Value.pointer (some ⟨p6, 0, none⟩)), (0, Value.bool false)] aa := ((hB.env.add h126).add h119)
              exact .inr ⟨(he.want rfl rfl rfl rfl rfl), Does.val (v := Value.bool false) (rn_not (b := true) rfl (he.op rfl) ww) ⟨Fr.refl _ _, rfl⟩⟩
            refine StepsAll.cons ?_ ?_
            · intro aa ww hB hd
              have h119 : aa.eval (.tmp 119) = Value.bool false := hd 58 (by kernel_rfl)
              have h127 : aa.eval (.tmp 127) = Value.bool false := hd 66 (by kernel_rfl)
              have he : Env 248 [(127, Value.bool false), (119, Value.bool false), (7, Value.pointer (some ⟨p43, 0, none⟩)), (6, Value.pointer (some ⟨p31, 0, none⟩)), (5, Value.pointer (some ⟨p25, 0, none⟩)), (4, Value.pointer (some ⟨p12, 0, none⟩)), (3, Value.pointer (some ⟨p10, 0, none⟩)), (2, Value.pointer (some ⟨p8, 0, none⟩)), (1, Value.pointer (some ⟨p6, 0, none⟩)), (0, Value.bool false)] aa := ((hB.env.add h119).add h127)
              exact .inr ⟨(wanted_plain rfl _), Does.val (v := Value.bool false) (rn_pk0 rfl (he.op rfl) (he.op rfl) ww) ⟨Fr.refl _ _, rfl⟩⟩
            refine StepsAll.cons ?_ ?_
            · intro aa ww hB hd
              have h128 : aa.eval (.tmp 128) = Value.bool false := hd 67 (by kernel_rfl)
              have he : Env 248 [(128, Value.bool false), (7, Value.pointer (some ⟨p43, 0, none⟩)), (6, Value.pointer (some ⟨p31, 0, none⟩)), (5, Value.pointer (some ⟨p25, 0, none⟩)), (4, Value.pointer (some ⟨p12, 0, none⟩)), (3, Value.pointer (some ⟨p10, 0, none⟩)), (2, Value.pointer (some ⟨p8, 0, none⟩)), (1, Value.pointer (some ⟨p6, 0, none⟩)), (0, Value.bool false)] aa := (hB.env.add h128)
              exact .inr ⟨(wanted_plain rfl _), Does.val (v := Value.bool false) (rn_mv rfl (he.op rfl) ww) ⟨Fr.refl _ _, rfl⟩⟩
            refine StepsAll.cons ?_ ?_
            · intro aa ww hB hd
              have h129 : aa.eval (.tmp 129) = Value.bool false := hd 68 (by kernel_rfl)
              have he : Env 248 [(129, Value.bool false), (7, Value.pointer (some ⟨p43, 0, none⟩)), (6, Value.pointer (some ⟨p31, 0, none⟩)), (5, Value.pointer (some ⟨p25, 0, none⟩)), (4, Value.pointer (some ⟨p12, 0, none⟩)), (3, Value.pointer (some ⟨p10, 0, none⟩)), (2, Value.pointer (some ⟨p8, 0, none⟩)), (1, Value.pointer (some ⟨p6, 0, none⟩)), (0, Value.bool false)] aa := (hB.env.add h129)
              exact .inr ⟨(he.want rfl rfl rfl rfl rfl), Does.val (v := Ce.v eC) (rn_load rfl (he.op rfl) (hB.held.1.at (i := 4) rfl)) ⟨Fr.refl _ _, rfl⟩⟩
            refine StepsAll.cons ?_ ?_
            · intro aa ww hB hd
              have h129 : aa.eval (.tmp 129) = Value.bool false := hd 68 (by kernel_rfl)
              have he : Env 248 [(129, Value.bool false), (7, Value.pointer (some ⟨p43, 0, none⟩)), (6, Value.pointer (some ⟨p31, 0, none⟩)), (5, Value.pointer (some ⟨p25, 0, none⟩)), (4, Value.pointer (some ⟨p12, 0, none⟩)), (3, Value.pointer (some ⟨p10, 0, none⟩)), (2, Value.pointer (some ⟨p8, 0, none⟩)), (1, Value.pointer (some ⟨p6, 0, none⟩)), (0, Value.bool false)] aa := (hB.env.add h129)
              exact .inr ⟨(he.want rfl rfl rfl rfl rfl), Does.val (v := Ce.v aC) (rn_load rfl (he.op rfl) (hB.held.1.at (i := 7) rfl)) ⟨Fr.refl _ _, rfl⟩⟩
            refine StepsAll.cons ?_ ?_
            · intro aa ww hB hd
              have h129 : aa.eval (.tmp 129) = Value.bool false := hd 68 (by kernel_rfl)
              have he : Env 248 [(129, Value.bool false), (7, Value.pointer (some ⟨p43, 0, none⟩)), (6, Value.pointer (some ⟨p31, 0, none⟩)), (5, Value.pointer (some ⟨p25, 0, none⟩)), (4, Value.pointer (some ⟨p12, 0, none⟩)), (3, Value.pointer (some ⟨p10, 0, none⟩)), (2, Value.pointer (some ⟨p8, 0, none⟩)), (1, Value.pointer (some ⟨p6, 0, none⟩)), (0, Value.bool false)] aa := (hB.env.add h129)
              exact .inr ⟨(he.want rfl rfl rfl rfl rfl), Does.val (v := Ce.v eC) (rn_load rfl (he.op rfl) (hB.held.1.at (i := 4) rfl)) ⟨Fr.refl _ _, rfl⟩⟩
            refine StepsAll.cons ?_ ?_
            · intro aa ww hB hd
              have h129 : aa.eval (.tmp 129) = Value.bool false := hd 68 (by kernel_rfl)
              have he : Env 248 [(129, Value.bool false), (7, Value.pointer (some ⟨p43, 0, none⟩)), (6, Value.pointer (some ⟨p31, 0, none⟩)), (5, Value.pointer (some ⟨p25, 0, none⟩)), (4, Value.pointer (some ⟨p12, 0, none⟩)), (3, Value.pointer (some ⟨p10, 0, none⟩)), (2, Value.pointer (some ⟨p8, 0, none⟩)), (1, Value.pointer (some ⟨p6, 0, none⟩)), (0, Value.bool false)] aa := (hB.env.add h129)
              exact .inr ⟨(he.want rfl rfl rfl rfl rfl), Does.val (v := Ce.v eC) (rn_load rfl (he.op rfl) (hB.held.1.at (i := 4) rfl)) ⟨Fr.refl _ _, rfl⟩⟩
            refine StepsAll.cons ?_ ?_
            · intro aa ww hB hd
              have h130 : aa.eval (.tmp 130) = Ce.v eC := hd 69 (by kernel_rfl)
              have h131 : aa.eval (.tmp 131) = Ce.v aC := hd 70 (by kernel_rfl)
              have h132 : aa.eval (.tmp 132) = Ce.v eC := hd 71 (by kernel_rfl)
              have h133 : aa.eval (.tmp 133) = Ce.v eC := hd 72 (by kernel_rfl)
              have h129 : aa.eval (.tmp 129) = Value.bool false := hd 68 (by kernel_rfl)
              have he : Env 248 [(129, Value.bool false), (133, Ce.v eC), (132, Ce.v eC), (131, Ce.v aC), (130, Ce.v eC), (7, Value.pointer (some ⟨p43, 0, none⟩)), (6, Value.pointer (some ⟨p31, 0, none⟩)), (5, Value.pointer (some ⟨p25, 0, none⟩)), (4, Value.pointer (some ⟨p12, 0, none⟩)), (3, Value.pointer (some ⟨p10, 0, none⟩)), (2, Value.pointer (some ⟨p8, 0, none⟩)), (1, Value.pointer (some ⟨p6, 0, none⟩)), (0, Value.bool false)] aa := (((((hB.env.add h130).add h131).add h132).add h133).add h129)
              exact .inr ⟨(he.want rfl rfl rfl rfl rfl), Does.val (rn_bs4 rfl (he.op rfl) (he.op rfl) (he.op rfl) (he.op rfl) ww) ⟨(Fr.refl _ _).alloc _, SlC.mk (rdc_lit ww [eC, aC, eC, eC] _ rfl 4 rfl) (Nat.le_refl _)⟩⟩
            refine StepsAll.cons ?_ ?_
            · intro aa ww hB hd
              have hx134 : SlC ww (aa.eval (.tmp 134)) [eC, aC, eC, eC] := hd 73 (by kernel_rfl)
              obtain ⟨x134, h134⟩ : ∃ x, aa.eval (.tmp 134) = x := ⟨_, rfl⟩
              rw [h134] at hx134
              have h129 : aa.eval (.tmp 129) = Value.bool false := hd 68 (by kernel_rfl)
              have he : Env 248 [(129, Value.bool false), (134, x134), (7, Value.pointer (some ⟨p43, 0, none⟩)), (6, Value.pointer (some ⟨p31, 0, none⟩)), (5, Value.pointer (some ⟨p25, 0, none⟩)), (4, Value.pointer (some ⟨p12, 0, none⟩)), (3, Value.pointer (some ⟨p10, 0, none⟩)), (2, Value.pointer (some ⟨p8, 0, none⟩)), (1, Value.pointer (some ⟨p6, 0, none⟩)), (0, Value.bool false)] aa := ((hB.env.add h134).add h129)
              exact .inr ⟨(he.want rfl rfl rfl rfl rfl), does_call Tryd.func37 (by kernel_rfl) rfl rfl (he.args rfl) (hard_any _ _ ww hx134) (fun e_ w_ h_ => h_)⟩
            refine StepsAll.cons ?_ ?_
            · intro aa ww hB hd
              have hx135 : ∃ x, aa.eval (.tmp 135) = .agg #[x, .bool false] ∧ SlC ww x [eC, aC, eC, eC] := hd 74 (by kernel_rfl)
              obtain ⟨x135, h135, hx135⟩ := hx135
              have h129 : aa.eval (.tmp 129) = Value.bool false := hd 68 (by kernel_rfl)
              have he : Env 248 [(129, Value.bool false), (135, Value.agg #[x135, Value.bool false]), (7, Value.pointer (some ⟨p43, 0, none⟩)), (6, Value.pointer (some ⟨p31, 0, none⟩)), (5, Value.pointer (some ⟨p25, 0, none⟩)), (4, Value.pointer (some ⟨p12, 0, none⟩)), (3, Value.pointer (some ⟨p10, 0, none⟩)), (2, Value.pointer (some ⟨p8, 0, none⟩)), (1, Value.pointer (some ⟨p6, 0, none⟩)), (0, Value.bool false)] aa := ((hB.env.add h135).add h129)
              exact .inr ⟨(he.want rfl rfl rfl rfl rfl), does_call Tryd.func22 (by kernel_rfl) rfl rfl (he.args rfl) (text_s _ [eC, aC, eC, eC] false ⟨#[32, 97]⟩ kn27 (by decide) ww hx135) (fun e_ w_ h_ => ⟨_, h_.1, h_.2, rfl⟩)⟩
            refine StepsAll.cons ?_ ?_
            · intro aa ww hB hd
              have h136 : aa.eval (.tmp 136) = Value.string { data := #[32, 97] } := hd 75 (by kernel_rfl)
              have h129 : aa.eval (.tmp 129) = Value.bool false := hd 68 (by kernel_rfl)
              have he : Env 248 [(129, Value.bool false), (136, Value.string { data := #[32, 97] }), (7, Value.pointer (some ⟨p43, 0, none⟩)), (6, Value.pointer (some ⟨p31, 0, none⟩)), (5, Value.pointer (some ⟨p25, 0, none⟩)), (4, Value.pointer (some ⟨p12, 0, none⟩)), (3, Value.pointer (some ⟨p10, 0, none⟩)), (2, Value.pointer (some ⟨p8, 0, none⟩)), (1, Value.pointer (some ⟨p6, 0, none⟩)), (0, Value.bool false)] aa := ((hB.env.add h136).add h129)
              exact .inr ⟨(he.want rfl rfl rfl rfl rfl), Does.val (v := Value.bool false) (rn_neq rfl (he.op rfl) (he.op rfl) ww) ⟨Fr.refl _ _, rfl⟩⟩
            refine StepsAll.cons ?_ ?_
            · intro aa ww hB hd
              have h129 : aa.eval (.tmp 129) = Value.bool false := hd 68 (by kernel_rfl)
              have h137 : aa.eval (.tmp 137) = Value.bool false := hd 76 (by kernel_rfl)
              have he : Env 248 [(137, Value.bool false), (129, Value.bool false), (7, Value.pointer (some ⟨p43, 0, none⟩)), (6, Value.pointer (some ⟨p31, 0, none⟩)), (5, Value.pointer (some ⟨p25, 0, none⟩)), (4, Value.pointer (some ⟨p12, 0, none⟩)), (3, Value.pointer (some ⟨p10, 0, none⟩)), (2, Value.pointer (some ⟨p8, 0, none⟩)), (1, Value.pointer (some ⟨p6, 0, none⟩)), (0, Value.bool false)] aa := ((hB.env.add h129).add h137)
              exact .inr ⟨(wanted_plain rfl _), Does.val (v := Value.bool false) (rn_pk0 rfl (he.op rfl) (he.op rfl) ww) ⟨Fr.refl _ _, rfl⟩⟩
            exact StepsAll.nil
          · intro aa ww hB hall
            have h138 : aa.eval (.tmp 138) = Value.bool false := hall 77 (Nat.le_of_ble_eq_true (n := 78) (by kernel_rfl))
            have he56 : Env 248 [(138, Value.bool false), (7, Value.pointer (some ⟨p43, 0, none⟩)), (6, Value.pointer (some ⟨p31, 0, none⟩)), (5, Value.pointer (some ⟨p25, 0, none⟩)), (4, Value.pointer (some ⟨p12, 0, none⟩)), (3, Value.pointer (some ⟨p10, 0, none⟩)), (2, Value.pointer (some ⟨p8, 0, none⟩)), (1, Value.pointer (some ⟨p6, 0, none⟩)), (0, Value.bool false)] aa := (hB.env.add h138)
            have hH56 := hB.held.1
            have hTt := hB.held.2
            clear hB hall heb55 hH53 h138
            refine then_ok ?_
            clear hTt
            refine wp_cond_false (he56.op rfl) ?_
            refine wp_skip ?_
            refine then_ok ?_
            have he57 : Env 248 [(7, Value.pointer (some ⟨p43, 0, none⟩)), (6, Value.pointer (some ⟨p31, 0, none⟩)), (5, Value.pointer (some ⟨p25, 0, none⟩)), (4, Value.pointer (some ⟨p12, 0, none⟩)), (3, Value.pointer (some ⟨p10, 0, none⟩)), (2, Value.pointer (some ⟨p8, 0, none⟩)), (1, Value.pointer (some ⟨p6, 0, none⟩)), (0, Value.bool false)] aa := he56.mem ⟨rfl, rfl, rfl, rfl, rfl, rfl, rfl, rfl, trivial⟩
            clear he56
            as_aux_lemma =>
              refine wp_seq ?_
              refine wp_seq ?_
              have heb58 : Env 248 [(7, Value.pointer (some ⟨p43, 0, none⟩)), (6, Value.pointer (some ⟨p31, 0, none⟩)), (5, Value.pointer (some ⟨p25, 0, none⟩)), (4, Value.pointer (some ⟨p12, 0, none⟩)), (3, Value.pointer (some ⟨p10, 0, none⟩)), (2, Value.pointer (some ⟨p8, 0, none⟩)), (1, Value.pointer (some ⟨p6, 0, none⟩)), (0, Value.bool false)] aa := he57.mem ⟨rfl, rfl, rfl, rfl, rfl, rfl, rfl, rfl, trivial⟩
              clear he57
              refine region_any (S := fun W => Hp w [⟨p43, 27, #[Value.slice (some ⟨p39, 0, none⟩) 3 3, Value.bool true]⟩, ⟨p39, 60, (cs3 aC wC zeroCe)⟩, ⟨p31, 27, #[Value.slice none 0 0, Value.bool false]⟩, ⟨p25, 60, (Ce.cs iC)⟩, ⟨p12, 60, (Ce.cs eC)⟩, ⟨p10, 60, (Ce.cs zeroCe)⟩, ⟨p8, 60, (Ce.cs wC)⟩, ⟨p6, 60, (Ce.cs aC)⟩] W ∧ Tab W) (I := HoldsL [.val (Ce.v aC), .val (Ce.v wC), .val (Ce.v zeroCe), .val (Ce.v eC), .cells ([aC, wC, zeroCe, eC]), .line ([aC, wC, zeroCe, eC]) false, .val (Ce.v aC), .cells ([aC]), .cells ([aC]), .val (Ce.v aC), .val (Ce.v eC), .val (Ce.v aC), .val (Ce.v eC), .cells ([aC, eC, aC, eC]), .line ([aC, eC, aC, eC]) false, .val (Value.bool true), .val (Value.bool false), .val (Value.bool false), .val (Ce.v wC), .val (Ce.v zeroCe), .val (Ce.v wC), .val (Ce.v zeroCe), .cells ([wC, zeroCe, wC, zeroCe]), .line ([wC, zeroCe, wC, zeroCe]) false, .val (Ce.v aC), .val (Ce.v aC), .cells ([aC, aC]), .cells ([aC, aC]), .val (Ce.v eC), .val (Ce.v aC), .val (Ce.v aC), .val (Ce.v eC), .cells ([eC, aC, aC, eC]), .line ([eC, aC, aC, eC]) false, .val (Value.bool true), .val (Value.bool false), .val (Value.bool false), .val (Value.bool false), .val (Ce.v aC), .val (Ce.v eC), .cells ([aC, eC]), .line ([aC, eC]) false, .val (Ce.v wC), .val (Ce.v zeroCe), .cells ([wC, zeroCe]), .cells ([wC, zeroCe]), .line ([]) false, .val (Value.bool true), .val (Value.bool false), .val (Value.bool false), .val (Value.bool false), .val (Ce.v aC), .val (Ce.v eC), .cells ([aC, eC]), .line ([aC, eC]) false, .val (Ce.v aC), .val (Ce.v eC), .cells ([aC, eC]), .line ([aC, eC]) false, .val (Value.bool true), .val (Value.bool false), .val (Value.bool false), .val (Value.bool false), .val (Ce.v aC), .val (Ce.v eC), .cells ([aC, eC]), .line ([aC, eC]) false, .val (Ce.v zeroCe), .cells ([zeroCe]), .cells ([zeroCe]), .line ([]) false, .val (Value.bool true), .val (Value.bool false), .val (Value.bool false)]) (by kernel_rfl) heb58 ⟨hH56.drew, hT.new (hH56.drew).new⟩ (by kernel_rfl) HoldsL.new (fun w_ w1_ h_ hn_ => ⟨h_.1.call hn_, h_.2.new hn_⟩) ?_ ?_
              · skip
                refine StepsAll.cons ?_ ?_
                · intro aa ww hB hd
                  have he : Env 248 [(7, Value.pointer (some ⟨p43, 0, none⟩)), (6, Value.pointer (some ⟨p31, 0, none⟩)), (5, Value.pointer (some ⟨p25, 0, none⟩)), (4, Value.pointer (some ⟨p12, 0, none⟩)), (3, Value.pointer (some ⟨p10, 0, none⟩)), (2, Value.pointer (some ⟨p8, 0, none⟩)), (1, Value.pointer (some ⟨p6, 0, none⟩)), (0, Value.bool false)] aa := hB.env
                  exact .inr ⟨(wanted_plain rfl _), Does.val (v := Ce.v aC) (rn_load rfl (he.op rfl) (hB.held.1.at (i := 7) rfl)) ⟨Fr.refl _ _, rfl⟩⟩
                refine StepsAll.cons ?_ ?_
                · intro aa ww hB hd
                  have he : Env 248 [(7, Value.pointer (some ⟨p43, 0, none⟩)), (6, Value.pointer (some ⟨p31, 0, none⟩)), (5, Value.pointer (some ⟨p25, 0, none⟩)), (4, Value.pointer (some ⟨p12, 0, none⟩)), (3, Value.pointer (some ⟨p10, 0, none⟩)), (2, Value.pointer (some ⟨p8, 0, none⟩)), (1, Value.pointer (some ⟨p6, 0, none⟩)), (0, Value.bool false)] aa := hB.env
                  exact .inr ⟨(wanted_plain rfl _), Does.val (v := Ce.v wC) (rn_load rfl (he.op rfl) (hB.held.1.at (i := 6) rfl)) ⟨Fr.refl _ _, rfl⟩⟩
                refine StepsAll.cons ?_ ?_
                · intro aa ww hB hd
                  have he : Env 248 [(7, Value.pointer (some ⟨p43, 0, none⟩)), (6, Value.pointer (some ⟨p31, 0, none⟩)), (5, Value.pointer (some ⟨p25, 0, none⟩)), (4, Value.pointer (some ⟨p12, 0, none⟩)), (3, Value.pointer (some ⟨p10, 0, none⟩)), (2, Value.pointer (some ⟨p8, 0, none⟩)), (1, Value.pointer (some ⟨p6, 0, none⟩)), (0, Value.bool false)] aa := hB.env
                  exact .inr ⟨(wanted_plain rfl _), Does.val (v := Ce.v zeroCe) (rn_load rfl (he.op rfl) (hB.held.1.at (i := 5) rfl)) ⟨Fr.refl _ _, rfl⟩⟩
                refine StepsAll.cons ?_ ?_
                · intro aa ww hB hd
                  have he : Env 248 [(7, Value.pointer (some ⟨p43, 0, none⟩)), (6, Value.pointer (some ⟨p31, 0, none⟩)), (5, Value.pointer (some ⟨p25, 0, none⟩)), (4, Value.pointer (some ⟨p12, 0, none⟩)), (3, Value.pointer (some ⟨p10, 0, none⟩)), (2, Value.pointer (some ⟨p8, 0, none⟩)), (1, Value.pointer (some ⟨p6, 0, none⟩)), (0, Value.bool false)] aa := hB.env
                  exact .inr ⟨(wanted_plain rfl _), Does.val (v := Ce.v eC) (rn_load rfl (he.op rfl) (hB.held.1.at (i := 4) rfl)) ⟨Fr.refl _ _, rfl⟩⟩
                refine StepsAll.cons ?_ ?_
                · intro aa ww hB hd
                  have h139 : aa.eval (.tmp 139) = Ce.v aC := hd 0 (by kernel_rfl)
                  have h140 : aa.eval (.tmp 140) = Ce.v wC := hd 1 (by kernel_rfl)
                  have h141 : aa.eval (.tmp 141) = Ce.v zeroCe := hd 2 (by kernel_rfl)
                  have h142 : aa.eval (.tmp 142) = Ce.v eC := hd 3 (by kernel_rfl)
                  have he : Env 248 [(142, Ce.v eC), (141, Ce.v zeroCe), (140, Ce.v wC), (139, Ce.v aC), (7, Value.pointer (some ⟨p43, 0, none⟩)), (6, Value.pointer (some ⟨p31, 0, none⟩)), (5, Value.pointer (some ⟨p25, 0, none⟩)), (4, Value.pointer (some ⟨p12, 0, none⟩)), (3, Value.pointer (some ⟨p10, 0, none⟩)), (2, Value.pointer (some ⟨p8, 0, none⟩)), (1, Value.pointer (some ⟨p6, 0, none⟩)), (0, Value.bool false)] aa := ((((hB.env.add h139).add h140).add h141).add h142)
                  exact .inr ⟨(wanted_plain rfl _), Does.val (rn_bs4 rfl (he.op rfl) (he.op rfl) (he.op rfl) (he.op rfl) ww) ⟨(Fr.refl _ _).alloc _, SlC.mk (rdc_lit ww [aC, wC, zeroCe, eC] _ rfl 4 rfl) (Nat.le_refl _)⟩⟩
                refine StepsAll.cons ?_ ?_
                · intro aa ww hB hd
                  have hx143 : SlC ww (aa.eval (.tmp 143)) [aC, wC, zeroCe, eC] := hd 4 (by kernel_rfl)
                  obtain ⟨x143, h143⟩ : ∃ x, aa.eval (.tmp 143) = x := ⟨_, rfl⟩
                  rw [h143] at hx143
                  have he : Env 248 [(143, x143), (7, Value.pointer (some ⟨p43, 0, none⟩)), (6, Value.pointer (some ⟨p31, 0, none⟩)), (5, Value.pointer (some ⟨p25, 0, none⟩)), (4, Value.pointer (some ⟨p12, 0, none⟩)), (3, Value.pointer (some ⟨p10, 0, none⟩)), (2, Value.pointer (some ⟨p8, 0, none⟩)), (1, Value.pointer (some ⟨p6, 0, none⟩)), (0, Value.bool false)] aa := (hB.env.add h143)
                  exact .inr ⟨(wanted_plain rfl _), does_call Tryd.func37 (by kernel_rfl) rfl rfl (he.args rfl) (hard_any _ _ ww hx143) (fun e_ w_ h_ => h_)⟩
                refine StepsAll.cons ?_ ?_
                · intro aa ww hB hd
                  have he : Env 248 [(7, Value.pointer (some ⟨p43, 0, none⟩)), (6, Value.pointer (some ⟨p31, 0, none⟩)), (5, Value.pointer (some ⟨p25, 0, none⟩)), (4, Value.pointer (some ⟨p12, 0, none⟩)), (3, Value.pointer (some ⟨p10, 0, none⟩)), (2, Value.pointer (some ⟨p8, 0, none⟩)), (1, Value.pointer (some ⟨p6, 0, none⟩)), (0, Value.bool false)] aa := hB.env
                  exact .inr ⟨(wanted_plain rfl _), Does.val (v := Ce.v aC) (rn_load rfl (he.op rfl) (hB.held.1.at (i := 7) rfl)) ⟨Fr.refl _ _, rfl⟩⟩
                refine StepsAll.cons ?_ ?_
                · intro aa ww hB hd
                  have h145 : aa.eval (.tmp 145) = Ce.v aC := hd 6 (by kernel_rfl)
                  have he : Env 248 [(145, Ce.v aC), (7, Value.pointer (some ⟨p43, 0, none⟩)), (6, Value.pointer (some ⟨p31, 0, none⟩)), (5, Value.pointer (some ⟨p25, 0, none⟩)), (4, Value.pointer (some ⟨p12, 0, none⟩)), (3, Value.pointer (some ⟨p10, 0, none⟩)), (2, Value.pointer (some ⟨p8, 0, none⟩)), (1, Value.pointer (some ⟨p6, 0, none⟩)), (0, Value.bool false)] aa := (hB.env.add h145)
                  exact .inr ⟨(wanted_plain rfl _), Does.val (rn_bs1 rfl (he.op rfl) ww) ⟨(Fr.refl _ _).alloc _, SlC.mk (rdc_lit ww [aC] _ rfl 1 rfl) (Nat.le_refl _)⟩⟩
                refine StepsAll.cons ?_ ?_
                · intro aa ww hB hd
                  have hx146 : SlC ww (aa.eval (.tmp 146)) [aC] := hd 7 (by kernel_rfl)
                  obtain ⟨x146, h146⟩ : ∃ x, aa.eval (.tmp 146) = x := ⟨_, rfl⟩
                  rw [h146] at hx146
                  have he : Env 248 [(146, x146), (7, Value.pointer (some ⟨p43, 0, none⟩)), (6, Value.pointer (some ⟨p31, 0, none⟩)), (5, Value.pointer (some ⟨p25, 0, none⟩)), (4, Value.pointer (some ⟨p12, 0, none⟩)), (3, Value.pointer (some ⟨p10, 0, none⟩)), (2, Value.pointer (some ⟨p8, 0, none⟩)), (1, Value.pointer (some ⟨p6, 0, none⟩)), (0, Value.bool false)] aa := (hB.env.add h146)
                  exact .inr ⟨(wanted_plain rfl _), does_call Tryd.func38 (by kernel_rfl) rfl rfl (he.args rfl) (list_any _ _ ww hx146) (fun e_ w_ h_ => h_)⟩
                refine StepsAll.cons ?_ ?_
                · intro aa ww hB hd
                  have he : Env 248 [(7, Value.pointer (some ⟨p43, 0, none⟩)), (6, Value.pointer (some ⟨p31, 0, none⟩)), (5, Value.pointer (some ⟨p25, 0, none⟩)), (4, Value.pointer (some ⟨p12, 0, none⟩)), (3, Value.pointer (some ⟨p10, 0, none⟩)), (2, Value.pointer (some ⟨p8, 0, none⟩)), (1, Value.pointer (some ⟨p6, 0, none⟩)), (0, Value.bool false)] aa := hB.env
                  exact .inr ⟨(wanted_plain rfl _), Does.val (v := Ce.v aC) (rn_load rfl (he.op rfl) (hB.held.1.at (i := 7) rfl)) ⟨Fr.refl _ _, rfl⟩⟩
                refine StepsAll.cons ?_ ?_
                · intro aa ww hB hd
                  have he : Env 248 [(7, Value.pointer (some ⟨p43, 0, none⟩)), (6, Value.pointer (some ⟨p31, 0, none⟩)), (5, Value.pointer (some ⟨p25, 0, none⟩)), (4, Value.pointer (some ⟨p12, 0, none⟩)), (3, Value.pointer (some ⟨p10, 0, none⟩)), (2, Value.pointer (some ⟨p8, 0, none⟩)), (1, Value.pointer (some ⟨p6, 0, none⟩)), (0, Value.bool false)] aa := hB.env
                  exact .inr ⟨(wanted_plain rfl _), Does.val (v := Ce.v eC) (rn_load rfl (he.op rfl) (hB.held.1.at (i := 4) rfl)) ⟨Fr.refl _ _, rfl⟩⟩
                refine StepsAll.cons ?_ ?_
                · intro aa ww hB hd
                  have he : Env 248 [(7, Value.pointer (some ⟨p43, 0, none⟩)), (6, Value.pointer (some ⟨p31, 0, none⟩)), (5, Value.pointer (some ⟨p25, 0, none⟩)), (4, Value.pointer (some ⟨p12, 0, none⟩)), (3, Value.pointer (some ⟨p10, 0, none⟩)), (2, Value.pointer (some ⟨p8, 0, none⟩)), (1, Value.pointer (some ⟨p6, 0, none⟩)), (0, Value.bool false)] aa := hB.env
                  exact .inr ⟨(wanted_plain rfl _), Does.val (v := Ce.v aC) (rn_load rfl (he.op rfl) (hB.held.1.at (i := 7) rfl)) ⟨Fr.refl _ _, rfl⟩⟩
                refine StepsAll.cons ?_ ?_
                · intro aa ww hB hd
                  have he : Env 248 [(7, Value.pointer (some ⟨p43, 0, none⟩)), (6, Value.pointer (some ⟨p31, 0, none⟩)), (5, Value.pointer (some ⟨p25, 0, none⟩)), (4, Value.pointer (some ⟨p12, 0, none⟩)), (3, Value.pointer (some ⟨p10, 0, none⟩)), (2, Value.pointer (some ⟨p8, 0, none⟩)), (1, Value.pointer (some ⟨p6, 0, none⟩)), (0, Value.bool false)] aa := hB.env
                  exact .inr ⟨(wanted_plain rfl _), Does.val (v := Ce.v eC) (rn_load rfl (he.op rfl) (hB.held.1.at (i := 4) rfl)) ⟨Fr.refl _ _, rfl⟩⟩
                refine StepsAll.cons ?_ ?_
                · intro aa ww hB hd
                  have h148 : aa.eval (.tmp 148) = Ce.v aC := hd 9 (by kernel_rfl)
                  have h149 : aa.eval (.tmp 149) = Ce.v eC := hd 10 (by kernel_rfl)
                  have h150 : aa.eval (.tmp 150) = Ce.v aC := hd 11 (by kernel_rfl)
                  have h151 : aa.eval (.tmp 151) = Ce.v eC := hd 12 (by kernel_rfl)
                  have he : Env 248 [(151, Ce.v eC), (150, Ce.v aC), (149, Ce.v eC), (148, Ce.v aC), (7, Value.pointer (some ⟨p43, 0, none⟩)), (6, Value.pointer (some ⟨p31, 0, none⟩)), (5, Value.pointer (some ⟨p25, 0, none⟩)), (4, Value.pointer (some ⟨p12, 0, none⟩)), (3, Value.pointer (some ⟨p10, 0, none⟩)), (2, Value.pointer (some ⟨p8, 0, none⟩)), (1, Value.pointer (some ⟨p6, 0, none⟩)), (0, Value.bool false)] aa := ((((hB.env.add h148).add h149).add h150).add h151)
                  exact .inr ⟨(wanted_plain rfl _), Does.val (rn_bs4 rfl (he.op rfl) (he.op rfl) (he.op rfl) (he.op rfl) ww) ⟨(Fr.refl _ _).alloc _, SlC.mk (rdc_lit ww [aC, eC, aC, eC] _ rfl 4 rfl) (Nat.le_refl _)⟩⟩
                refine StepsAll.cons ?_ ?_
                · intro aa ww hB hd
                  have hx152 : SlC ww (aa.eval (.tmp 152)) [aC, eC, aC, eC] := hd 13 (by kernel_rfl)
                  obtain ⟨x152, h152⟩ : ∃ x, aa.eval (.tmp 152) = x := ⟨_, rfl⟩
                  rw [h152] at hx152
                  have he : Env 248 [(152, x152), (7, Value.pointer (some ⟨p43, 0, none⟩)), (6, Value.pointer (some ⟨p31, 0, none⟩)), (5, Value.pointer (some ⟨p25, 0, none⟩)), (4, Value.pointer (some ⟨p12, 0, none⟩)), (3, Value.pointer (some ⟨p10, 0, none⟩)), (2, Value.pointer (some ⟨p8, 0, none⟩)), (1, Value.pointer (some ⟨p6, 0, none⟩)), (0, Value.bool false)] aa := (hB.env.add h152)
                  exact .inr ⟨(wanted_plain rfl _), does_call Tryd.func37 (by kernel_rfl) rfl rfl (he.args rfl) (hard_any _ _ ww hx152) (fun e_ w_ h_ => h_)⟩
                refine StepsAll.cons ?_ ?_
                · intro aa ww hB hd
                  have hx144 : ∃ x, aa.eval (.tmp 144) = .agg #[x, .bool false] ∧ SlC ww x [aC, wC, zeroCe, eC] := hd 5 (by kernel_rfl)
                  obtain ⟨x144, h144, hx144⟩ := hx144
                  have hx147 : SlC ww (aa.eval (.tmp 147)) [aC] := hd 8 (by kernel_rfl)
                  obtain ⟨x147, h147⟩ : ∃ x, aa.eval (.tmp 147) = x := ⟨_, rfl⟩
                  rw [h147] at hx147
                  have hx153 : ∃ x, aa.eval (.tmp 153) = .agg #[x, .bool false] ∧ SlC ww x [aC, eC, aC, eC] := hd 14 (by kernel_rfl)
                  obtain ⟨x153, h153, hx153⟩ := hx153
                  have he : Env 248 [(153, Value.agg #[x153, Value.bool false]), (147, x147), (144, Value.agg #[x144, Value.bool false]), (7, Value.pointer (some ⟨p43, 0, none⟩)), (6, Value.pointer (some ⟨p31, 0, none⟩)), (5, Value.pointer (some ⟨p25, 0, none⟩)), (4, Value.pointer (some ⟨p12, 0, none⟩)), (3, Value.pointer (some ⟨p10, 0, none⟩)), (2, Value.pointer (some ⟨p8, 0, none⟩)), (1, Value.pointer (some ⟨p6, 0, none⟩)), (0, Value.bool false)] aa := (((hB.env.add h144).add h147).add h153)
                  exact .inr ⟨(wanted_plain rfl _), does_call Tryd.func39 (by kernel_rfl) rfl rfl (he.args rfl) (puts_s _ [aC, wC, zeroCe, eC] false 2 (by decide) (by decide) _ [aC] _ [aC, eC, aC, eC] false 0 true kn31 (by decide) (by decide) (by decide) ww hx144 hx147 hx153 hB.held.2) (fun e_ w_ h_ => ⟨_, h_.1, h_.2, rfl⟩)⟩
                refine StepsAll.cons ?_ ?_
                · intro aa ww hB hd
                  have h154 : aa.eval (.tmp 154) = Value.bool true := hd 15 (by kernel_rfl)
                  have he : Env 248 [(154, Value.bool true), (7, Value.pointer (some ⟨p43, 0, none⟩)), (6, Value.pointer (some ⟨p31, 0, none⟩)), (5, Value.pointer (some ⟨p25, 0, none⟩)), (4, Value.pointer (some ⟨p12, 0, none⟩)), (3, Value.pointer (some ⟨p10, 0, none⟩)), (2, Value.pointer (some ⟨p8, 0, none⟩)), (1, Value.pointer (some ⟨p6, 0, none⟩)), (0, Value.bool false)] aa := (hB.env.add h154)
                  exact .inr ⟨(wanted_plain rfl _), Does.val (v := Value.bool false) (rn_not (b := true) rfl (he.op rfl) ww) ⟨Fr.refl _ _, rfl⟩⟩
                refine StepsAll.cons ?_ ?_
                · intro aa ww hB hd
                  have h155 : aa.eval (.tmp 155) = Value.bool false := hd 16 (by kernel_rfl)
                  have he : Env 248 [(155, Value.bool false), (7, Value.pointer (some ⟨p43, 0, none⟩)), (6, Value.pointer (some ⟨p31, 0, none⟩)), (5, Value.pointer (some ⟨p25, 0, none⟩)), (4, Value.pointer (some ⟨p12, 0, none⟩)), (3, Value.pointer (some ⟨p10, 0, none⟩)), (2, Value.pointer (some ⟨p8, 0, none⟩)), (1, Value.pointer (some ⟨p6, 0, none⟩)), (0, Value.bool false)] aa := (hB.env.add h155)
                  exact .inr ⟨(wanted_plain rfl _), Does.val (v := Value.bool false) (rn_mv rfl (he.op rfl) ww) ⟨Fr.refl _ _, rfl⟩⟩
                refine StepsAll.cons ?_ ?_
                · intro aa ww hB hd
                  have h156 : aa.eval (.tmp 156) = Value.bool false := hd 17 (by kernel_rfl)
                  have he : Env 248 [(156, Value.bool false), (7, Value.pointer (some ⟨p43, 0, none⟩)), (6, Value.pointer (some ⟨p31, 0, none⟩)), (5, Value.pointer (some ⟨p25, 0, none⟩)), (4, Value.pointer (some ⟨p12, 0, none⟩)), (3, Value.pointer (some ⟨p10, 0, none⟩)), (2, Value.pointer (some ⟨p8, 0, none⟩)), (1, Value.pointer (some ⟨p6, 0, none⟩)), (0, Value.bool false)] aa := (hB.env.add h156)
                  exact .inr ⟨(he.want rfl rfl rfl rfl rfl), Does.val (v := Ce.v wC) (rn_load rfl (he.op rfl) (hB.held.1.at (i := 6) rfl)) ⟨Fr.refl _ _, rfl⟩⟩
                refine StepsAll.cons ?_ ?_
                · intro aa ww hB hd
                  have h156 : aa.eval (.tmp 156) = Value.bool false := hd 17 (by kernel_rfl)
                  have he : Env 248 [(156, Value.bool false), (7, Value.pointer (some ⟨p43, 0, none⟩)), (6, Value.pointer (some ⟨p31, 0, none⟩)), (5, Value.pointer (some ⟨p25, 0, none⟩)), (4, Value.pointer (some ⟨p12, 0, none⟩)), (3, Value.pointer (some ⟨p10, 0, none⟩)), (2, Value.pointer (some ⟨p8, 0, none⟩)), (1, Value.pointer (some ⟨p6, 0, none⟩)), (0, Value.bool false)] aa := (hB.env.add h156)
                  exact .inr ⟨(he.want rfl rfl rfl rfl rfl), Does.val (v := Ce.v zeroCe) (rn_load rfl (he.op rfl) (hB.held.1.at (i := 5) rfl)) ⟨Fr.refl _ _, rfl⟩⟩
                refine StepsAll.cons ?_ ?_
                · intro aa ww hB hd
                  have h156 : aa.eval (.tmp 156) = Value.bool false := hd 17 (by kernel_rfl)
                  have he : Env 248 [(156, Value.bool false), (7, Value.pointer (some ⟨p43, 0, none⟩)), (6, Value.pointer (some ⟨p31, 0, none⟩)), (5, Value.pointer (some ⟨p25, 0, none⟩)), (4, Value.pointer (some ⟨p12, 0, none⟩)), (3, Value.pointer (some ⟨p10, 0, none⟩)), (2, Value.pointer (some ⟨p8, 0, none⟩)), (1, Value.pointer (some ⟨p6, 0, none⟩)), (0, Value.bool false)] aa := (hB.env.add h156)
                  exact .inr ⟨(he.want rfl rfl rfl rfl rfl), Does.val (v := Ce.v wC) (rn_load rfl (he.op rfl) (hB.held.1.at (i := 6) rfl)) ⟨Fr.refl _ _, rfl⟩⟩
                refine StepsAll.cons ?_ ?_
                · intro aa ww hB hd
                  have h156 : aa.eval (.tmp 156) = Value.bool false := hd 17 (by kernel_rfl)
                  have he : Env 248 [(156, Value.bool false), (7, Value.pointer (some ⟨p43, 0, none⟩)), (6, Value.pointer (some ⟨p31, 0, none⟩)), (5, Value.pointer (some ⟨p25, 0, none⟩)), (4, Value.pointer (some ⟨p12, 0, none⟩)), (3, Value.pointer (some ⟨p10, 0, none⟩)), (2, Value.pointer (some ⟨p8, 0, none⟩)), (1, Value.pointer (some ⟨p6, 0, none⟩)), (0, Value.bool false)] aa := (hB.env.add h156)
                  exact .inr ⟨(he.want rfl rfl rfl rfl rfl), Does.val (v := Ce.v zeroCe) (rn_load rfl (he.op rfl) (hB.held.1.at (i := 5) rfl)) ⟨Fr.refl _ _, rfl⟩⟩
                refine StepsAll.cons ?_ ?_
                · intro aa ww hB hd
                  have h157 : aa.eval (.tmp 157) = Ce.v wC := hd 18 (by kernel_rfl)
                  have h158 : aa.eval (.tmp 158) = Ce.v zeroCe := hd 19 (by kernel_rfl)
                  have h159 : aa.eval (.tmp 159) = Ce.v wC := hd 20 (by kernel_rfl)
                  have h160 : aa.eval (.tmp 160) = Ce.v zeroCe := hd 21 (by kernel_rfl)
                  have h156 : aa.eval (.tmp 156) = Value.bool false := hd 17 (by kernel_rfl)
                  have he : Env 248 [(156, Value.bool false), (160, Ce.v zeroCe), (159, Ce.v wC), (158, Ce.v zeroCe), (157, Ce.v wC), (7, Value.pointer (some ⟨p43, 0, none⟩)), (6, Value.pointer (some ⟨p31, 0, none⟩)), (5, Value.pointer (some ⟨p25, 0, none⟩)), (4, Value.pointer (some ⟨p12, 0, none⟩)), (3, Value.pointer (some ⟨p10, 0, none⟩)), (2, Value.pointer (some ⟨p8, 0, none⟩)), (1, Value.pointer (some ⟨p6, 0, none⟩)), (0, Value.bool false)] aa := (((((hB.env.add h157).add h158).add h159).add h160).add h156)
                  exact .inr ⟨(he.want rfl rfl rfl rfl rfl), Does.val (rn_bs4 rfl (he.op rfl) (he.op rfl) (he.op rfl) (he.op rfl) ww) ⟨(Fr.refl _ _).alloc _, SlC.mk (rdc_lit ww [wC, zeroCe, wC, zeroCe] _ rfl 4 rfl) (Nat.le_refl _)⟩⟩
                refine StepsAll.cons ?_ ?_
                · intro aa ww hB hd
                  have hx161 : SlC ww (aa.eval (.tmp 161)) [wC, zeroCe, wC, zeroCe] := hd 22 (by kernel_rfl)
                  obtain ⟨x161, h161⟩ : ∃ x, aa.eval (.tmp 161) = x := ⟨_, rfl⟩
                  rw [h161] at hx161
                  have h156 : aa.eval (.tmp 156) = Value.bool false := hd 17 (by kernel_rfl)
                  have he : Env 248 [(156, Value.bool false), (161, x161), (7, Value.pointer (some ⟨p43, 0, none⟩)), (6, Value.pointer (some ⟨p31, 0, none⟩)), (5, Value.pointer (some ⟨p25, 0, none⟩)), (4, Value.pointer (some ⟨p12, 0, none⟩)), (3, Value.pointer (some ⟨p10, 0, none⟩)), (2, Value.pointer (some ⟨p8, 0, none⟩)), (1, Value.pointer (some ⟨p6, 0, none⟩)), (0, Value.bool false)] aa := ((hB.env.add h161).add h156)
                  exact .inr ⟨(he.want rfl rfl rfl rfl rfl), does_call Tryd.func37 (by kernel_rfl) rfl rfl (he.args rfl) (hard_any _ _ ww hx161) (fun e_ w_ h_ => h_)⟩
                refine StepsAll.cons ?_ ?_
                · intro aa ww hB hd
                  have h156 : aa.eval (.tmp 156) = Value.bool false := hd 17 (by kernel_rfl)
                  have he : Env 248 [(156, Value.bool false), (7, Value.pointer (some ⟨p43, 0, none⟩)), (6, Value.pointer (some ⟨p31, 0, none⟩)), (5, Value.pointer (some ⟨p25, 0, none⟩)), (4, Value.pointer (some ⟨p12, 0, none⟩)), (3, Value.pointer (some ⟨p10, 0, none⟩)), (2, Value.pointer (some ⟨p8, 0, none⟩)), (1, Value.pointer (some ⟨p6, 0, none⟩)), (0, Value.bool false)] aa := (hB.env.add h156)
                  exact .inr ⟨(he.want rfl rfl rfl rfl rfl), Does.val (v := Ce.v aC) (rn_load rfl (he.op rfl) (hB.held.1.at (i := 7) rfl)) ⟨Fr.refl _ _, rfl⟩⟩
                refine StepsAll.cons ?_ ?_
                · intro aa ww hB hd
                  have h156 : aa.eval (.tmp 156) = Value.bool false := hd 17 (by kernel_rfl)
                  have he : Env 248 [(156, Value.bool false), (7, Value.pointer (some ⟨p43, 0, none⟩)), (6, Value.pointer (some ⟨p31, 0, none⟩)), (5, Value.pointer (some ⟨p25, 0, none⟩)), (4, Value.pointer (some ⟨p12, 0, none⟩)), (3, Value.pointer (some ⟨p10, 0, none⟩)), (2, Value.pointer (some ⟨p8, 0, none⟩)), (1, Value.pointer (some ⟨p6, 0, none⟩)), (0, Value.bool false)] aa := (hB.env.add h156)
                  exact .inr ⟨(he.want rfl rfl rfl rfl rfl), Does.val (v := Ce.v aC) (rn_load rfl (he.op rfl) (hB.held.1.at (i := 7) rfl)) ⟨Fr.refl _ _, rfl⟩⟩
                refine StepsAll.cons ?_ ?_
                · intro aa ww hB hd
                  have h163 : aa.eval (.tmp 163) = Ce.v aC := hd 24 (by kernel_rfl)
                  have h164 : aa.eval (.tmp 164) = Ce.v aC := hd 25 (by kernel_rfl)
                  have h156 : aa.eval (.tmp 156) = Value.bool false := hd 17 (by kernel_rfl)
                  have he : Env 248 [(156, Value.bool false), (164, Ce.v aC), (163, Ce.v aC), (7, Value.pointer (some ⟨p43, 0, none⟩)), (6, Value.pointer (some ⟨p31, 0, none⟩)), (5, Value.pointer (some ⟨p25, 0, none⟩)), (4, Value.pointer (some ⟨p12, 0, none⟩)), (3, Value.pointer (some ⟨p10, 0, none⟩)), (2, Value.pointer (some ⟨p8, 0, none⟩)), (1, Value.pointer (some ⟨p6, 0, none⟩)), (0, Value.bool false)] aa := (((hB.env.add h163).add h164).add h156)
                  exact .inr ⟨(he.want rfl rfl rfl rfl rfl), Does.val (rn_bs2 rfl (he.op rfl) (he.op rfl) ww) ⟨(Fr.refl _ _).alloc _, SlC.mk (rdc_lit ww [aC, aC] _ rfl 2 rfl) (Nat.le_refl _)⟩⟩
                refine StepsAll.cons ?_ ?_
                · intro aa ww hB hd
                  have hx165 : SlC ww (aa.eval (.tmp 165)) [aC, aC] := hd 26 (by kernel_rfl)
                  obtain ⟨x165, h165⟩ : ∃ x, aa.eval (.tmp 165) = x := ⟨_, rfl⟩
                  rw [h165] at hx165
                  have h156 : aa.eval (.tmp 156) = Value.bool false := hd 17 (by kernel_rfl)
                  have he : Env 248 [(156, Value.bool false), (165, x165), (7, Value.pointer (some ⟨p43, 0, none⟩)), (6, Value.pointer (some ⟨p31, 0, none⟩)), (5, Value.pointer (some ⟨p25, 0, none⟩)), (4, Value.pointer (some ⟨p12, 0, none⟩)), (3, Value.pointer (some ⟨p10, 0, none⟩)), (2, Value.pointer (some ⟨p8, 0, none⟩)), (1, Value.pointer (some ⟨p6, 0, none⟩)), (0, Value.bool false)] aa := ((hB.env.add h165).add h156)
                  exact .inr ⟨(he.want rfl rfl rfl rfl rfl), does_call Tryd.func38 (by kernel_rfl) rfl rfl (he.args rfl) (list_any _ _ ww hx165) (fun e_ w_ h_ => h_)⟩
                refine StepsAll.cons ?_ ?_
                · intro aa ww hB hd
                  have h156 : aa.eval (.tmp 156) = Value.bool false := hd 17 (by kernel_rfl)
                  have he : Env 248 [(156, Value.bool false), (7, Value.pointer (some ⟨p43, 0, none⟩)), (6, Value.pointer (some ⟨p31, 0, none⟩)), (5, Value.pointer (some ⟨p25, 0, none⟩)), (4, Value.pointer (some ⟨p12, 0, none⟩)), (3, Value.pointer (some ⟨p10, 0, none⟩)), (2, Value.pointer (some ⟨p8, 0, none⟩)), (1, Value.pointer (some ⟨p6, 0, none⟩)), (0, Value.bool false)] aa := (hB.env.add h156)
                  exact .inr ⟨(he.want rfl rfl rfl rfl rfl), Does.val (v := Ce.v eC) (rn_load rfl (he.op rfl) (hB.held.1.at (i := 4) rfl)) ⟨Fr.refl _ _, rfl⟩⟩
                refine StepsAll.cons ?_ ?_
                · intro aa ww hB hd
                  have h156 : aa.eval (.tmp 156) = Value.bool false := hd 17 (by kernel_rfl)
                  have he : Env 248 [(156, Value.bool false), (7, Value.pointer (some ⟨p43, 0, none⟩)), (6, Value.pointer (some ⟨p31, 0, none⟩)), (5, Value.pointer (some ⟨p25, 0, none⟩)), (4, Value.pointer (some ⟨p12, 0, none⟩)), (3, Value.pointer (some ⟨p10, 0, none⟩)), (2, Value.pointer (some ⟨p8, 0, none⟩)), (1, Value.pointer (some ⟨p6, 0, none⟩)), (0, Value.bool false)] aa := (hB.env.add h156)
                  exact .inr ⟨(he.want rfl rfl rfl rfl rfl), Does.val (v := Ce.v aC) (rn_load rfl (he.op rfl) (hB.held.1.at (i := 7) rfl)) ⟨Fr.refl _ _, rfl⟩⟩
                refine StepsAll.cons ?_ ?_
                · intro aa ww hB hd
                  have h156 : aa.eval (.tmp 156) = Value.bool false := hd 17 (by kernel_rfl)
                  have he : Env 248 [(156, Value.bool false), (7, Value.pointer (some ⟨p43, 0, none⟩)), (6, Value.pointer (some ⟨p31, 0, none⟩)), (5, Value.pointer (some ⟨p25, 0, none⟩)), (4, Value.pointer (some ⟨p12, 0, none⟩)), (3, Value.pointer (some ⟨p10, 0, none⟩)), (2, Value.pointer (some ⟨p8, 0, none⟩)), (1, Value.pointer (some ⟨p6, 0, none⟩)), (0, Value.bool false)] aa := (hB.env.add h156)
                  exact .inr ⟨(he.want rfl rfl rfl rfl rfl), Does.val (v := Ce.v aC) (rn_load rfl (he.op rfl) (hB.held.1.at (i := 7) rfl)) ⟨Fr.refl _ _, rfl⟩⟩
                refine StepsAll.cons ?_ ?_
                · intro aa ww hB hd
                  have h156 : aa.eval (.tmp 156) = Value.bool false := hd 17 (by kernel_rfl)
                  have he : Env 248 [(156, Value.bool false), (7, Value.pointer (some ⟨p43, 0, none⟩)), (6, Value.pointer (some ⟨p31, 0, none⟩)), (5, Value.pointer (some ⟨p25, 0, none⟩)), (4, Value.pointer (some ⟨p12, 0, none⟩)), (3, Value.pointer (some ⟨p10, 0, none⟩)), (2, Value.pointer (some ⟨p8, 0, none⟩)), (1, Value.pointer (some ⟨p6, 0, none⟩)), (0, Value.bool false)] aa := (hB.env.add h156)
                  exact .inr ⟨(he.want rfl rfl rfl rfl rfl), Does.val (v := Ce.v eC) (rn_load rfl (he.op rfl) (hB.held.1.at (i := 4) rfl)) ⟨Fr.refl _ _, rfl⟩⟩
                refine StepsAll.cons ?_ ?_
                · intro aa ww hB hd
                  have h167 : aa.eval (.tmp 167) = Ce.v eC := hd 28 (by kernel_rfl)
                  have h168 : aa.eval (.tmp 168) = Ce.v aC := hd 29 (by kernel_rfl)
                  have h169 : aa.eval (.tmp 169) = Ce.v aC := hd 30 (by kernel_rfl)
                  have h170 : aa.eval (.tmp 170) = Ce.v eC := hd 31 (by kernel_rfl)
                  have h156 : aa.eval (.tmp 156) = Value.bool false := hd 17 (by kernel_rfl)
                  have he : Env 248 [(156, Value.bool false), (170, Ce.v eC), (169, Ce.v aC), (168, Ce.v aC), (167, Ce.v eC), (7, Value.pointer (some ⟨p43, 0, none⟩)), (6, Value.pointer (some ⟨p31, 0, none⟩)), (5, Value.pointer (some ⟨p25, 0, none⟩)), (4, Value.pointer (some ⟨p12, 0, none⟩)), (3, Value.pointer (some ⟨p10, 0, none⟩)), (2, Value.pointer (some ⟨p8, 0, none⟩)), (1, Value.pointer (some ⟨p6, 0, none⟩)), (0, Value.bool false)] aa := (((((hB.env.add h167).add h168).add h169).add h170).add h156)
                  exact .inr ⟨(he.want rfl rfl rfl rfl rfl), Does.val (rn_bs4 rfl (he.op rfl) (he.op rfl) (he.op rfl) (he.op rfl) ww) ⟨(Fr.refl _ _).alloc _, SlC.mk (rdc_lit ww [eC, aC, aC, eC] _ rfl 4 rfl) (Nat.le_refl _)⟩⟩
                refine StepsAll.cons ?_ ?_
                · intro aa ww hB hd
                  have hx171 : SlC ww (aa.eval (.tmp 171)) [eC, aC, aC, eC] := hd 32 (by kernel_rfl)
                  obtain ⟨x171, h171⟩ : ∃ x, aa.eval (.tmp 171) = x := ⟨_, rfl⟩
                  rw [h171] at hx171
                  have h156 : aa.eval (.tmp 156) = Value.bool false := hd 17 (by kernel_rfl)
                  have he : Env 248 [(156, Value.bool false), (171, x171), (7, Value.pointer (some ⟨p43, 0, none⟩)), (6, Value.pointer (some ⟨p31, 0, none⟩)), (5, Value.pointer (some ⟨p25, 0, none⟩)), (4, Value.pointer (some ⟨p12, 0, none⟩)), (3, Value.pointer (some ⟨p10, 0, none⟩)), (2, Value.pointer (some ⟨p8, 0, none⟩)), (1, Value.pointer (some ⟨p6, 0, none⟩)), (0, Value.bool false)] aa := ((hB.env.add h171).add h156)
                  exact .inr ⟨(he.want rfl rfl rfl rfl rfl), does_call Tryd.func37 (by kernel_rfl) rfl rfl (he.args rfl) (hard_any _ _ ww hx171) (fun e_ w_ h_ => h_)⟩
                refine StepsAll.cons ?_ ?_
                · intro aa ww hB hd
                  have hx162 : ∃ x, aa.eval (.tmp 162) = .agg #[x, .bool false] ∧ SlC ww x [wC, zeroCe, wC, zeroCe] := hd 23 (by kernel_rfl)
                  obtain ⟨x162, h162, hx162⟩ := hx162
                  have hx166 : SlC ww (aa.eval (.tmp 166)) [aC, aC] := hd 27 (by kernel_rfl)
                  obtain ⟨x166, h166⟩ : ∃ x, aa.eval (.tmp 166) = x := ⟨_, rfl⟩
                  rw [h166] at hx166
                  have hx172 : ∃ x, aa.eval (.tmp 172) = .agg #[x, .bool false] ∧ SlC ww x [eC, aC, aC, eC] := hd 33 (by kernel_rfl)
                  obtain ⟨x172, h172, hx172⟩ := hx172
                  have h156 : aa.eval (.tmp 156) = Value.bool false := hd 17 (by kernel_rfl)
                  have he : Env 248 [(156, Value.bool false), (172, Value.agg #[x172, Value.bool false]), (166, x166), (162, Value.agg #[x162, Value.bool false]), (7, Value.pointer (some ⟨p43, 0, none⟩)), (6, Value.pointer (some ⟨p31, 0, none⟩)), (5, Value.pointer (some ⟨p25, 0, none⟩)), (4, Value.pointer (some ⟨p12, 0, none⟩)), (3, Value.pointer (some ⟨p10, 0, none⟩)), (2, Value.pointer (some ⟨p8, 0, none⟩)), (1, Value.pointer (some ⟨p6, 0, none⟩)), (0, Value.bool false)] aa := ((((hB.env.add h162).add h166).add h172).add h156)
                  exact .inr ⟨(he.want rfl rfl rfl rfl rfl), does_call Tryd.func39 (by kernel_rfl) rfl rfl (he.args rfl) (puts_s _ [wC, zeroCe, wC, zeroCe] false 1 (by decide) (by decide) _ [aC, aC] _ [eC, aC, aC, eC] false 0 true kn35 (by decide) (by decide) (by decide) ww hx162 hx166 hx172 hB.held.2) (fun e_ w_ h_ => ⟨_, h_.1, h_.2, rfl⟩)⟩
                refine StepsAll.cons ?_ ?_
                · intro aa ww hB hd
                  have h173 : aa.eval (.tmp 173) = Value.bool true := hd 34 (by kernel_rfl)
                  have h156 : aa.eval (.tmp 156) = Value.bool false := hd 17 (by kernel_rfl)
                  have he : Env 248 [(156, Value.bool false), (173, Value.bool true), (7, Value.pointer (some ⟨p43, 0, none⟩)), (6, Value.pointer (some ⟨p31, 0, none⟩)), (5, Value.pointer (some ⟨p25, 0, none⟩)), (4, Value.pointer (some ⟨p12, 0, none⟩)), (3, Value.pointer (some ⟨p10, 0, none⟩)), (2, Value.pointer (some ⟨p8, 0, none⟩)), (1, Value.pointer (some ⟨p6, 0, none⟩)), (0, Value.bool false)] aa := ((hB.env.add h173).add h156)
                  exact .inr ⟨(he.want rfl rfl rfl rfl rfl), Does.val (v := Value.bool false) (rn_not (b := true) rfl (he.op rfl) ww) ⟨Fr.refl _ _, rfl⟩⟩
                refine StepsAll.cons ?_ ?_
                · intro aa ww hB hd
                  have h156 : aa.eval (.tmp 156) = Value.bool false := hd 17 (by kernel_rfl)
                  have h174 : aa.eval (.tmp 174) = Value.bool false := hd 35 (by kernel_rfl)
                  have he : Env 248 [(174, Value.bool false), (156, Value.bool false), (7, Value.pointer (some ⟨p43, 0, none⟩)), (6, Value.pointer (some ⟨p31, 0, none⟩)), (5, Value.pointer (some ⟨p25, 0, none⟩)), (4, Value.pointer (some ⟨p12, 0, none⟩)), (3, Value.pointer (some ⟨p10, 0, none⟩)), (2, Value.pointer (some ⟨p8, 0, none⟩)), (1, Value.pointer (some ⟨p6, 0, none⟩)), (0, Value.bool false)] aa := ((hB.env.add h156).add h174)
                  exact .inr ⟨(wanted_plain rfl _), Does.val (v := Value.bool false) (rn_pk0 rfl (he.op rfl) (he.op rfl) ww) ⟨Fr.refl _ _, rfl⟩⟩
                refine StepsAll.cons ?_ ?_
                · intro aa ww hB hd
                  have h175 : aa.eval (.tmp 175) = Value.bool false := hd 36 (by kernel_rfl)
                  have he : Env 248 [(175, Value.bool false), (7, Value.pointer (some ⟨p43, 0, none⟩)), (6, Value.pointer (some ⟨p31, 0, none⟩)), (5, Value.pointer (some ⟨p25, 0, none⟩)), (4, Value.pointer (some ⟨p12, 0, none⟩)), (3, Value.pointer (some ⟨p10, 0, none⟩)), (2, Value.pointer (some ⟨p8, 0, none⟩)), (1, Value.pointer (some ⟨p6, 0, none⟩)), (0, Value.bool false)] aa := (hB.env.add h175)
                  exact .inr ⟨(wanted_plain rfl _), Does.val (v := Value.bool false) (rn_mv rfl (he.op rfl) ww) ⟨Fr.refl _ _, rfl⟩⟩
                refine StepsAll.cons ?_ ?_
                · intro aa ww hB hd
                  have h176 : aa.eval (.tmp 176) = Value.bool false := hd 37 (by kernel_rfl)
                  have he : Env 248 [(176, Value.bool false), (7, Value.pointer (some ⟨p43, 0, none⟩)), (6, Value.pointer (some ⟨p31, 0, none⟩)), (5, Value.pointer (some ⟨p25, 0, none⟩)), (4, Value.pointer (some ⟨p12, 0, none⟩)), (3, Value.pointer (some ⟨p10, 0, none⟩)), (2, Value.pointer (some ⟨p8, 0, none⟩)), (1, Value.pointer (some ⟨p6, 0, none⟩)), (0, Value.bool false)] aa := (hB.env.add h176)
                  exact .inr ⟨(he.want rfl rfl rfl rfl rfl), Does.val (v := Ce.v aC) (rn_load rfl (he.op rfl) (hB.held.1.at (i := 7) rfl)) ⟨Fr.refl _ _, rfl⟩⟩
                refine StepsAll.cons ?_ ?_
                · intro aa ww hB hd
                  have h176 : aa.eval (.tmp 176) = Value.bool false := hd 37 (by kernel_rfl)
                  have he : Env 248 [(176, Value.bool false), (7, Value.pointer (some ⟨p43, 0, none⟩)), (6, Value.pointer (some ⟨p31, 0, none⟩)), (5, Value.pointer (some ⟨p25, 0, none⟩)), (4, Value.pointer (some ⟨p12, 0, none⟩)), (3, Value.pointer (some ⟨p10, 0, none⟩)), (2, Value.pointer (some ⟨p8, 0, none⟩)), (1, Value.pointer (some ⟨p6, 0, none⟩)), (0, Value.bool false)] aa := (hB.env.add h176)
                  exact .inr ⟨(he.want rfl rfl rfl rfl rfl), Does.val (v := Ce.v eC) (rn_load rfl (he.op rfl) (hB.held.1.at (i := 4) rfl)) ⟨Fr.refl _ _, rfl⟩⟩
                refine StepsAll.cons ?_ ?_
                · intro aa ww hB hd
                  have h177 : aa.eval (.tmp 177) = Ce.v aC := hd 38 (by kernel_rfl)
                  have h178 : aa.eval (.tmp 178) = Ce.v eC := hd 39 (by kernel_rfl)
                  have h176 : aa.eval (.tmp 176) = Value.bool false := hd 37 (by kernel_rfl)
                  have he : Env 248 [(176, Value.bool false), (178, Ce.v eC), (177, Ce.v aC), (7, Value.pointer (some ⟨p43, 0, none⟩)), (6, Value.pointer (some ⟨p31, 0, none⟩)), (5, Value.pointer (some ⟨p25, 0, none⟩)), (4, Value.pointer (some ⟨p12, 0, none⟩)), (3, Value.pointer (some ⟨p10, 0, none⟩)), (2, Value.pointer (some ⟨p8, 0, none⟩)), (1, Value.pointer (some ⟨p6, 0, none⟩)), (0, Value.bool false)] aa := (((hB.env.add h177).add h178).add h176)
                  exact .inr ⟨(he.want rfl rfl rfl rfl rfl), Does.val (rn_bs2 rfl (he.op rfl) (he.op rfl) ww) ⟨(Fr.refl _ _).alloc _, SlC.mk (rdc_lit ww [aC, eC] _ rfl 2 rfl) (Nat.le_refl _)⟩⟩
                refine StepsAll.cons ?_ ?_
                · intro aa ww hB hd
                  have hx179 : SlC ww (aa.eval (.tmp 179)) [aC, eC] := hd 40 (by kernel_rfl)
                  obtain ⟨x179, h179⟩ : ∃ x, aa.eval (.tmp 179) = x := ⟨_, rfl⟩
                  rw [h179] at hx179
                  have h176 : aa.eval (.tmp 176) = Value.bool false := hd 37 (by kernel_rfl)
                  have he : Env 248 [(176, Value.bool false), (179, x179), (7, Value.pointer (some ⟨p43, 0, none⟩)), (6, Value.pointer (some ⟨p31, 0, none⟩)), (5, Value.pointer (some ⟨p25, 0, none⟩)), (4, Value.pointer (some ⟨p12, 0, none⟩)), (3, Value.pointer (some ⟨p10, 0, none⟩)), (2, Value.pointer (some ⟨p8, 0, none⟩)), (1, Value.pointer (some ⟨p6, 0, none⟩)), (0, Value.bool false)] aa := ((hB.env.add h179).add h176)
                  exact .inr ⟨(he.want rfl rfl rfl rfl rfl), does_call Tryd.func37 (by kernel_rfl) rfl rfl (he.args rfl) (hard_any _ _ ww hx179) (fun e_ w_ h_ => h_)⟩
                refine StepsAll.cons ?_ ?_
                · intro aa ww hB hd
                  have h176 : aa.eval (.tmp 176) = Value.bool false := hd 37 (by kernel_rfl)
                  have he : Env 248 [(176, Value.bool false), (7, Value.pointer (some ⟨p43, 0, none⟩)), (6, Value.pointer (some ⟨p31, 0, none⟩)), (5, Value.pointer (some ⟨p25, 0, none⟩)), (4, Value.pointer (some ⟨p12, 0, none⟩)), (3, Value.pointer (some ⟨p10, 0, none⟩)), (2, Value.pointer (some ⟨p8, 0, none⟩)), (1, Value.pointer (some ⟨p6, 0, none⟩)), (0, Value.bool false)] aa := (hB.env.add h176)
                  exact .inr ⟨(he.want rfl rfl rfl rfl rfl), Does.val (v := Ce.v wC) (rn_load rfl (he.op rfl) (hB.held.1.at (i := 6) rfl)) ⟨Fr.refl _ _, rfl⟩⟩
                refine StepsAll.cons ?_ ?_
                · intro aa ww hB hd
                  have h176 : aa.eval (.tmp 176) = Value.bool false := hd 37 (by kernel_rfl)
                  have he : Env 248 [(176, Value.bool false), (7, Value.pointer (some ⟨p43, 0, none⟩)), (6, Value.pointer (some ⟨p31, 0, none⟩)), (5, Value.pointer (some ⟨p25, 0, none⟩)), (4, Value.pointer (some ⟨p12, 0, none⟩)), (3, Value.pointer (some ⟨p10, 0, none⟩)), (2, Value.pointer (some ⟨p8, 0, none⟩)), (1, Value.pointer (some ⟨p6, 0, none⟩)), (0, Value.bool false)] aa := (hB.env.add h176)
                  exact .inr ⟨(he.want rfl rfl rfl rfl rfl), Does.val (v := Ce.v zeroCe) (rn_load rfl (he.op rfl) (hB.held.1.at (i := 5) rfl)) ⟨Fr.refl _ _, rfl⟩⟩
                refine StepsAll.cons ?_ ?_
                · intro aa ww hB hd
                  have h181 : aa.eval (.tmp 181) = Ce.v wC := hd 42 (by kernel_rfl)
                  have h182 : aa.eval (.tmp 182) = Ce.v zeroCe := hd 43 (by kernel_rfl)
                  have h176 : aa.eval (.tmp 176) = Value.bool false := hd 37 (by kernel_rfl)
                  have he : Env 248 [(176, Value.bool false), (182, Ce.v zeroCe), (181, Ce.v wC), (7, Value.pointer (some ⟨p43, 0, none⟩)), (6, Value.pointer (some ⟨p31, 0, none⟩)), (5, Value.pointer (some ⟨p25, 0, none⟩)), (4, Value.pointer (some ⟨p12, 0, none⟩)), (3, Value.pointer (some ⟨p10, 0, none⟩)), (2, Value.pointer (some ⟨p8, 0, none⟩)), (1, Value.pointer (some ⟨p6, 0, none⟩)), (0, Value.bool false)] aa := (((hB.env.add h181).add h182).add h176)
                  exact .inr ⟨(he.want rfl rfl rfl rfl rfl), Does.val (rn_bs2 rfl (he.op rfl) (he.op rfl) ww) ⟨(Fr.refl _ _).alloc _, SlC.mk (rdc_lit ww [wC, zeroCe] _ rfl 2 rfl) (Nat.le_refl _)⟩⟩
                refine StepsAll.cons ?_ ?_
                · intro aa ww hB hd
                  have hx183 : SlC ww (aa.eval (.tmp 183)) [wC, zeroCe] := hd 44 (by kernel_rfl)
                  obtain ⟨x183, h183⟩ : ∃ x, aa.eval (.tmp 183) = x := ⟨_, rfl⟩
                  rw [h183] at hx183
                  have h176 : aa.eval (.tmp 176) = Value.bool false := hd 37 (by kernel_rfl)
                  have he : Env 248 [(176, Value.bool false), (183, x183), (7, Value.pointer (some ⟨p43, 0, none⟩)), (6, Value.pointer (some ⟨p31, 0, none⟩)), (5, Value.pointer (some ⟨p25, 0, none⟩)), (4, Value.pointer (some ⟨p12, 0, none⟩)), (3, Value.pointer (some ⟨p10, 0, none⟩)), (2, Value.pointer (some ⟨p8, 0, none⟩)), (1, Value.pointer (some ⟨p6, 0, none⟩)), (0, Value.bool false)] aa := ((hB.env.add h183).add h176)
                  exact .inr ⟨(he.want rfl rfl rfl rfl rfl), does_call Tryd.func38 (by kernel_rfl) rfl rfl (he.args rfl) (list_any _ _ ww hx183) (fun e_ w_ h_ => h_)⟩
                refine StepsAll.cons ?_ ?_
                · intro aa ww hB hd
                  have h176 : aa.eval (.tmp 176) = Value.bool false := hd 37 (by kernel_rfl)
                  have he : Env 248 [(176, Value.bool false), (7, Value.pointer (some ⟨p43, 0, none⟩)), (6, Value.pointer (some ⟨p31, 0, none⟩)), (5, Value.pointer (some ⟨p25, 0, none⟩)), (4, Value.pointer (some ⟨p12, 0, none⟩)), (3, Value.pointer (some ⟨p10, 0, none⟩)), (2, Value.pointer (some ⟨p8, 0, none⟩)), (1, Value.pointer (some ⟨p6, 0, none⟩)), (0, Value.bool false)] aa := (hB.env.add h176)
                  exact .inr ⟨(he.want rfl rfl rfl rfl rfl), Does.val (v := Value.agg #[Value.slice none 0 0, Value.bool false]) (rn_ldp [Value.slice none 0 0, Value.bool false] rfl (he.op rfl) undL rfl infoL2 (hB.held.1.at (i := 2) rfl) rfl) ⟨Fr.refl _ _, _, rfl, SlC.nil _⟩⟩
                refine StepsAll.cons ?_ ?_
                · intro aa ww hB hd
                  have hx180 : ∃ x, aa.eval (.tmp 180) = .agg #[x, .bool false] ∧ SlC ww x [aC, eC] := hd 41 (by kernel_rfl)
                  obtain ⟨x180, h180, hx180⟩ := hx180
                  have hx184 : SlC ww (aa.eval (.tmp 184)) [wC, zeroCe] := hd 45 (by kernel_rfl)
                  obtain ⟨x184, h184⟩ : ∃ x, aa.eval (.tmp 184) = x := ⟨_, rfl⟩
                  rw [h184] at hx184
                  have hx185 : ∃ x, aa.eval (.tmp 185) = .agg #[x, .bool false] ∧ SlC ww x [] := hd 46 (by kernel_rfl)
                  obtain ⟨x185, h185, hx185⟩ := hx185
                  have h176 : aa.eval (.tmp 176) = Value.bool false := hd 37 (by kernel_rfl)
                  have he : Env 248 [(176, Value.bool false), (185, Value.agg #[x185, Value.bool false]), (184, x184), (180, Value.agg #[x180, Value.bool false]), (7, Value.pointer (some ⟨p43, 0, none⟩)), (6, Value.pointer (some ⟨p31, 0, none⟩)), (5, Value.pointer (some ⟨p25, 0, none⟩)), (4, Value.pointer (some ⟨p12, 0, none⟩)), (3, Value.pointer (some ⟨p10, 0, none⟩)), (2, Value.pointer (some ⟨p8, 0, none⟩)), (1, Value.pointer (some ⟨p6, 0, none⟩)), (0, Value.bool false)] aa := ((((hB.env.add h180).add h184).add h185).add h176)
                  exact .inr ⟨(he.want rfl rfl rfl rfl rfl), does_call Tryd.func39 (by kernel_rfl) rfl rfl (he.args rfl) (puts_s _ [aC, eC] false 1 (by decide) (by decide) _ [wC, zeroCe] _ [] false 3 true kn38 (by decide) (by decide) (by decide) ww hx180 hx184 hx185 hB.held.2) (fun e_ w_ h_ => ⟨_, h_.1, h_.2, rfl⟩)⟩
                refine StepsAll.cons ?_ ?_
                · intro aa ww hB hd
                  have h186 : aa.eval (.tmp 186) = Value.bool true := hd 47 (by kernel_rfl)
                  have h176 : aa.eval (.tmp 176) = Value.bool false := hd 37 (by kernel_rfl)
                  have he : Env 248 [(176, Value.bool false), (186, Value.bool true), (7, Value.pointer (some ⟨p43, 0, none⟩)), (6, Value.pointer (some ⟨p31, 0, none⟩)), (5, Value.pointer (some ⟨p25, 0, none⟩)), (4, Value.pointer (some ⟨p12, 0, none⟩)), (3, Value.pointer (some ⟨p10, 0, none⟩)), (2, Value.pointer (some ⟨p8, 0, none⟩)), (1, Value.pointer (some ⟨p6, 0, none⟩)), (0, Value.bool false)] aa := ((hB.env.add h186).add h176)
                  exact .inr ⟨(he.want rfl rfl rfl rfl rfl), Does.val (v := Value.bool false) (rn_not (b := true) rfl (he.op rfl) ww) ⟨Fr.refl _ _, rfl⟩⟩
                refine StepsAll.cons ?_ ?_
                · intro aa ww hB hd
                  have h176 : aa.eval (.tmp 176) = Value.bool false := hd 37 (by kernel_rfl)
                  have h187 : aa.eval (.tmp 187) = Value.bool false := hd 48 (by kernel_rfl)
                  have he : Env 248 [(187, Value.bool false), (176, Value.bool false), (7, Value.pointer (some ⟨p43, 0, none⟩)), (6, Value.pointer (some ⟨p31, 0, none⟩)), (5, Value.pointer (some ⟨p25, 0, none⟩)), (4, Value.pointer (some ⟨p12, 0, none⟩)), (3, Value.pointer (some ⟨p10, 0, none⟩)), (2, Value.pointer (some ⟨p8, 0, none⟩)), (1, Value.pointer (some ⟨p6, 0, none⟩)), (0, Value.bool false)] aa := ((hB.env.add h176).add h187)
                  exact .inr ⟨(wanted_plain rfl _), Does.val (v := Value.bool false) (rn_pk0 rfl (he.op rfl) (he.op rfl) ww) ⟨Fr.refl _ _, rfl⟩⟩
                refine StepsAll.cons ?_ ?_
                · intro aa ww hB hd
                  have h188 : aa.eval (.tmp 188) = Value.bool false := hd 49 (by kernel_rfl)
                  have he : Env 248 [(188, Value.bool false), (7, Value.pointer (some ⟨p43, 0, none⟩)), (6, Value.pointer (some ⟨p31, 0, none⟩)), (5, Value.pointer (some ⟨p25, 0, none⟩)), (4, Value.pointer (some ⟨p12, 0, none⟩)), (3, Value.pointer (some ⟨p10, 0, none⟩)), (2, Value.pointer (some ⟨p8, 0, none⟩)), (1, Value.pointer (some ⟨p6, 0, none⟩)), (0, Value.bool false)] aa := (hB.env.add h188)
                  exact .inr ⟨(wanted_plain rfl _), Does.val (v := Value.bool false) (rn_mv rfl (he.op rfl) ww) ⟨Fr.refl _ _, rfl⟩⟩
                refine StepsAll.cons ?_ ?_
                · intro aa ww hB hd
                  have h189 : aa.eval (.tmp 189) = Value.bool false := hd 50 (by kernel_rfl)
                  have he : Env 248 [(189, Value.bool false), (7, Value.pointer (some ⟨p43, 0, none⟩)), (6, Value.pointer (some ⟨p31, 0, none⟩)), (5, Value.pointer (some ⟨p25, 0, none⟩)), (4, Value.pointer (some ⟨p12, 0, none⟩)), (3, Value.pointer (some ⟨p10, 0, none⟩)), (2, Value.pointer (some ⟨p8, 0, none⟩)), (1, Value.pointer (some ⟨p6, 0, none⟩)), (0, Value.bool false)] aa := (hB.env.add h189)
                  exact .inr ⟨(he.want rfl rfl rfl rfl rfl), Does.val (v := Ce.v aC) (rn_load rfl (he.op rfl) (hB.held.1.at (i := 7) rfl)) ⟨Fr.refl _ _, rfl⟩⟩
                refine StepsAll.cons ?_ ?_
                · intro aa ww hB hd
                  have h189 : aa.eval (.tmp 189) = Value.bool false := hd 50 (by kernel_rfl)
                  have he : Env 248 [(189, Value.bool false), (7, Value.pointer (some ⟨p43, 0, none⟩)), (6, Value.pointer (some ⟨p31, 0, none⟩)), (5, Value.pointer (some ⟨p25, 0, none⟩)), (4, Value.pointer (some ⟨p12, 0, none⟩)), (3, Value.pointer (some ⟨p10, 0, none⟩)), (2, Value.pointer (some ⟨p8, 0, none⟩)), (1, Value.pointer (some ⟨p6, 0, none⟩)), (0, Value.bool false)] aa := (hB.env.add h189)
                  exact .inr ⟨(he.want rfl rfl rfl rfl rfl), Does.val (v := Ce.v eC) (rn_load rfl (he.op rfl) (hB.held.1.at (i := 4) rfl)) ⟨Fr.refl _ _, rfl⟩⟩
                refine StepsAll.cons ?_ ?_
                · intro aa ww hB hd
                  have h190 : aa.eval (.tmp 190) = Ce.v aC := hd 51 (by kernel_rfl)
                  have h191 : aa.eval (.tmp 191) = Ce.v eC := hd 52 (by kernel_rfl)
                  have h189 : aa.eval (.tmp 189) = Value.bool false := hd 50 (by kernel_rfl)
                  have he : Env 248 [(189, Value.bool false), (191, Ce.v eC), (190, Ce.v aC), (7, Value.pointer (some ⟨p43, 0, none⟩)), (6, Value.pointer (some ⟨p31, 0, none⟩)), (5, Value.pointer (some ⟨p25, 0, none⟩)), (4, Value.pointer (some ⟨p12, 0, none⟩)), (3, Value.pointer (some ⟨p10, 0, none⟩)), (2, Value.pointer (some ⟨p8, 0, none⟩)), (1, Value.pointer (some ⟨p6, 0, none⟩)), (0, Value.bool false)] aa := (((hB.env.add h190).add h191).add h189)
                  exact .inr ⟨(he.want rfl rfl rfl rfl rfl), Does.val (rn_bs2 rfl (he.op rfl) (he.op rfl) ww) ⟨(Fr.refl _ _).alloc _, SlC.mk (rdc_lit ww [aC, eC] _ rfl 2 rfl) (Nat.le_refl _)⟩⟩
                refine StepsAll.cons ?_ ?_
                · intro aa ww hB hd
                  have hx192 : SlC ww (aa.eval (.tmp 192)) [aC, eC] := hd 53 (by kernel_rfl)
                  obtain ⟨x192, h192⟩ : ∃ x, aa.eval (.tmp 192) = x := ⟨_, rfl⟩
                  rw [h192] at hx192
                  have h189 : aa.eval (.tmp 189) = Value.bool false := hd 50 (by kernel_rfl)
                  have he : Env 248 [(189, Value.bool false), (192, x192), (7, Value.pointer (some ⟨p43, 0, none⟩)), (6, Value.pointer (some ⟨p31, 0, none⟩)), (5, Value.pointer (some ⟨p25, 0, none⟩)), (4, Value.pointer (some ⟨p12, 0, none⟩)), (3, Value.pointer (some ⟨p10, 0, none⟩)), (2, Value.pointer (some ⟨p8, 0, none⟩)), (1, Value.pointer (some ⟨p6, 0, none⟩)), (0, Value.bool false)] aa := ((hB.env.add h192).add h189)
                  exact .inr ⟨(he.want rfl rfl rfl rfl rfl), does_call Tryd.func37 (by kernel_rfl) rfl rfl (he.args rfl) (hard_any _ _ ww hx192) (fun e_ w_ h_ => h_)⟩
                refine StepsAll.cons ?_ ?_
                · intro aa ww hB hd
                  have h189 : aa.eval (.tmp 189) = Value.bool false := hd 50 (by kernel_rfl)
                  have he : Env 248 [(189, Value.bool false), (7, Value.pointer (some ⟨p43, 0, none⟩)), (6, Value.pointer (some ⟨p31, 0, none⟩)), (5, Value.pointer (some ⟨p25, 0, none⟩)), (4, Value.pointer (some ⟨p12, 0, none⟩)), (3, Value.pointer (some ⟨p10, 0, none⟩)), (2, Value.pointer (some ⟨p8, 0, none⟩)), (1, Value.pointer (some ⟨p6, 0, none⟩)), (0, Value.bool false)] aa := (hB.env.add h189)
                  exact .inr ⟨(he.want rfl rfl rfl rfl rfl), Does.val (v := Ce.v aC) (rn_load rfl (he.op rfl) (hB.held.1.at (i := 7) rfl)) ⟨Fr.refl _ _, rfl⟩⟩
                refine StepsAll.cons ?_ ?_
                · intro aa ww hB hd
                  have h189 : aa.eval (.tmp 189) = Value.bool false := hd 50 (by kernel_rfl)
                  have he : Env 248 [(189, Value.bool false), (7, Value.pointer (some ⟨p43, 0, none⟩)), (6, Value.pointer (some ⟨p31, 0, none⟩)), (5, Value.pointer (some ⟨p25, 0, none⟩)), (4, Value.pointer (some ⟨p12, 0, none⟩)), (3, Value.pointer (some ⟨p10, 0, none⟩)), (2, Value.pointer (some ⟨p8, 0, none⟩)), (1, Value.pointer (some ⟨p6, 0, none⟩)), (0, Value.bool false)] aa := (hB.env.add h189)
                  exact .inr ⟨(he.want rfl rfl rfl rfl rfl), Does.val (v := Ce.v eC) (rn_load rfl (he.op rfl) (hB.held.1.at (i := 4) rfl)) ⟨Fr.refl _ _, rfl⟩⟩
                refine StepsAll.cons ?_ ?_
                · intro aa ww hB hd
                  have h194 : aa.eval (.tmp 194) = Ce.v aC := hd 55 (by kernel_rfl)
                  have h195 : aa.eval (.tmp 195) = Ce.v eC := hd 56 (by kernel_rfl)
                  have h189 : aa.eval (.tmp 189) = Value.bool false := hd 50 (by kernel_rfl)
                  have he : Env 248 [(189, Value.bool false), (195, Ce.v eC), (194, Ce.v aC), (7, Value.pointer (some ⟨p43, 0, none⟩)), (6, Value.pointer (some ⟨p31, 0, none⟩)), (5, Value.pointer (some ⟨p25, 0, none⟩)), (4, Value.pointer (some ⟨p12, 0, none⟩)), (3, Value.pointer (some ⟨p10, 0, none⟩)), (2, Value.pointer (some ⟨p8, 0, none⟩)), (1, Value.pointer (some ⟨p6, 0, none⟩)), (0, Value.bool false)] aa := (((hB.env.add h194).add h195).add h189)
                  exact .inr ⟨(he.want rfl rfl rfl rfl rfl), Does.val (rn_bs2 rfl (he.op rfl) (he.op rfl) ww) ⟨(Fr.refl _ _).alloc _, SlC.mk (rdc_lit ww [aC, eC] _ rfl 2 rfl) (Nat.le_refl _)⟩⟩
                refine StepsAll.cons ?_ ?_
                · intro aa ww hB hd
                  have hx196 : SlC ww (aa.eval (.tmp 196)) [aC, eC] := hd 57 (by kernel_rfl)
                  obtain ⟨x196, h196⟩ : ∃ x, aa.eval (.tmp 196) = x := ⟨_, rfl⟩
                  rw [h196] at hx196
                  have h189 : aa.eval (.tmp 189) = Value.bool false := hd 50 (by kernel_rfl)
                  have he : Env 248 [(189, Value.bool false), (196, x196), (7, Value.pointer (some ⟨p43, 0, none⟩)), (6, Value.pointer (some ⟨p31, 0, none⟩)), (5, Value.pointer (some ⟨p25, 0, none⟩)), (4, Value.pointer (some ⟨p12, 0, none⟩)), (3, Value.pointer (some ⟨p10, 0, none⟩)), (2, Value.pointer (some ⟨p8, 0, none⟩)), (1, Value.pointer (some ⟨p6, 0, none⟩)), (0, Value.bool false)] aa := ((hB.env.add h196).add h189)
                  exact .inr ⟨(he.want rfl rfl rfl rfl rfl), does_call Tryd.func37 (by kernel_rfl) rfl rfl (he.args rfl) (hard_any _ _ ww hx196) (fun e_ w_ h_ => h_)⟩
                refine StepsAll.cons ?_ ?_
                · intro aa ww hB hd
                  have hx193 : ∃ x, aa.eval (.tmp 193) = .agg #[x, .bool false] ∧ SlC ww x [aC, eC] := hd 54 (by kernel_rfl)
                  obtain ⟨x193, h193, hx193⟩ := hx193
                  have hx197 : ∃ x, aa.eval (.tmp 197) = .agg #[x, .bool false] ∧ SlC ww x [aC, eC] := hd 58 (by kernel_rfl)
                  obtain ⟨x197, h197, hx197⟩ := hx197
                  have h189 : aa.eval (.tmp 189) = Value.bool false := hd 50 (by kernel_rfl)
                  have he : Env 248 [(189, Value.bool false), (197, Value.agg #[x197, Value.bool false]), (193, Value.agg #[x193, Value.bool false]), (7, Value.pointer (some ⟨p43, 0, none⟩)), (6, Value.pointer (some ⟨p31, 0, none⟩)), (5, Value.pointer (some ⟨p25, 0, none⟩)), (4, Value.pointer (some ⟨p12, 0, none⟩)), (3, Value.pointer (some ⟨p10, 0, none⟩)), (2, Value.pointer (some ⟨p8, 0, none⟩)), (1, Value.pointer (some ⟨p6, 0, none⟩)), (0, Value.bool false)] aa := (((hB.env.add h193).add h197).add h189)
                  exact .inr ⟨(he.want rfl rfl rfl rfl rfl), does_call Tryd.func39 (by kernel_rfl) rfl rfl (he.args rfl) (puts_s _ [aC, eC] false 2 (by decide) (by decide) _ [] _ [aC, eC] false 0 true kn41 (by decide) (by decide) (by decide) ww hx193 (SlC.nil _) hx197 hB.held.2) (fun e_ w_ h_ => ⟨_, h_.1, h_.2, rfl⟩)⟩
                refine StepsAll.cons ?_ ?_
                · intro aa ww hB hd
                  have h198 : aa.eval (.tmp 198) = Value.bool true := hd 59 (by kernel_rfl)
                  have h189 : aa.eval (.tmp 189) = Value.bool false := hd 50 (by kernel_rfl)
                  have he : Env 248 [(189, Value.bool false), (198, Value.bool true), (7, Value.pointer (some ⟨p43, 0, none⟩)), (6, Value.pointer (some ⟨p31, 0, none⟩)), (5, Value.pointer (some ⟨p25, 0, none⟩)), (4, Value.pointer (some ⟨p12, 0, none⟩)), (3, Value.pointer (some ⟨p10, 0, none⟩)), (2, Value.pointer (some ⟨p8, 0, none⟩)), (1, Value.pointer (some ⟨p6, 0, none⟩)), (0, Value.bool false)] aa := ((hB.env.add h198).add h189)
                  exact .inr ⟨(he.want rfl rfl rfl rfl rfl), Does.val (v := Value.bool false) (rn_not (b := true) rfl (he.op rfl) ww) ⟨Fr.refl _ _, rfl⟩⟩
                refine StepsAll.cons ?_ ?_
                · intro aa ww hB hd
                  have h189 : aa.eval (.tmp 189) = Value.bool false := hd 50 (by kernel_rfl)
                  have h199 : aa.eval (.tmp 199) = Value.bool false := hd 60 (by kernel_rfl)
                  have he : Env 248 [(199, Value.bool false), (189, Value.bool false), (7, Value.pointer (some ⟨p43, 0, none⟩)), (6, Value.pointer (some ⟨p31, 0, none⟩)), (5, Value.pointer (some ⟨p25, 0, none⟩)), (4, Value.pointer (some ⟨p12, 0, none⟩)), (3, Value.pointer (some ⟨p10, 0, none⟩)), (2, Value.pointer (some ⟨p8, 0, none⟩)), (1, Value.pointer (some ⟨p6, 0, none⟩)), (0, Value.bool false)] aa := ((hB.env.add h189).add h199)
                  exact .inr ⟨(wanted_plain rfl _), Does.val (v := Value.bool false) (rn_pk0 rfl (he.op rfl) (he.op rfl) ww) ⟨Fr.refl _ _, rfl⟩⟩
                refine StepsAll.cons ?_ ?_
                · intro aa ww hB hd
                  have h200 : aa.eval (.tmp 200) = Value.bool false := hd 61 (by kernel_rfl)
                  have he : Env 248 [(200, Value.bool false), (7, Value.pointer (some ⟨p43, 0, none⟩)), (6, Value.pointer (some ⟨p31, 0, none⟩)), (5, Value.pointer (some ⟨p25, 0, none⟩)), (4, Value.pointer (some ⟨p12, 0, none⟩)), (3, Value.pointer (some ⟨p10, 0, none⟩)), (2, Value.pointer (some ⟨p8, 0, none⟩)), (1, Value.pointer (some ⟨p6, 0, none⟩)), (0, Value.bool false)] aa := (hB.env.add h200)
                  exact .inr ⟨(wanted_plain rfl _), Does.val (v := Value.bool false) (rn_mv rfl (he.op rfl) ww) ⟨Fr.refl _ _, rfl⟩⟩
                refine StepsAll.cons ?_ ?_
                · intro aa ww hB hd
                  have h201 : aa.eval (.tmp 201) = Value.bool false := hd 62 (by kernel_rfl)
                  have he : Env 248 [(201, Value.bool false), (7, Value.pointer (some ⟨p43, 0, none⟩)), (6, Value.pointer (some ⟨p31, 0, none⟩)), (5, Value.pointer (some ⟨p25, 0, none⟩)), (4, Value.pointer (some ⟨p12, 0, none⟩)), (3, Value.pointer (some ⟨p10, 0, none⟩)), (2, Value.pointer (some ⟨p8, 0, none⟩)), (1, Value.pointer (some ⟨p6, 0, none⟩)), (0, Value.bool false)] aa := (hB.env.add h201)
                  exact .inr ⟨(he.want rfl rfl rfl rfl rfl), Does.val (v := Ce.v aC) (rn_load rfl (he.op rfl) (hB.held.1.at (i := 7) rfl)) ⟨Fr.refl _ _, rfl⟩⟩
                refine StepsAll.cons ?_ ?_
                · intro aa ww hB hd
                  have h201 : aa.eval (.tmp 201) = Value.bool false := hd 62 (by kernel_rfl)
                  have he : Env 248 [(201, Value.bool false), (7, Value.pointer (some ⟨p43, 0, none⟩)), (6, Value.pointer (some ⟨p31, 0, none⟩)), (5, Value.pointer (some ⟨p25, 0, none⟩)), (4, Value.pointer (some ⟨p12, 0, none⟩)), (3, Value.pointer (some ⟨p10, 0, none⟩)), (2, Value.pointer (some ⟨p8, 0, none⟩)), (1, Value.pointer (some ⟨p6, 0, none⟩)), (0, Value.bool false)] aa := (hB.env.add h201)
                  exact .inr ⟨(he.want rfl rfl rfl rfl rfl), Does.val (v := Ce.v eC) (rn_load rfl (he.op rfl) (hB.held.1.at (i := 4) rfl)) ⟨Fr.refl _ _, rfl⟩⟩
                refine StepsAll.cons ?_ ?_
                · intro aa ww hB hd
                  have h202 : aa.eval (.tmp 202) = Ce.v aC := hd 63 (by kernel_rfl)
                  have h203 : aa.eval (.tmp 203) = Ce.v eC := hd 64 (by kernel_rfl)
                  have h201 : aa.eval (.tmp 201) = Value.bool false := hd 62 (by kernel_rfl)
                  have he : Env 248 [(201, Value.bool false), (203, Ce.v eC), (202, Ce.v aC), (7, Value.pointer (some ⟨p43, 0, none⟩)), (6, Value.pointer (some ⟨p31, 0, none⟩)), (5, Value.pointer (some ⟨p25, 0, none⟩)), (4, Value.pointer (some ⟨p12, 0, none⟩)), (3, Value.pointer (some ⟨p10, 0, none⟩)), (2, Value.pointer (some ⟨p8, 0, none⟩)), (1, Value.pointer (some ⟨p6, 0, none⟩)), (0, Value.bool false)] aa := (((hB.env.add h202).add h203).add h201)
                  exact .inr ⟨(he.want rfl rfl rfl rfl rfl), Does.val (rn_bs2 rfl (he.op rfl) (he.op rfl) ww) ⟨(Fr.refl _ _).alloc _, SlC.mk (rdc_lit ww [aC, eC] _ rfl 2 rfl) (Nat.le_refl _)⟩⟩
                refine StepsAll.cons ?_ ?_
                · intro aa ww hB hd
                  have hx204 : SlC ww (aa.eval (.tmp 204)) [aC, eC] := hd 65 (by kernel_rfl)
                  obtain ⟨x204, h204⟩ : ∃ x, aa.eval (.tmp 204) = x := ⟨_, rfl⟩
                  rw [h204] at hx204
                  have h201 : aa.eval (.tmp 201) = Value.bool false := hd 62 (by kernel_rfl)
                  have he : Env 248 [(201, Value.bool false), (204, x204), (7, Value.pointer (some ⟨p43, 0, none⟩)), (6, Value.pointer (some ⟨p31, 0, none⟩)), (5, Value.pointer (some ⟨p25, 0, none⟩)), (4, Value.pointer (some ⟨p12, 0, none⟩)), (3, Value.pointer (some ⟨p10, 0, none⟩)), (2, Value.pointer (some ⟨p8, 0, none⟩)), (1, Value.pointer (some ⟨p6, 0, none⟩)), (0, Value.bool false)] aa := ((hB.env.add h204).add h201)
                  exact .inr ⟨(he.want rfl rfl rfl rfl rfl), does_call Tryd.func37 (by kernel_rfl) rfl rfl (he.args rfl) (hard_any _ _ ww hx204) (fun e_ w_ h_ => h_)⟩
                refine StepsAll.cons ?_ ?_
                · intro aa ww hB hd
                  have h201 : aa.eval (.tmp 201) = Value.bool false := hd 62 (by kernel_rfl)
                  have he : Env 248 [(201, Value.bool false), (7, Value.pointer (some ⟨p43, 0, none⟩)), (6, Value.pointer (some ⟨p31, 0, none⟩)), (5, Value.pointer (some ⟨p25, 0, none⟩)), (4, Value.pointer (some ⟨p12, 0, none⟩)), (3, Value.pointer (some ⟨p10, 0, none⟩)), (2, Value.pointer (some ⟨p8, 0, none⟩)), (1, Value.pointer (some ⟨p6, 0, none⟩)), (0, Value.bool false)] aa := (hB.env.add h201)
                  exact .inr ⟨(he.want rfl rfl rfl rfl rfl), Does.val (v := Ce.v zeroCe) (rn_load rfl (he.op rfl) (hB.held.1.at (i := 5) rfl)) ⟨Fr.refl _ _, rfl⟩⟩
                refine StepsAll.cons ?_ ?_
                · intro aa ww hB hd
                  have h206 : aa.eval (.tmp 206) = Ce.v zeroCe := hd 67 (by kernel_rfl)
                  have h201 : aa.eval (.tmp 201) = Value.bool false := hd 62 (by kernel_rfl)
                  have he : Env 248 [(201, Value.bool false), (206, Ce.v zeroCe), (7, Value.pointer (some ⟨p43, 0, none⟩)), (6, Value.pointer (some ⟨p31, 0, none⟩)), (5, Value.pointer (some ⟨p25, 0, none⟩)), (4, Value.pointer (some ⟨p12, 0, none⟩)), (3, Value.pointer (some ⟨p10, 0, none⟩)), (2, Value.pointer (some ⟨p8, 0, none⟩)), (1, Value.pointer (some ⟨p6, 0, none⟩)), (0, Value.bool false)] aa := ((hB.env.add h206).add h201)
                  exact .inr ⟨(he.want rfl rfl rfl rfl rfl), Does.val (rn_bs1 rfl (he.op rfl) ww) ⟨(Fr.refl _ _).alloc _, SlC.mk (rdc_lit ww [zeroCe] _ rfl 1 rfl) (Nat.le_refl _)⟩⟩
                refine StepsAll.cons ?_ ?_
                · intro aa ww hB hd
                  have hx207 : SlC ww (aa.eval (.tmp 207)) [zeroCe] := hd 68 (by kernel_rfl)
                  obtain ⟨x207, h207⟩ : ∃ x, aa.eval (.tmp 207) = x := ⟨_, rfl⟩
                  rw [h207] at hx207
                  have h201 : aa.eval (.tmp 201) = Value.bool false := hd 62 (by kernel_rfl)
                  have he : Env 248 [(201, Value.bool false), (207, x207), (7, Value.pointer (some ⟨p43, 0, none⟩)), (6, Value.pointer (some ⟨p31, 0, none⟩)), (5, Value.pointer (some ⟨p25, 0, none⟩)), (4, Value.pointer (some ⟨p12, 0, none⟩)), (3, Value.pointer (some ⟨p10, 0, none⟩)), (2, Value.pointer (some ⟨p8, 0, none⟩)), (1, Value.pointer (some ⟨p6, 0, none⟩)), (0, Value.bool false)] aa := ((hB.env.add h207).add h201)
                  exact .inr ⟨(he.want rfl rfl rfl rfl rfl), does_call Tryd.func38 (by kernel_rfl) rfl rfl (he.args rfl) (list_any _ _ ww hx207) (fun e_ w_ h_ => h_)⟩
                refine StepsAll.cons ?_ ?_
                · intro aa ww hB hd
                  have h201 : aa.eval (.tmp 201) = Value.bool false := hd 62 (by kernel_rfl)
                  have he : Env 248 [(201, Value.bool false), (7, Value.pointer (some ⟨p43, 0, none⟩)), (6, Value.pointer (some ⟨p31, 0, none⟩)), (5, Value.pointer (some ⟨p25, 0, none⟩)), (4, Value.pointer (some ⟨p12, 0, none⟩)), (3, Value.pointer (some ⟨p10, 0, none⟩)), (2, Value.pointer (some ⟨p8, 0, none⟩)), (1, Value.pointer (some ⟨p6, 0, none⟩)), (0, Value.bool false)] aa := (hB.env.add h201)
                  exact .inr ⟨(he.want rfl rfl rfl rfl rfl), Does.val (v := Value.agg #[Value.slice none 0 0, Value.bool false]) (rn_ldp [Value.slice none 0 0, Value.bool false] rfl (he.op rfl) undL rfl infoL2 (hB.held.1.at (i := 2) rfl) rfl) ⟨Fr.refl _ _, _, rfl, SlC.nil _⟩⟩
                refine StepsAll.cons ?_ ?_
                · intro aa ww hB hd
                  have hx205 : ∃ x, aa.eval (.tmp 205) = .agg #[x, .bool false] ∧ SlC ww x [aC, eC] := hd 66 (by kernel_rfl)
                  obtain ⟨x205, h205, hx205⟩ := hx205
                  have hx208 : SlC ww (aa.eval (.tmp 208)) [zeroCe] := hd 69 (by kernel_rfl)
                  obtain ⟨x208, h208⟩ : ∃ x, aa.eval (.tmp 208) = x := ⟨_, rfl⟩
                  rw [h208] at hx208
                  have hx209 : ∃ x, aa.eval (.tmp 209) = .agg #[x, .bool false] ∧ SlC ww x [] := hd 70 (by kernel_rfl)
                  obtain ⟨x209, h209, hx209⟩ := hx209
                  have h201 : aa.eval (.tmp 201) = Value.bool false := hd 62 (by kernel_rfl)
                  have he : Env 248 [(201, Value.bool false), (209, Value.agg #[x209, Value.bool false]), (208, x208), (205, Value.agg #[x205, Value.bool false]), (7, Value.pointer (some ⟨p43, 0, none⟩)), (6, Value.pointer (some ⟨p31, 0, none⟩)), (5, Value.pointer (some ⟨p25, 0, none⟩)), (4, Value.pointer (some ⟨p12, 0, none⟩)), (3, Value.pointer (some ⟨p10, 0, none⟩)), (2, Value.pointer (some ⟨p8, 0, none⟩)), (1, Value.pointer (some ⟨p6, 0, none⟩)), (0, Value.bool false)] aa := ((((hB.env.add h205).add h208).add h209).add h201)
                  exact .inr ⟨(he.want rfl rfl rfl rfl rfl), does_call Tryd.func39 (by kernel_rfl) rfl rfl (he.args rfl) (puts_s _ [aC, eC] false 0 (by decide) (by decide) _ [zeroCe] _ [] false 2 true kn44 (by decide) (by decide) (by decide) ww hx205 hx208 hx209 hB.held.2) (fun e_ w_ h_ => ⟨_, h_.1, h_.2, rfl⟩)⟩
                refine StepsAll.cons ?_ ?_
                · intro aa ww hB hd
                  have h210 : aa.eval (.tmp 210) = Value.bool true := hd 71 (by kernel_rfl)
                  have h201 : aa.eval (.tmp 201) = Value.bool false := hd 62 (by kernel_rfl)
                  have he : Env 248 [(201, Value.bool false), (210, Value.bool true), (7, Value.pointer (some ⟨p43, 0, none⟩)), (6, Value.pointer (some ⟨p31, 0, none⟩)), (5, Value.pointer (some ⟨p25, 0, none⟩)), (4, Value.pointer (some ⟨p12, 0, none⟩)), (3, Value.pointer (some ⟨p10, 0, none⟩)), (2, Value.pointer (some ⟨p8, 0, none⟩)), (1, Value.pointer (some ⟨p6, 0, none⟩)), (0, Value.bool false)] aa := ((hB.env.add h210).add h201)
                  exact .inr ⟨(he.want rfl rfl rfl rfl rfl), Does.val (v := Value.bool false) (rn_not (b := true) rfl (he.op rfl) ww) ⟨Fr.refl _ _, rfl⟩⟩
                refine StepsAll.cons ?_ ?_
                · intro aa ww hB hd
                  have h201 : aa.eval (.tmp 201) = Value.bool false := hd 62 (by kernel_rfl)
                  have h211 : aa.eval (.tmp 211) = Value.bool false := hd 72 (by kernel_rfl)
                  have he : Env 248 [(211, Value.bool false), (201, Value.bool false), (7, Value.pointer (some ⟨p43, 0, none⟩)), (6, Value.pointer (some ⟨p31, 0, none⟩)), (5, Value.pointer (some ⟨p25, 0, none⟩)), (4, Value.pointer (some ⟨p12, 0, none⟩)), (3, Value.pointer (some ⟨p10, 0, none⟩)), (2, Value.pointer (some ⟨p8, 0, none⟩)), (1, Value.pointer (some ⟨p6, 0, none⟩)), (0, Value.bool false)] aa := ((hB.env.add h201).add h211)
                  exact .inr ⟨(wanted_plain rfl _), Does.val (v := Value.bool false) (rn_pk0 rfl (he.op rfl) (he.op rfl) ww) ⟨Fr.refl _ _, rfl⟩⟩
                exact StepsAll.nil
              · intro aa ww hB hall
                have h212 : aa.eval (.tmp 212) = Value.bool false := hall 73 (Nat.le_of_ble_eq_true (n := 74) (by kernel_rfl))
                have he59 : Env 248 [(212, Value.bool false), (7, Value.pointer (some ⟨p43, 0, none⟩)), (6, Value.pointer (some ⟨p31, 0, none⟩)), (5, Value.pointer (some ⟨p25, 0, none⟩)), (4, Value.pointer (some ⟨p12, 0, none⟩)), (3, Value.pointer (some ⟨p10, 0, none⟩)), (2, Value.pointer (some ⟨p8, 0, none⟩)), (1, Value.pointer (some ⟨p6, 0, none⟩)), (0, Value.bool false)] aa := (hB.env.add h212)
                have hH59 := hB.held.1
                have hTt := hB.held.2
                clear hB hall heb58 hH56 h212
                refine then_ok ?_
                clear hTt
                refine wp_cond_false (he59.op rfl) ?_
                refine wp_skip ?_
                refine then_ok ?_
                have he60 : Env 248 [(7, Value.pointer (some ⟨p43, 0, none⟩)), (6, Value.pointer (some ⟨p31, 0, none⟩)), (5, Value.pointer (some ⟨p25, 0, none⟩)), (4, Value.pointer (some ⟨p12, 0, none⟩)), (3, Value.pointer (some ⟨p10, 0, none⟩)), (2, Value.pointer (some ⟨p8, 0, none⟩)), (1, Value.pointer (some ⟨p6, 0, none⟩)), (0, Value.bool false)] aa := he59.mem ⟨rfl, rfl, rfl, rfl, rfl, rfl, rfl, rfl, trivial⟩
                clear he59
                as_aux_lemma =>
                  refine wp_seq ?_
                  refine wp_region_lit ?_
                  refine lV (Ce.v aC) he60 rfl rfl (wanted_plain rfl _) (rn_load rfl (he60.op rfl) (hH59.at (i := 7) rfl)) ?_
                  intro a61 he61
                  clear he60 aa
                  refine lNew (fun p => .slice (some ⟨p, 0, none⟩) 1 1) he61 hH59 rfl rfl (wanted_plain rfl _) (rn_bs1 rfl (he61.op rfl) ww) ?_
                  intro p62 w62 a63 hn hH62 he63
                  clear he61 a61 hH59 hn
                  refine lC he63 rfl rfl Tryd.func37 (by kernel_rfl) rfl rfl (wanted_plain rfl _) rfl (hard_c (some ⟨p62, 0, none⟩) 1 1 w62) ?_
                  intro w64 a65 hn he65
                  have hH64 := hH62.call hn
                  clear he63 a63 hH62 hn
                  refine lNew (fun p => .pointer (some ⟨p, 0, none⟩)) he65 hH64 rfl rfl (wanted_plain rfl _) (rn_allocL rfl w64) ?_
                  intro p66 w66 a67 hn hH66 he67
                  clear he65 a65 hH64 hn
                  refine lSetF 0 #[Value.slice (some ⟨p62, 0, none⟩) 1 1, Value.bool false] (cs := #[Value.slice (some ⟨p62, 0, none⟩) 1 1, Value.bool false]) he67 hH66 rfl (wanted_plain rfl _) rfl rfl rfl rfl rfl (by kernel_rfl) (by kernel_rfl) (by kernel_rfl) rfl ?_
                  intro w68 a69 hH68 hf he69
                  replace hH68 : Hp w [⟨p66, 27, #[Value.slice (some ⟨p62, 0, none⟩) 1 1, Value.bool false]⟩, ⟨p62, 60, (Ce.cs aC)⟩, ⟨p43, 27, #[Value.slice (some ⟨p39, 0, none⟩) 3 3, Value.bool true]⟩, ⟨p39, 60, (cs3 aC wC zeroCe)⟩, ⟨p31, 27, #[Value.slice none 0 0, Value.bool false]⟩, ⟨p25, 60, (Ce.cs iC)⟩, ⟨p12, 60, (Ce.cs eC)⟩, ⟨p10, 60, (Ce.cs zeroCe)⟩, ⟨p8, 60, (Ce.cs wC)⟩, ⟨p6, 60, (Ce.cs aC)⟩] w68 := hH68
                  clear hf
                  clear he67 a67 hH66
                  refine wpList_nil ?_
                  refine then_ok ?_
                  have he70 : Env 248 [(8, Value.pointer (some ⟨p66, 0, none⟩)), (7, Value.pointer (some ⟨p43, 0, none⟩)), (6, Value.pointer (some ⟨p31, 0, none⟩)), (5, Value.pointer (some ⟨p25, 0, none⟩)), (4, Value.pointer (some ⟨p12, 0, none⟩)), (3, Value.pointer (some ⟨p10, 0, none⟩)), (2, Value.pointer (some ⟨p8, 0, none⟩)), (1, Value.pointer (some ⟨p6, 0, none⟩)), (0, Value.bool false)] a69 := he69.mem ⟨rfl, rfl, rfl, rfl, rfl, rfl, rfl, rfl, rfl, trivial⟩
                  clear he69
                  refine wp_seq ?_
                  refine wp_region_lit ?_
                  refine lV (Value.pointer (some ⟨p66, 1, none⟩)) he70 rfl rfl (wanted_plain rfl _) (rn_faL1 rfl (he70.op rfl) rfl w68) ?_
                  intro a71 he71
                  clear he70 a69
                  refine lSetF 0 #[Value.bool true] (cs := #[Value.slice (some ⟨p62, 0, none⟩) 1 1, Value.bool true]) he71 hH68 rfl (wanted_plain rfl _) rfl rfl rfl rfl rfl (by kernel_rfl) (by kernel_rfl) (by kernel_rfl) rfl ?_
                  intro w72 a73 hH72 hf he73
                  replace hH72 : Hp w [⟨p66, 27, #[Value.slice (some ⟨p62, 0, none⟩) 1 1, Value.bool true]⟩, ⟨p62, 60, (Ce.cs aC)⟩, ⟨p43, 27, #[Value.slice (some ⟨p39, 0, none⟩) 3 3, Value.bool true]⟩, ⟨p39, 60, (cs3 aC wC zeroCe)⟩, ⟨p31, 27, #[Value.slice none 0 0, Value.bool false]⟩, ⟨p25, 60, (Ce.cs iC)⟩, ⟨p12, 60, (Ce.cs eC)⟩, ⟨p10, 60, (Ce.cs zeroCe)⟩, ⟨p8, 60, (Ce.cs wC)⟩, ⟨p6, 60, (Ce.cs aC)⟩] w72 := hH72
                  clear hf
                  clear he71 a71 hH68
                  refine wpList_nil ?_
                  refine then_ok ?_
                  have he74 : Env 248 [(8, Value.pointer (some ⟨p66, 0, none⟩)), (7, Value.pointer (some ⟨p43, 0, none⟩)), (6, Value.pointer (some ⟨p31, 0, none⟩)), (5, Value.pointer (some ⟨p25, 0, none⟩)), (4, Value.pointer (some ⟨p12, 0, none⟩)), (3, Value.pointer (some ⟨p10, 0, none⟩)), (2, Value.pointer (some ⟨p8, 0, none⟩)), (1, Value.pointer (some ⟨p6, 0, none⟩)), (0, Value.bool false)] a73 := he73.mem ⟨rfl, rfl, rfl, rfl, rfl, rfl, rfl, rfl, rfl, trivial⟩
                  clear he73
                  as_aux_lemma =>
                    refine wp_seq ?_
                    have heb75 : Env 248 [(8, Value.pointer (some ⟨p66, 0, none⟩)), (7, Value.pointer (some ⟨p43, 0, none⟩)), (6, Value.pointer (some ⟨p31, 0, none⟩)), (5, Value.pointer (some ⟨p25, 0, none⟩)), (4, Value.pointer (some ⟨p12, 0, none⟩)), (3, Value.pointer (some ⟨p10, 0, none⟩)), (2, Value.pointer (some ⟨p8, 0, none⟩)), (1, Value.pointer (some ⟨p6, 0, none⟩))] a73 := he74.mem ⟨rfl, rfl, rfl, rfl, rfl, rfl, rfl, rfl, trivial⟩
                    clear he74
                    refine region_any (S := fun W => Hp w [⟨p66, 27, #[Value.slice (some ⟨p62, 0, none⟩) 1 1, Value.bool true]⟩, ⟨p62, 60, (Ce.cs aC)⟩, ⟨p43, 27, #[Value.slice (some ⟨p39, 0, none⟩) 3 3, Value.bool true]⟩, ⟨p39, 60, (cs3 aC wC zeroCe)⟩, ⟨p31, 27, #[Value.slice none 0 0, Value.bool false]⟩, ⟨p25, 60, (Ce.cs iC)⟩, ⟨p12, 60, (Ce.cs eC)⟩, ⟨p10, 60, (Ce.cs zeroCe)⟩, ⟨p8, 60, (Ce.cs wC)⟩, ⟨p6, 60, (Ce.cs aC)⟩] W ∧ Tab W) (I := HoldsL [.val (Ce.v aC), .cells ([aC]), .line ([aC]) false, .line ([aC]) true, .val (Value.bool false), .val (Value.bool true), .val (Value.bool true), .val (Ce.v aC), .cells ([aC]), .line ([aC]) false, .val (Ce.v aC), .val (Ce.v eC), .cells ([aC, eC]), .line ([aC, eC]) false, .val (Value.bool false), .val (Value.bool true), .val (Value.bool true), .val (Value.bool true), .val (Ce.v aC), .val (Ce.v wC), .val (Ce.v zeroCe), .cells ([aC, wC, zeroCe]), .line ([aC, wC, zeroCe]) false, .line ([aC, wC, zeroCe]) false, .val (Ce.v aC), .val (Ce.v wC), .val (Ce.v zeroCe), .cells ([aC, wC, zeroCe]), .line ([aC, wC, zeroCe]) false, .val (Value.bool true), .val (Value.bool true), .val (Value.bool true)]) (by kernel_rfl) heb75 ⟨hH72.drew, hT.new (hH72.drew).new⟩ (by kernel_rfl) HoldsL.new (fun w_ w1_ h_ hn_ => ⟨h_.1.call hn_, h_.2.new hn_⟩) ?_ ?_
                    · skip
                      refine StepsAll.cons ?_ ?_
                      · intro aa ww hB hd
                        have he : Env 248 [(8, Value.pointer (some ⟨p66, 0, none⟩)), (7, Value.pointer (some ⟨p43, 0, none⟩)), (6, Value.pointer (some ⟨p31, 0, none⟩)), (5, Value.pointer (some ⟨p25, 0, none⟩)), (4, Value.pointer (some ⟨p12, 0, none⟩)), (3, Value.pointer (some ⟨p10, 0, none⟩)), (2, Value.pointer (some ⟨p8, 0, none⟩)), (1, Value.pointer (some ⟨p6, 0, none⟩))] aa := hB.env
                        exact .inr ⟨(wanted_plain rfl _), Does.val (v := Ce.v aC) (rn_load rfl (he.op rfl) (hB.held.1.at (i := 9) rfl)) ⟨Fr.refl _ _, rfl⟩⟩
                      refine StepsAll.cons ?_ ?_
                      · intro aa ww hB hd
                        have h217 : aa.eval (.tmp 217) = Ce.v aC := hd 0 (by kernel_rfl)
                        have he : Env 248 [(217, Ce.v aC), (8, Value.pointer (some ⟨p66, 0, none⟩)), (7, Value.pointer (some ⟨p43, 0, none⟩)), (6, Value.pointer (some ⟨p31, 0, none⟩)), (5, Value.pointer (some ⟨p25, 0, none⟩)), (4, Value.pointer (some ⟨p12, 0, none⟩)), (3, Value.pointer (some ⟨p10, 0, none⟩)), (2, Value.pointer (some ⟨p8, 0, none⟩)), (1, Value.pointer (some ⟨p6, 0, none⟩))] aa := (hB.env.add h217)
                        exact .inr ⟨(wanted_plain rfl _), Does.val (rn_bs1 rfl (he.op rfl) ww) ⟨(Fr.refl _ _).alloc _, SlC.mk (rdc_lit ww [aC] _ rfl 1 rfl) (Nat.le_refl _)⟩⟩
                      refine StepsAll.cons ?_ ?_
                      · intro aa ww hB hd
                        have hx218 : SlC ww (aa.eval (.tmp 218)) [aC] := hd 1 (by kernel_rfl)
                        obtain ⟨x218, h218⟩ : ∃ x, aa.eval (.tmp 218) = x := ⟨_, rfl⟩
                        rw [h218] at hx218
                        have he : Env 248 [(218, x218), (8, Value.pointer (some ⟨p66, 0, none⟩)), (7, Value.pointer (some ⟨p43, 0, none⟩)), (6, Value.pointer (some ⟨p31, 0, none⟩)), (5, Value.pointer (some ⟨p25, 0, none⟩)), (4, Value.pointer (some ⟨p12, 0, none⟩)), (3, Value.pointer (some ⟨p10, 0, none⟩)), (2, Value.pointer (some ⟨p8, 0, none⟩)), (1, Value.pointer (some ⟨p6, 0, none⟩))] aa := (hB.env.add h218)
                        exact .inr ⟨(wanted_plain rfl _), does_call Tryd.func37 (by kernel_rfl) rfl rfl (he.args rfl) (hard_any _ _ ww hx218) (fun e_ w_ h_ => h_)⟩
                      refine StepsAll.cons ?_ ?_
                      · intro aa ww hB hd
                        have he : Env 248 [(8, Value.pointer (some ⟨p66, 0, none⟩)), (7, Value.pointer (some ⟨p43, 0, none⟩)), (6, Value.pointer (some ⟨p31, 0, none⟩)), (5, Value.pointer (some ⟨p25, 0, none⟩)), (4, Value.pointer (some ⟨p12, 0, none⟩)), (3, Value.pointer (some ⟨p10, 0, none⟩)), (2, Value.pointer (some ⟨p8, 0, none⟩)), (1, Value.pointer (some ⟨p6, 0, none⟩))] aa := hB.env
                        exact .inr ⟨(wanted_plain rfl _), Does.val (v := Value.agg #[Value.slice (some ⟨p62, 0, none⟩) 1 1, Value.bool true]) (rn_ldp [Value.slice (some ⟨p62, 0, none⟩) 1 1, Value.bool true] rfl (he.op rfl) undL rfl infoL2 (hB.held.1.at (i := 0) rfl) rfl) ⟨Fr.refl _ _, _, rfl, SlC.mk (rdc_of (rdg_blk (R := rC) (n := 1) (l := [aC]) (hB.held.1.at (i := 1) rfl) rfl rfl)) (Nat.le_refl _)⟩⟩
                      refine StepsAll.cons ?_ ?_
                      · intro aa ww hB hd
                        have hx219 : ∃ x, aa.eval (.tmp 219) = .agg #[x, .bool false] ∧ SlC ww x [aC] := hd 2 (by kernel_rfl)
                        obtain ⟨x219, h219, hx219⟩ := hx219
                        have hx220 : ∃ x, aa.eval (.tmp 220) = .agg #[x, .bool true] ∧ SlC ww x [aC] := hd 3 (by kernel_rfl)
                        obtain ⟨x220, h220, hx220⟩ := hx220
                        have he : Env 248 [(220, Value.agg #[x220, Value.bool true]), (219, Value.agg #[x219, Value.bool false]), (8, Value.pointer (some ⟨p66, 0, none⟩)), (7, Value.pointer (some ⟨p43, 0, none⟩)), (6, Value.pointer (some ⟨p31, 0, none⟩)), (5, Value.pointer (some ⟨p25, 0, none⟩)), (4, Value.pointer (some ⟨p12, 0, none⟩)), (3, Value.pointer (some ⟨p10, 0, none⟩)), (2, Value.pointer (some ⟨p8, 0, none⟩)), (1, Value.pointer (some ⟨p6, 0, none⟩))] aa := ((hB.env.add h219).add h220)
                        exact .inr ⟨(wanted_plain rfl _), does_call Tryd.func24 (by kernel_rfl) rfl rfl (he.args rfl) (equal_s _ [aC] false _ [aC] true false kn46 (by decide) (by decide) ww hx219 hx220) (fun e_ w_ h_ => ⟨_, h_.1, h_.2, rfl⟩)⟩
                      refine StepsAll.cons ?_ ?_
                      · intro aa ww hB hd
                        have h221 : aa.eval (.tmp 221) = Value.bool false := hd 4 (by kernel_rfl)
                        have he : Env 248 [(221, Value.bool false), (8, Value.pointer (some ⟨p66, 0, none⟩)), (7, Value.pointer (some ⟨p43, 0, none⟩)), (6, Value.pointer (some ⟨p31, 0, none⟩)), (5, Value.pointer (some ⟨p25, 0, none⟩)), (4, Value.pointer (some ⟨p12, 0, none⟩)), (3, Value.pointer (some ⟨p10, 0, none⟩)), (2, Value.pointer (some ⟨p8, 0, none⟩)), (1, Value.pointer (some ⟨p6, 0, none⟩))] aa := (hB.env.add h221)
                        exact .inr ⟨(wanted_plain rfl _), Does.val (v := Value.bool true) (rn_not (b := false) rfl (he.op rfl) ww) ⟨Fr.refl _ _, rfl⟩⟩
                      refine StepsAll.cons ?_ ?_
                      · intro aa ww hB hd
                        have h222 : aa.eval (.tmp 222) = Value.bool true := hd 5 (by kernel_rfl)
                        have he : Env 248 [(222, Value.bool true), (8, Value.pointer (some ⟨p66, 0, none⟩)), (7, Value.pointer (some ⟨p43, 0, none⟩)), (6, Value.pointer (some ⟨p31, 0, none⟩)), (5, Value.pointer (some ⟨p25, 0, none⟩)), (4, Value.pointer (some ⟨p12, 0, none⟩)), (3, Value.pointer (some ⟨p10, 0, none⟩)), (2, Value.pointer (some ⟨p8, 0, none⟩)), (1, Value.pointer (some ⟨p6, 0, none⟩))] aa := (hB.env.add h222)
                        exact .inr ⟨(wanted_plain rfl _), Does.val (v := Value.bool true) (rn_mv rfl (he.op rfl) ww) ⟨Fr.refl _ _, rfl⟩⟩
                      refine StepsAll.cons ?_ ?_
                      · intro aa ww hB hd
                        have h223 : aa.eval (.tmp 223) = Value.bool true := hd 6 (by kernel_rfl)
                        have he : Env 248 [(223, Value.bool true), (8, Value.pointer (some ⟨p66, 0, none⟩)), (7, Value.pointer (some ⟨p43, 0, none⟩)), (6, Value.pointer (some ⟨p31, 0, none⟩)), (5, Value.pointer (some ⟨p25, 0, none⟩)), (4, Value.pointer (some ⟨p12, 0, none⟩)), (3, Value.pointer (some ⟨p10, 0, none⟩)), (2, Value.pointer (some ⟨p8, 0, none⟩)), (1, Value.pointer (some ⟨p6, 0, none⟩))] aa := (hB.env.add h223)
                        exact .inr ⟨(he.want rfl rfl rfl rfl rfl), Does.val (v := Ce.v aC) (rn_load rfl (he.op rfl) (hB.held.1.at (i := 9) rfl)) ⟨Fr.refl _ _, rfl⟩⟩
                      refine StepsAll.cons ?_ ?_
                      · intro aa ww hB hd
                        have h224 : aa.eval (.tmp 224) = Ce.v aC := hd 7 (by kernel_rfl)
                        have h223 : aa.eval (.tmp 223) = Value.bool true := hd 6 (by kernel_rfl)
                        have he : Env 248 [(223, Value.bool true), (224, Ce.v aC), (8, Value.pointer (some ⟨p66, 0, none⟩)), (7, Value.pointer (some ⟨p43, 0, none⟩)), (6, Value.pointer (some ⟨p31, 0, none⟩)), (5, Value.pointer (some ⟨p25, 0, none⟩)), (4, Value.pointer (some ⟨p12, 0, none⟩)), (3, Value.pointer (some ⟨p10, 0, none⟩)), (2, Value.pointer (some ⟨p8, 0, none⟩)), (1, Value.pointer (some ⟨p6, 0, none⟩))] aa := ((hB.env.add h224).add h223)
                        exact .inr ⟨(he.want rfl rfl rfl rfl rfl), Does.val (rn_bs1 rfl (he.op rfl) ww) ⟨(Fr.refl _ _).alloc _, SlC.mk (rdc_lit ww [aC] _ rfl 1 rfl) (Nat.le_refl _)⟩⟩
                      refine StepsAll.cons ?_ ?_
                      · intro aa ww hB hd
                        have hx225 : SlC ww (aa.eval (.tmp 225)) [aC] := hd 8 (by kernel_rfl)
                        obtain ⟨x225, h225⟩ : ∃ x, aa.eval (.tmp 225) = x := ⟨_, rfl⟩
                        rw [h225] at hx225
                        have h223 : aa.eval (.tmp 223) = Value.bool true := hd 6 (by kernel_rfl)
                        have he : Env 248 [(223, Value.bool true), (225, x225), (8, Value.pointer (some ⟨p66, 0, none⟩)), (7, Value.pointer (some ⟨p43, 0, none⟩)), (6, Value.pointer (some ⟨p31, 0, none⟩)), (5, Value.pointer (some ⟨p25, 0, none⟩)), (4, Value.pointer (some ⟨p12, 0, none⟩)), (3, Value.pointer (some ⟨p10, 0, none⟩)), (2, Value.pointer (some ⟨p8, 0, none⟩)), (1, Value.pointer (some ⟨p6, 0, none⟩))] aa := ((hB.env.add h225).add h223)
                        exact .inr ⟨(he.want rfl rfl rfl rfl rfl), does_call Tryd.func37 (by kernel_rfl) rfl rfl (he.args rfl) (hard_any _ _ ww hx225) (fun e_ w_ h_ => h_)⟩
                      refine StepsAll.cons ?_ ?_
                      · intro aa ww hB hd
                        have h223 : aa.eval (.tmp 223) = Value.bool true := hd 6 (by kernel_rfl)
                        have he : Env 248 [(223, Value.bool true), (8, Value.pointer (some ⟨p66, 0, none⟩)), (7, Value.pointer (some ⟨p43, 0, none⟩)), (6, Value.pointer (some ⟨p31, 0, none⟩)), (5, Value.pointer (some ⟨p25, 0, none⟩)), (4, Value.pointer (some ⟨p12, 0, none⟩)), (3, Value.pointer (some ⟨p10, 0, none⟩)), (2, Value.pointer (some ⟨p8, 0, none⟩)), (1, Value.pointer (some ⟨p6, 0, none⟩))] aa := (hB.env.add h223)
                        exact .inr ⟨(he.want rfl rfl rfl rfl rfl), Does.val (v := Ce.v aC) (rn_load rfl (he.op rfl) (hB.held.1.at (i := 9) rfl)) ⟨Fr.refl _ _, rfl⟩⟩
                      refine StepsAll.cons ?_ ?_
                      · intro aa ww hB hd
                        have h223 : aa.eval (.tmp 223) = Value.bool true := hd 6 (by kernel_rfl)
                        have he : Env 248 [(223, Value.bool true), (8, Value.pointer (some ⟨p66, 0, none⟩)), (7, Value.pointer (some ⟨p43, 0, none⟩)), (6, Value.pointer (some ⟨p31, 0, none⟩)), (5, Value.pointer (some ⟨p25, 0, none⟩)), (4, Value.pointer (some ⟨p12, 0, none⟩)), (3, Value.pointer (some ⟨p10, 0, none⟩)), (2, Value.pointer (some ⟨p8, 0, none⟩)), (1, Value.pointer (some ⟨p6, 0, none⟩))] aa := (hB.env.add h223)
                        exact .inr ⟨(he.want rfl rfl rfl rfl rfl), Does.val (v := Ce.v eC) (rn_load rfl (he.op rfl) (hB.held.1.at (i := 6) rfl)) ⟨Fr.refl _ _, rfl⟩⟩
                      refine StepsAll.cons ?_ ?_
                      · intro aa ww hB hd
                        have h227 : aa.eval (.tmp 227) = Ce.v aC := hd 10 (by kernel_rfl)
                        have h228 : aa.eval (.tmp 228) = Ce.v eC := hd 11 (by kernel_rfl)
                        have h223 : aa.eval (.tmp 223) = Value.bool true := hd 6 (by kernel_rfl)
                        have he : Env 248 [(223, Value.bool true), (228, Ce.v eC), (227, Ce.v aC), (8, Value.pointer (some ⟨p66, 0, none⟩)), (7, Value.pointer (some ⟨p43, 0, none⟩)), (6, Value.pointer (some ⟨p31, 0, none⟩)), (5, Value.pointer (some ⟨p25, 0, none⟩)), (4, Value.pointer (some ⟨p12, 0, none⟩)), (3, Value.pointer (some ⟨p10, 0, none⟩)), (2, Value.pointer (some ⟨p8, 0, none⟩)), (1, Value.pointer (some ⟨p6, 0, none⟩))] aa := (((hB.env.add h227).add h228).add h223)
                        exact .inr ⟨(he.want rfl rfl rfl rfl rfl), Does.val (rn_bs2 rfl (he.op rfl) (he.op rfl) ww) ⟨(Fr.refl _ _).alloc _, SlC.mk (rdc_lit ww [aC, eC] _ rfl 2 rfl) (Nat.le_refl _)⟩⟩
                      refine StepsAll.cons ?_ ?_
                      · intro aa ww hB hd
                        have hx229 : SlC ww (aa.eval (.tmp 229)) [aC, eC] := hd 12 (by kernel_rfl)
                        obtain ⟨x229, h229⟩ : ∃ x, aa.eval (.tmp 229) = x := ⟨_, rfl⟩
                        rw [h229] at hx229
                        have h223 : aa.eval (.tmp 223) = Value.bool true := hd 6 (by kernel_rfl)
                        have he : Env 248 [(223, Value.bool true), (229, x229), (8, Value.pointer (some ⟨p66, 0, none⟩)), (7, Value.pointer (some ⟨p43, 0, none⟩)), (6, Value.pointer (some ⟨p31, 0, none⟩)), (5, Value.pointer (some ⟨p25, 0, none⟩)), (4, Value.pointer (some ⟨p12, 0, none⟩)), (3, Value.pointer (some ⟨p10, 0, none⟩)), (2, Value.pointer (some ⟨p8, 0, none⟩)), (1, Value.pointer (some ⟨p6, 0, none⟩))] aa := ((hB.env.add h229).add h223)
                        exact .inr ⟨(he.want rfl rfl rfl rfl rfl), does_call Tryd.func37 (by kernel_rfl) rfl rfl (he.args rfl) (hard_any _ _ ww hx229) (fun e_ w_ h_ => h_)⟩
                      refine StepsAll.cons ?_ ?_
                      · intro aa ww hB hd
                        have hx226 : ∃ x, aa.eval (.tmp 226) = .agg #[x, .bool false] ∧ SlC ww x [aC] := hd 9 (by kernel_rfl)
                        obtain ⟨x226, h226, hx226⟩ := hx226
                        have hx230 : ∃ x, aa.eval (.tmp 230) = .agg #[x, .bool false] ∧ SlC ww x [aC, eC] := hd 13 (by kernel_rfl)
                        obtain ⟨x230, h230, hx230⟩ := hx230
                        have h223 : aa.eval (.tmp 223) = Value.bool true := hd 6 (by kernel_rfl)
                        have he : Env 248 [(223, Value.bool true), (230, Value.agg #[x230, Value.bool false]), (226, Value.agg #[x226, Value.bool false]), (8, Value.pointer (some ⟨p66, 0, none⟩)), (7, Value.pointer (some ⟨p43, 0, none⟩)), (6, Value.pointer (some ⟨p31, 0, none⟩)), (5, Value.pointer (some ⟨p25, 0, none⟩)), (4, Value.pointer (some ⟨p12, 0, none⟩)), (3, Value.pointer (some ⟨p10, 0, none⟩)), (2, Value.pointer (some ⟨p8, 0, none⟩)), (1, Value.pointer (some ⟨p6, 0, none⟩))] aa := (((hB.env.add h226).add h230).add h223)
                        exact .inr ⟨(he.want rfl rfl rfl rfl rfl), does_call Tryd.func24 (by kernel_rfl) rfl rfl (he.args rfl) (equal_s _ [aC] false _ [aC, eC] false false kn49 (by decide) (by decide) ww hx226 hx230) (fun e_ w_ h_ => ⟨_, h_.1, h_.2, rfl⟩)⟩
                      refine StepsAll.cons ?_ ?_
                      · intro aa ww hB hd
                        have h231 : aa.eval (.tmp 231) = Value.bool false := hd 14 (by kernel_rfl)
                        have h223 : aa.eval (.tmp 223) = Value.bool true := hd 6 (by kernel_rfl)
                        have he : Env 248 [(223, Value.bool true), (231, Value.bool false), (8, Value.pointer (some ⟨p66, 0, none⟩)), (7, Value.pointer (some ⟨p43, 0, none⟩)), (6, Value.pointer (some ⟨p31, 0, none⟩)), (5, Value.pointer (some ⟨p25, 0, none⟩)), (4, Value.pointer (some ⟨p12, 0, none⟩)), (3, Value.pointer (some ⟨p10, 0, none⟩)), (2, Value.pointer (some ⟨p8, 0, none⟩)), (1, Value.pointer (some ⟨p6, 0, none⟩))] aa := ((hB.env.add h231).add h223)
                        exact .inr ⟨(he.want rfl rfl rfl rfl rfl), Does.val (v := Value.bool true) (rn_not (b := false) rfl (he.op rfl) ww) ⟨Fr.refl _ _, rfl⟩⟩
                      refine StepsAll.cons ?_ ?_
                      · intro aa ww hB hd
                        have h223 : aa.eval (.tmp 223) = Value.bool true := hd 6 (by kernel_rfl)
                        have h232 : aa.eval (.tmp 232) = Value.bool true := hd 15 (by kernel_rfl)
                        have he : Env 248 [(232, Value.bool true), (223, Value.bool true), (8, Value.pointer (some ⟨p66, 0, none⟩)), (7, Value.pointer (some ⟨p43, 0, none⟩)), (6, Value.pointer (some ⟨p31, 0, none⟩)), (5, Value.pointer (some ⟨p25, 0, none⟩)), (4, Value.pointer (some ⟨p12, 0, none⟩)), (3, Value.pointer (some ⟨p10, 0, none⟩)), (2, Value.pointer (some ⟨p8, 0, none⟩)), (1, Value.pointer (some ⟨p6, 0, none⟩))] aa := ((hB.env.add h223).add h232)
                        exact .inr ⟨(wanted_plain rfl _), Does.val (v := Value.bool true) (rn_pk rfl (he.op rfl) (he.op rfl) ww) ⟨Fr.refl _ _, rfl⟩⟩
                      refine StepsAll.cons ?_ ?_
                      · intro aa ww hB hd
                        have h233 : aa.eval (.tmp 233) = Value.bool true := hd 16 (by kernel_rfl)
                        have he : Env 248 [(233, Value.bool true), (8, Value.pointer (some ⟨p66, 0, none⟩)), (7, Value.pointer (some ⟨p43, 0, none⟩)), (6, Value.pointer (some ⟨p31, 0, none⟩)), (5, Value.pointer (some ⟨p25, 0, none⟩)), (4, Value.pointer (some ⟨p12, 0, none⟩)), (3, Value.pointer (some ⟨p10, 0, none⟩)), (2, Value.pointer (some ⟨p8, 0, none⟩)), (1, Value.pointer (some ⟨p6, 0, none⟩))] aa := (hB.env.add h233)
                        exact .inr ⟨(wanted_plain rfl _), Does.val (v := Value.bool true) (rn_mv rfl (he.op rfl) ww) ⟨Fr.refl _ _, rfl⟩⟩
                      refine StepsAll.cons ?_ ?_
                      · intro aa ww hB hd
                        have h234 : aa.eval (.tmp 234) = Value.bool true := hd 17 (by kernel_rfl)
                        have he : Env 248 [(234, Value.bool true), (8, Value.pointer (some ⟨p66, 0, none⟩)), (7, Value.pointer (some ⟨p43, 0, none⟩)), (6, Value.pointer (some ⟨p31, 0, none⟩)), (5, Value.pointer (some ⟨p25, 0, none⟩)), (4, Value.pointer (some ⟨p12, 0, none⟩)), (3, Value.pointer (some ⟨p10, 0, none⟩)), (2, Value.pointer (some ⟨p8, 0, none⟩)), (1, Value.pointer (some ⟨p6, 0, none⟩))] aa := (hB.env.add h234)
                        exact .inr ⟨(he.want rfl rfl rfl rfl rfl), Does.val (v := Ce.v aC) (rn_load rfl (he.op rfl) (hB.held.1.at (i := 9) rfl)) ⟨Fr.refl _ _, rfl⟩⟩
                      refine StepsAll.cons ?_ ?_
                      · intro aa ww hB hd
                        have h234 : aa.eval (.tmp 234) = Value.bool true := hd 17 (by kernel_rfl)
                        have he : Env 248 [(234, Value.bool true), (8, Value.pointer (some ⟨p66, 0, none⟩)), (7, Value.pointer (some ⟨p43, 0, none⟩)), (6, Value.pointer (some ⟨p31, 0, none⟩)), (5, Value.pointer (some ⟨p25, 0, none⟩)), (4, Value.pointer (some ⟨p12, 0, none⟩)), (3, Value.pointer (some ⟨p10, 0, none⟩)), (2, Value.pointer (some ⟨p8, 0, none⟩)), (1, Value.pointer (some ⟨p6, 0, none⟩))] aa := (hB.env.add h234)
                        exact .inr ⟨(he.want rfl rfl rfl rfl rfl), Does.val (v := Ce.v wC) (rn_load rfl (he.op rfl) (hB.held.1.at (i := 8) rfl)) ⟨Fr.refl _ _, rfl⟩⟩
                      refine StepsAll.cons ?_ ?_
                      · intro aa ww hB hd
                        have h234 : aa.eval (.tmp 234) = Value.bool true := hd 17 (by kernel_rfl)
                        have he : Env 248 [(234, Value.bool true), (8, Value.pointer (some ⟨p66, 0, none⟩)), (7, Value.pointer (some ⟨p43, 0, none⟩)), (6, Value.pointer (some ⟨p31, 0, none⟩)), (5, Value.pointer (some ⟨p25, 0, none⟩)), (4, Value.pointer (some ⟨p12, 0, none⟩)), (3, Value.pointer (some ⟨p10, 0, none⟩)), (2, Value.pointer (some ⟨p8, 0, none⟩)), (1, Value.pointer (some ⟨p6, 0, none⟩))] aa := (hB.env.add h234)
                        exact .inr ⟨(he.want rfl rfl rfl rfl rfl), Does.val (v := Ce.v zeroCe) (rn_load rfl (he.op rfl) (hB.held.1.at (i := 7) rfl)) ⟨Fr.refl _ _, rfl⟩⟩
                      refine StepsAll.cons ?_ ?_
                      · intro aa ww hB hd
                        have h235 : aa.eval (.tmp 235) = Ce.v aC := hd 18 (by kernel_rfl)
                        have h236 : aa.eval (.tmp 236) = Ce.v wC := hd 19 (by kernel_rfl)
                        have h237 : aa.eval (.tmp 237) = Ce.v zeroCe := hd 20 (by kernel_rfl)
                        have h234 : aa.eval (.tmp 234) = Value.bool true := hd 17 (by kernel_rfl)
                        have he : Env 248 [(234, Value.bool true), (237, Ce.v zeroCe), (236, Ce.v wC), (235, Ce.v aC), (8, Value.pointer (some ⟨p66, 0, none⟩)), (7, Value.pointer (some ⟨p43, 0, none⟩)), (6, Value.pointer (some ⟨p31, 0, none⟩)), (5, Value.pointer (some ⟨p25, 0, none⟩)), (4, Value.pointer (some ⟨p12, 0, none⟩)), (3, Value.pointer (some ⟨p10, 0, none⟩)), (2, Value.pointer (some ⟨p8, 0, none⟩)), (1, Value.pointer (some ⟨p6, 0, none⟩))] aa := ((((hB.env.add h235).add h236).add h237).add h234)
                        exact .inr ⟨(he.want rfl rfl rfl rfl rfl), Does.val (rn_bs3 rfl (he.op rfl) (he.op rfl) (he.op rfl) ww) ⟨(Fr.refl _ _).alloc _, SlC.mk (rdc_lit ww [aC, wC, zeroCe] _ rfl 3 rfl) (Nat.le_refl _)⟩⟩
                      refine StepsAll.cons ?_ ?_
                      · intro aa ww hB hd
                        have hx238 : SlC ww (aa.eval (.tmp 238)) [aC, wC, zeroCe] := hd 21 (by kernel_rfl)
                        obtain ⟨x238, h238⟩ : ∃ x, aa.eval (.tmp 238) = x := ⟨_, rfl⟩
                        rw [h238] at hx238
                        have h234 : aa.eval (.tmp 234) = Value.bool true := hd 17 (by kernel_rfl)
                        have he : Env 248 [(234, Value.bool true), (238, x238), (8, Value.pointer (some ⟨p66, 0, none⟩)), (7, Value.pointer (some ⟨p43, 0, none⟩)), (6, Value.pointer (some ⟨p31, 0, none⟩)), (5, Value.pointer (some ⟨p25, 0, none⟩)), (4, Value.pointer (some ⟨p12, 0, none⟩)), (3, Value.pointer (some ⟨p10, 0, none⟩)), (2, Value.pointer (some ⟨p8, 0, none⟩)), (1, Value.pointer (some ⟨p6, 0, none⟩))] aa := ((hB.env.add h238).add h234)
                        exact .inr ⟨(he.want rfl rfl rfl rfl rfl), does_call Tryd.func37 (by kernel_rfl) rfl rfl (he.args rfl) (hard_any _ _ ww hx238) (fun e_ w_ h_ => h_)⟩
                      refine StepsAll.cons ?_ ?_
                      · intro aa ww hB hd
                        have hx239 : ∃ x, aa.eval (.tmp 239) = .agg #[x, .bool false] ∧ SlC ww x [aC, wC, zeroCe] := hd 22 (by kernel_rfl)
                        obtain ⟨x239, h239, hx239⟩ := hx239
                        have h234 : aa.eval (.tmp 234) = Value.bool true := hd 17 (by kernel_rfl)
                        have he : Env 248 [(234, Value.bool true), (239, Value.agg #[x239, Value.bool false]), (8, Value.pointer (some ⟨p66, 0, none⟩)), (7, Value.pointer (some ⟨p43, 0, none⟩)), (6, Value.pointer (some ⟨p31, 0, none⟩)), (5, Value.pointer (some ⟨p25, 0, none⟩)), (4, Value.pointer (some ⟨p12, 0, none⟩)), (3, Value.pointer (some ⟨p10, 0, none⟩)), (2, Value.pointer (some ⟨p8, 0, none⟩)), (1, Value.pointer (some ⟨p6, 0, none⟩))] aa := ((hB.env.add h239).add h234)
                        exact .inr ⟨(he.want rfl rfl rfl rfl rfl), does_call Tryd.func27 (by kernel_rfl) rfl rfl (he.args rfl) (copy_s _ [aC, wC, zeroCe] false (by decide) ww hx239) (fun e_ w_ h_ => h_)⟩
                      refine StepsAll.cons ?_ ?_
                      · intro aa ww hB hd
                        have h234 : aa.eval (.tmp 234) = Value.bool true := hd 17 (by kernel_rfl)
                        have he : Env 248 [(234, Value.bool true), (8, Value.pointer (some ⟨p66, 0, none⟩)), (7, Value.pointer (some ⟨p43, 0, none⟩)), (6, Value.pointer (some ⟨p31, 0, none⟩)), (5, Value.pointer (some ⟨p25, 0, none⟩)), (4, Value.pointer (some ⟨p12, 0, none⟩)), (3, Value.pointer (some ⟨p10, 0, none⟩)), (2, Value.pointer (some ⟨p8, 0, none⟩)), (1, Value.pointer (some ⟨p6, 0, none⟩))] aa := (hB.env.add h234)
                        exact .inr ⟨(he.want rfl rfl rfl rfl rfl), Does.val (v := Ce.v aC) (rn_load rfl (he.op rfl) (hB.held.1.at (i := 9) rfl)) ⟨Fr.refl _ _, rfl⟩⟩
                      refine StepsAll.cons ?_ ?_
                      · intro aa ww hB hd
                        have h234 : aa.eval (.tmp 234) = Value.bool true := hd 17 (by kernel_rfl)
                        have he : Env 248 [(234, Value.bool true), (8, Value.pointer (some ⟨p66, 0, none⟩)), (7, Value.pointer (some ⟨p43, 0, none⟩)), (6, Value.pointer (some ⟨p31, 0, none⟩)), (5, Value.pointer (some ⟨p25, 0, none⟩)), (4, Value.pointer (some ⟨p12, 0, none⟩)), (3, Value.pointer (some ⟨p10, 0, none⟩)), (2, Value.pointer (some ⟨p8, 0, none⟩)), (1, Value.pointer (some ⟨p6, 0, none⟩))] aa := (hB.env.add h234)
                        exact .inr ⟨(he.want rfl rfl rfl rfl rfl), Does.val (v := Ce.v wC) (rn_load rfl (he.op rfl) (hB.held.1.at (i := 8) rfl)) ⟨Fr.refl _ _, rfl⟩⟩
                      refine StepsAll.cons ?_ ?_
                      · intro aa ww hB hd
                        have h234 : aa.eval (.tmp 234) = Value.bool true := hd 17 (by kernel_rfl)
                        have he : Env 248 [(234, Value.bool true), (8, Value.pointer (some ⟨p66, 0, none⟩)), (7, Value.pointer (some ⟨p43, 0, none⟩)), (6, Value.pointer (some ⟨p31, 0, none⟩)), (5, Value.pointer (some ⟨p25, 0, none⟩)), (4, Value.pointer (some ⟨p12, 0, none⟩)), (3, Value.pointer (some ⟨p10, 0, none⟩)), (2, Value.pointer (some ⟨p8, 0, none⟩)), (1, Value.pointer (some ⟨p6, 0, none⟩))] aa := (hB.env.add h234)
                        exact .inr ⟨(he.want rfl rfl rfl rfl rfl), Does.val (v := Ce.v zeroCe) (rn_load rfl (he.op rfl) (hB.held.1.at (i := 7) rfl)) ⟨Fr.refl _ _, rfl⟩⟩
                      refine StepsAll.cons ?_ ?_
                      · intro aa ww hB hd
                        have h241 : aa.eval (.tmp 241) = Ce.v aC := hd 24 (by kernel_rfl)
                        have h242 : aa.eval (.tmp 242) = Ce.v wC := hd 25 (by kernel_rfl)
                        have h243 : aa.eval (.tmp 243) = Ce.v zeroCe := hd 26 (by kernel_rfl)
                        have h234 : aa.eval (.tmp 234) = Value.bool true := hd 17 (by kernel_rfl)
                        have he : Env 248 [(234, Value.bool true), (243, Ce.v zeroCe), (242, Ce.v wC), (241, Ce.v aC), (8, Value.pointer (some ⟨p66, 0, none⟩)), (7, Value.pointer (some ⟨p43, 0, none⟩)), (6, Value.pointer (some ⟨p31, 0, none⟩)), (5, Value.pointer (some ⟨p25, 0, none⟩)), (4, Value.pointer (some ⟨p12, 0, none⟩)), (3, Value.pointer (some ⟨p10, 0, none⟩)), (2, Value.pointer (some ⟨p8, 0, none⟩)), (1, Value.pointer (some ⟨p6, 0, none⟩))] aa := ((((hB.env.add h241).add h242).add h243).add h234)
                        exact .inr ⟨(he.want rfl rfl rfl rfl rfl), Does.val (rn_bs3 rfl (he.op rfl) (he.op rfl) (he.op rfl) ww) ⟨(Fr.refl _ _).alloc _, SlC.mk (rdc_lit ww [aC, wC, zeroCe] _ rfl 3 rfl) (Nat.le_refl _)⟩⟩
                      refine StepsAll.cons ?_ ?_
                      · intro aa ww hB hd
                        have hx244 : SlC ww (aa.eval (.tmp 244)) [aC, wC, zeroCe] := hd 27 (by kernel_rfl)
                        obtain ⟨x244, h244⟩ : ∃ x, aa.eval (.tmp 244) = x := ⟨_, rfl⟩
                        rw [h244] at hx244
                        have h234 : aa.eval (.tmp 234) = Value.bool true := hd 17 (by kernel_rfl)
                        have he : Env 248 [(234, Value.bool true), (244, x244), (8, Value.pointer (some ⟨p66, 0, none⟩)), (7, Value.pointer (some ⟨p43, 0, none⟩)), (6, Value.pointer (some ⟨p31, 0, none⟩)), (5, Value.pointer (some ⟨p25, 0, none⟩)), (4, Value.pointer (some ⟨p12, 0, none⟩)), (3, Value.pointer (some ⟨p10, 0, none⟩)), (2, Value.pointer (some ⟨p8, 0, none⟩)), (1, Value.pointer (some ⟨p6, 0, none⟩))] aa := ((hB.env.add h244).add h234)
                        exact .inr ⟨(he.want rfl rfl rfl rfl rfl), does_call Tryd.func37 (by kernel_rfl) rfl rfl (he.args rfl) (hard_any _ _ ww hx244) (fun e_ w_ h_ => h_)⟩
                      refine StepsAll.cons ?_ ?_
                      · intro aa ww hB hd
                        have hx240 : ∃ x, aa.eval (.tmp 240) = .agg #[x, .bool false] ∧ SlC ww x [aC, wC, zeroCe] := hd 23 (by kernel_rfl)
                        obtain ⟨x240, h240, hx240⟩ := hx240
                        have hx245 : ∃ x, aa.eval (.tmp 245) = .agg #[x, .bool false] ∧ SlC ww x [aC, wC, zeroCe] := hd 28 (by kernel_rfl)
                        obtain ⟨x245, h245, hx245⟩ := hx245
                        have h234 : aa.eval (.tmp 234) = Value.bool true := hd 17 (by kernel_rfl)
                        have he : Env 248 [(234, Value.bool true), (245, Value.agg #[x245, Value.bool false]), (240, Value.agg #[x240, Value.bool false]), (8, Value.pointer (some ⟨p66, 0, none⟩)), (7, Value.pointer (some ⟨p43, 0, none⟩)), (6, Value.pointer (some ⟨p31, 0, none⟩)), (5, Value.pointer (some ⟨p25, 0, none⟩)), (4, Value.pointer (some ⟨p12, 0, none⟩)), (3, Value.pointer (some ⟨p10, 0, none⟩)), (2, Value.pointer (some ⟨p8, 0, none⟩)), (1, Value.pointer (some ⟨p6, 0, none⟩))] aa := (((hB.env.add h240).add h245).add h234)
                        exact .inr ⟨(he.want rfl rfl rfl rfl rfl), does_call Tryd.func25 (by kernel_rfl) rfl rfl (he.args rfl) (same_s _ [aC, wC, zeroCe] false _ [aC, wC, zeroCe] false true kn53 (by decide) (by decide) ww hx240 hx245) (fun e_ w_ h_ => ⟨_, h_.1, h_.2, rfl⟩)⟩
                      refine StepsAll.cons ?_ ?_
                      · intro aa ww hB hd
                        have h234 : aa.eval (.tmp 234) = Value.bool true := hd 17 (by kernel_rfl)
                        have h246 : aa.eval (.tmp 246) = Value.bool true := hd 29 (by kernel_rfl)
                        have he : Env 248 [(246, Value.bool true), (234, Value.bool true), (8, Value.pointer (some ⟨p66, 0, none⟩)), (7, Value.pointer (some ⟨p43, 0, none⟩)), (6, Value.pointer (some ⟨p31, 0, none⟩)), (5, Value.pointer (some ⟨p25, 0, none⟩)), (4, Value.pointer (some ⟨p12, 0, none⟩)), (3, Value.pointer (some ⟨p10, 0, none⟩)), (2, Value.pointer (some ⟨p8, 0, none⟩)), (1, Value.pointer (some ⟨p6, 0, none⟩))] aa := ((hB.env.add h234).add h246)
                        exact .inr ⟨(wanted_plain rfl _), Does.val (v := Value.bool true) (rn_pk rfl (he.op rfl) (he.op rfl) ww) ⟨Fr.refl _ _, rfl⟩⟩
                      refine StepsAll.cons ?_ ?_
                      · intro aa ww hB hd
                        have h247 : aa.eval (.tmp 247) = Value.bool true := hd 30 (by kernel_rfl)
                        have he : Env 248 [(247, Value.bool true), (8, Value.pointer (some ⟨p66, 0, none⟩)), (7, Value.pointer (some ⟨p43, 0, none⟩)), (6, Value.pointer (some ⟨p31, 0, none⟩)), (5, Value.pointer (some ⟨p25, 0, none⟩)), (4, Value.pointer (some ⟨p12, 0, none⟩)), (3, Value.pointer (some ⟨p10, 0, none⟩)), (2, Value.pointer (some ⟨p8, 0, none⟩)), (1, Value.pointer (some ⟨p6, 0, none⟩))] aa := (hB.env.add h247)
                        exact .inr ⟨(wanted_plain rfl _), Does.val (v := Value.bool true) (rn_asg rfl (he.op rfl) ww) ⟨Fr.refl _ _, rfl⟩⟩
                      exact StepsAll.nil
                    · intro aa ww hB hall
                      have h0 : aa.eval (.tmp 0) = Value.bool true := hall 31 (Nat.le_of_ble_eq_true (n := 32) (by kernel_rfl))
                      have he76 : Env 248 [(0, Value.bool true), (8, Value.pointer (some ⟨p66, 0, none⟩)), (7, Value.pointer (some ⟨p43, 0, none⟩)), (6, Value.pointer (some ⟨p31, 0, none⟩)), (5, Value.pointer (some ⟨p25, 0, none⟩)), (4, Value.pointer (some ⟨p12, 0, none⟩)), (3, Value.pointer (some ⟨p10, 0, none⟩)), (2, Value.pointer (some ⟨p8, 0, none⟩)), (1, Value.pointer (some ⟨p6, 0, none⟩))] aa := (hB.env.add h0)
                      have hH76 := hB.held.1
                      have hTt := hB.held.2
                      clear hB hall heb75 hH72 h0
                      refine then_ok ?_
                      clear hTt
                      refine wp_ret ?_
                      try simp only [Exit.then, Exit.inBlock]
                      exact ret_env rfl he76 rfl ⟨rfl, hH76.new⟩

end Go.Proofs.YtjcpdldaimebbaaDoor
