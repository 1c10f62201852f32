/-
  The examples of the chapter.
-/
import Derived.Test.YtaiijndldngnkaaDoorKLaws
namespace Go.Proofs.YtaiijndldngnkaaDoor
open Go.RowKit

def aC : Ce := ⟨97, 0, 0, 0, 1, zeroP⟩
def eC : Ce := ⟨0, 0, 0, 0, 1, zeroP⟩
def wC : Ce := ⟨19968, 0, 0, 0, 2, zeroP⟩
def bC : Ce := ⟨97, 0, 0, 0, 2, zeroP⟩
def mC : Ce := ⟨97, 769, 0, 0, 1, zeroP⟩
def xW : Wd := ⟨0, 2097249, 0⟩
def yW : Wd := ⟨0, 2097152, 0⟩
def zW : Wd := ⟨0, 4214272, 0⟩
def mW : Wd := ⟨0, 2097249, 769⟩
def n1 : Wd := ⟨0, 97, 0⟩
def n2 : Wd := ⟨1, 2097152, 0⟩
def n3 : Wd := ⟨0, 8388608, 0⟩
def n4 : Wd := ⟨0, 2097152, 769⟩
theorem ok_xW : (xW : Wd).Ok := by constructor <;> decide
theorem ok_yW : (yW : Wd).Ok := by constructor <;> decide
theorem ok_zW : (zW : Wd).Ok := by constructor <;> decide
theorem ok_mW : (mW : Wd).Ok := by constructor <;> decide
theorem ok_n1 : (n1 : Wd).Ok := by constructor <;> decide
theorem ok_n2 : (n2 : Wd).Ok := by constructor <;> decide
theorem ok_n3 : (n3 : Wd).Ok := by constructor <;> decide
theorem ok_n4 : (n4 : Wd).Ok := by constructor <;> decide
theorem ok_zeroW : (zeroW : Wd).Ok := by constructor <;> decide
def okRb (r : Rn) : Bool := decide (-9223372036854775808 ≤ r.n) && decide (r.n ≤ 9223372036854775807) && decide (0 ≤ r.w.a) && decide (r.w.a < 18446744073709551616) && decide (0 ≤ r.w.b) && decide (r.w.b < 18446744073709551616) && decide (0 ≤ r.w.c) && decide (r.w.c < 18446744073709551616)
theorem okR (l : List Rn) (h : l.all okRb = true) : ∀ r ∈ l, r.Ok := fun r hr => by
  have := List.all_eq_true.1 h r hr
  simp only [okRb, Bool.and_eq_true, decide_eq_true_eq] at this
  exact ⟨this.1.1.1.1.1.1.1, this.1.1.1.1.1.1.2, ⟨this.1.1.1.1.1.2, this.1.1.1.1.2, this.1.1.1.2, this.1.1.2, this.1.2, this.2⟩⟩
theorem okP (l : List Ce) (h : ∀ c ∈ l, c.p = zeroP) : ∀ c ∈ l, c.p.Ok := fun c hc => h c hc ▸ zeroP_ok
theorem kw0 : (decide (wordsO aC = xW) && (wordsE aC == 0)) = true := by decide +kernel
theorem kw1 : (decide (wordsO eC = yW) && (wordsE eC == 0)) = true := by decide +kernel
theorem kw2 : (decide (wordsO wC = zW) && (wordsE wC == 0)) = true := by decide +kernel
theorem kw3 : (decide (wordsO zeroCe = zeroW) && (wordsE zeroCe == 0)) = true := by decide +kernel
theorem kw4 : (decide (wordsO mC = mW) && (wordsE mC == 0)) = true := by decide +kernel
theorem kw5 : (decide (wordsO bC = zeroW) && (wordsE bC == 2)) = true := by decide +kernel
theorem kc0 : (decide (cellO xW = aC) && (cellE xW == 0)) = true := by decide +kernel
theorem kc1 : (decide (cellO n1 = zeroCe) && (cellE n1 == 12)) = true := by decide +kernel
theorem kc2 : (decide (cellO n2 = zeroCe) && (cellE n2 == 12)) = true := by decide +kernel
theorem kc3 : (decide (cellO n3 = zeroCe) && (cellE n3 == 12)) = true := by decide +kernel
theorem kc4 : (decide (cellO n4 = zeroCe) && (cellE n4 == 12)) = true := by decide +kernel
theorem kp0 : (decide (packO [aC, aC, eC, wC, zeroCe] = [⟨2, xW⟩, ⟨1, yW⟩, ⟨1, zW⟩, ⟨1, zeroW⟩]) && (packE [aC, aC, eC, wC, zeroCe] == 0)) = true := by decide +kernel
theorem kp1 : (decide (packO [] = []) && (packE [] == 0)) = true := by decide +kernel
theorem kn : countR [⟨2, xW⟩, ⟨1, yW⟩] = 3 := by decide +kernel
theorem ku0 : (decide (cellsO [⟨2, xW⟩, ⟨1, yW⟩] = [aC, aC, eC]) && (cellsE [⟨2, xW⟩, ⟨1, yW⟩] == 0)) = true := by decide +kernel
theorem ku1 : (decide (cellsO [⟨1, xW⟩, ⟨1, xW⟩] = []) && (cellsE [⟨1, xW⟩, ⟨1, xW⟩] == 12)) = true := by decide +kernel
theorem ku2 : (decide (cellsO [⟨0, xW⟩] = []) && (cellsE [⟨0, xW⟩] == 12)) = true := by decide +kernel
theorem kj0 : (decide (joinO [⟨1, xW⟩, ⟨1, yW⟩] [⟨2, yW⟩, ⟨1, xW⟩] = [⟨1, xW⟩, ⟨3, yW⟩, ⟨1, xW⟩]) && (joinE [⟨1, xW⟩, ⟨1, yW⟩] [⟨2, yW⟩, ⟨1, xW⟩] == 0)) = true := by decide +kernel
theorem kv : goodR [⟨100001, xW⟩] = false := by decide +kernel
theorem kj1 : (decide (joinO [⟨100000, xW⟩] [⟨1, yW⟩] = []) && (joinE [⟨100000, xW⟩] [⟨1, yW⟩] == 5)) = true := by decide +kernel
abbrev rs2 (x y : Rn) : Array Value := #[.int .i64 x.n, .int .u64 x.w.a, .int .u64 x.w.b, .int .u64 x.w.c, .int .i64 y.n, .int .u64 y.w.a, .int .u64 y.w.b, .int .u64 y.w.c]
theorem bsr2 (x y : Rn) (w : World) : (Instr.buildSlice 43 2 #[(0, .agg x.cs), (1, .agg y.cs)]).run Tryd.prog w = .ok (.slice (some ⟨w.heap.size, 0, none⟩) 2 2) (w.alloc (.cells (rs2 x y) 67)) := by kernel_rfl
abbrev rs3 (x y z : Rn) : Array Value := #[.int .i64 x.n, .int .u64 x.w.a, .int .u64 x.w.b, .int .u64 x.w.c, .int .i64 y.n, .int .u64 y.w.a, .int .u64 y.w.b, .int .u64 y.w.c, .int .i64 z.n, .int .u64 z.w.a, .int .u64 z.w.b, .int .u64 z.w.c]
theorem bsr3 (x y z : Rn) (w : World) : (Instr.buildSlice 43 3 #[(0, .agg x.cs), (1, .agg y.cs), (2, .agg z.cs)]).run Tryd.prog w = .ok (.slice (some ⟨w.heap.size, 0, none⟩) 3 3) (w.alloc (.cells (rs3 x y z) 67)) := by kernel_rfl
abbrev rs4 (x y z u : Rn) : Array Value := #[.int .i64 x.n, .int .u64 x.w.a, .int .u64 x.w.b, .int .u64 x.w.c, .int .i64 y.n, .int .u64 y.w.a, .int .u64 y.w.b, .int .u64 y.w.c, .int .i64 z.n, .int .u64 z.w.a, .int .u64 z.w.b, .int .u64 z.w.c, .int .i64 u.n, .int .u64 u.w.a, .int .u64 u.w.b, .int .u64 u.w.c]
theorem bsr4 (x y z u : Rn) (w : World) : (Instr.buildSlice 43 4 #[(0, .agg x.cs), (1, .agg y.cs), (2, .agg z.cs), (3, .agg u.cs)]).run Tryd.prog w = .ok (.slice (some ⟨w.heap.size, 0, none⟩) 4 4) (w.alloc (.cells (rs4 x y z u) 67)) := by kernel_rfl
abbrev cs5 (x y z u v : Ce) : Array Value := #[.int .i32 x.r, .int .i32 x.m0, .int .i32 x.m1, .int .i32 x.m2, .int .i64 x.wd, .int .i64 x.p.fore.k, .int .u8 x.p.fore.i, .int .u8 x.p.fore.r, .int .u8 x.p.fore.g, .int .u8 x.p.fore.b, .int .i64 x.p.back.k, .int .u8 x.p.back.i, .int .u8 x.p.back.r, .int .u8 x.p.back.g, .int .u8 x.p.back.b, .int .u8 x.p.fl, .int .i32 y.r, .int .i32 y.m0, .int .i32 y.m1, .int .i32 y.m2, .int .i64 y.wd, .int .i64 y.p.fore.k, .int .u8 y.p.fore.i, .int .u8 y.p.fore.r, .int .u8 y.p.fore.g, .int .u8 y.p.fore.b, .int .i64 y.p.back.k, .int .u8 y.p.back.i, .int .u8 y.p.back.r, .int .u8 y.p.back.g, .int .u8 y.p.back.b, .int .u8 y.p.fl, .int .i32 z.r, .int .i32 z.m0, .int .i32 z.m1, .int .i32 z.m2, .int .i64 z.wd, .int .i64 z.p.fore.k, .int .u8 z.p.fore.i, .int .u8 z.p.fore.r, .int .u8 z.p.fore.g, .int .u8 z.p.fore.b, .int .i64 z.p.back.k, .int .u8 z.p.back.i, .int .u8 z.p.back.r, .int .u8 z.p.back.g, .int .u8 z.p.back.b, .int .u8 z.p.fl, .int .i32 u.r, .int .i32 u.m0, .int .i32 u.m1, .int .i32 u.m2, .int .i64 u.wd, .int .i64 u.p.fore.k, .int .u8 u.p.fore.i, .int .u8 u.p.fore.r, .int .u8 u.p.fore.g, .int .u8 u.p.fore.b, .int .i64 u.p.back.k, .int .u8 u.p.back.i, .int .u8 u.p.back.r, .int .u8 u.p.back.g, .int .u8 u.p.back.b, .int .u8 u.p.fl, .int .i32 v.r, .int .i32 v.m0, .int .i32 v.m1, .int .i32 v.m2, .int .i64 v.wd, .int .i64 v.p.fore.k, .int .u8 v.p.fore.i, .int .u8 v.p.fore.r, .int .u8 v.p.fore.g, .int .u8 v.p.fore.b, .int .i64 v.p.back.k, .int .u8 v.p.back.i, .int .u8 v.p.back.r, .int .u8 v.p.back.g, .int .u8 v.p.back.b, .int .u8 v.p.fl]
theorem bs5 (x y z u v : Ce) (w : World) : (Instr.buildSlice 42 5 #[(0, .agg x.cs), (1, .agg y.cs), (2, .agg z.cs), (3, .agg u.cs), (4, .agg v.cs)]).run Tryd.prog w = .ok (.slice (some ⟨w.heap.size, 0, none⟩) 5 5) (w.alloc (.cells (cs5 x y z u v) 30)) := by kernel_rfl
section
variable {ρ : Operand → Value} {o : Oper}
theorem rn_bsr2 {a b : Operand} {x y : Rn} (h : o.op = .buildSlice 43 2 #[(0, a), (1, b)]) (ha : ρ a = x.v) (hb : ρ b = y.v) (w : World) : (execOp ρ o).run Tryd.prog w = .ok (.value (.slice (some ⟨w.heap.size, 0, none⟩) 2 2)) (w.alloc (.cells (rs2 x y) 67)) := by
  unfold execOp
  have e := bsr2 x y w
  simp only [h, List.map_toArray, List.map_cons, List.map_nil, ha, hb, Sem.run_bind, e, Result.andThen_ok, Sem.run_pure]
theorem rn_bsr3 {a b c : Operand} {x y z : Rn} (h : o.op = .buildSlice 43 3 #[(0, a), (1, b), (2, c)]) (ha : ρ a = x.v) (hb : ρ b = y.v) (hc : ρ c = z.v) (w : World) : (execOp ρ o).run Tryd.prog w = .ok (.value (.slice (some ⟨w.heap.size, 0, none⟩) 3 3)) (w.alloc (.cells (rs3 x y z) 67)) := by
  unfold execOp
  have e := bsr3 x y z w
  simp only [h, List.map_toArray, List.map_cons, List.map_nil, ha, hb, hc, Sem.run_bind, e, Result.andThen_ok, Sem.run_pure]
theorem rn_bsr4 {a b c d : Operand} {x y z u : Rn} (h : o.op = .buildSlice 43 4 #[(0, a), (1, b), (2, c), (3, d)]) (ha : ρ a = x.v) (hb : ρ b = y.v) (hc : ρ c = z.v) (hd : ρ d = u.v) (w : World) : (execOp ρ o).run Tryd.prog w = .ok (.value (.slice (some ⟨w.heap.size, 0, none⟩) 4 4)) (w.alloc (.cells (rs4 x y z u) 67)) := by
  unfold execOp
  have e := bsr4 x y z u w
  simp only [h, List.map_toArray, List.map_cons, List.map_nil, ha, hb, hc, hd, Sem.run_bind, e, Result.andThen_ok, Sem.run_pure]
theorem rn_bs5 {a b c d e : Operand} {x y z u v : Ce} (h : o.op = .buildSlice 42 5 #[(0, a), (1, b), (2, c), (3, d), (4, e)]) (ha : ρ a = x.v) (hb : ρ b = y.v) (hc : ρ c = z.v) (hd : ρ d = u.v) (he : ρ e = v.v) (w : World) : (execOp ρ o).run Tryd.prog w = .ok (.value (.slice (some ⟨w.heap.size, 0, none⟩) 5 5)) (w.alloc (.cells (cs5 x y z u v) 30)) := by
  unfold execOp
  have e := bs5 x y z u v w
  simp only [h, List.map_toArray, List.map_cons, List.map_nil, ha, hb, hc, hd, he, Sem.run_bind, e, Result.andThen_ok, Sem.run_pure]
theorem rn_bC02 {x y : Operand} {r d : Int} (h : o.op = .build 30 #[(0, x), (2, y)]) (hx : ρ x = .int .i32 r) (hy : ρ y = .int .i64 d) (w : World) : (execOp ρ o).run Tryd.prog w = .ok (.value (Ce.v ⟨r, 0, 0, 0, d, zeroP⟩)) w := by
  unfold execOp
  simp only [h, List.map_toArray, List.map_cons, List.map_nil, hx, hy]
  kernel_rfl
theorem rn_bC2 {x : Operand} {d : Int} (h : o.op = .build 30 #[(2, x)]) (hx : ρ x = .int .i64 d) (w : World) : (execOp ρ o).run Tryd.prog w = .ok (.value (Ce.v ⟨0, 0, 0, 0, d, zeroP⟩)) w := by
  unfold execOp
  simp only [h, List.map_toArray, List.map_cons, List.map_nil, hx]
  kernel_rfl
theorem rn_bW01 {x y : Operand} {a b : Int} (h : o.op = .build 34 #[(0, x), (1, y)]) (hx : ρ x = .int .u64 a) (hy : ρ y = .int .u64 b) (w : World) : (execOp ρ o).run Tryd.prog w = .ok (.value (Wd.v ⟨a, b, 0⟩)) w := by
  unfold execOp
  simp only [h, List.map_toArray, List.map_cons, List.map_nil, hx, hy]
  kernel_rfl
end

set_option linter.unusedSimpArgs false in
set_option maxRecDepth 100000 in
set_option maxHeartbeats 8000000 in
theorem known_any (w : World) (hT : Tab w) : Calls Tryd.prog 11 #[] w fun e w' => e = .returned (.bool true) ∧ New w w' := by
  refine calls_args (vl := []) 189 Tryd.func11 rfl Tryd.ntmps11 (by kernel_rfl) (fun a he => ?_)
  have he0 : Env 189 [] a := he
  clear he
  have hH := Hp.start w
  refine wp_seq ?_
  refine wp_region_lit ?_
  refine lV (Value.bool false) he0 rfl rfl (wanted_plain rfl _) (rn_asg rfl (he0.op rfl) w) ?_
  intro a1 he1
  clear he0 a
  refine wpList_nil ?_
  refine then_ok ?_
  refine wp_seq ?_
  refine wp_region_lit ?_
  refine lV (Ce.v (⟨97, 0, 0, 0, 1, zeroP⟩ : Ce)) he1 rfl rfl (wanted_plain rfl _) (rn_bC02 rfl (he1.op rfl) (he1.op rfl) w) ?_
  intro a2 he2
  clear he1 a1
  refine lV (Ce.v (⟨0, 0, 0, 0, 1, zeroP⟩ : Ce)) he2 rfl rfl (wanted_plain rfl _) (rn_bC2 rfl (he2.op rfl) w) ?_
  intro a3 he3
  clear he2 a2
  refine lV (Ce.v (⟨19968, 0, 0, 0, 2, zeroP⟩ : Ce)) he3 rfl rfl (wanted_plain rfl _) (rn_bC02 rfl (he3.op rfl) (he3.op rfl) w) ?_
  intro a4 he4
  clear he3 a3
  refine lV (Ce.v zeroCe) he4 rfl rfl (wanted_plain rfl _) (rn_bC0 rfl w) ?_
  intro a5 he5
  clear he4 a4
  refine lNew (fun p => .pointer (some ⟨p, 0, none⟩)) he5 hH rfl rfl (wanted_plain rfl _) (rn_alloc rfl w) ?_
  intro p6 w6 a7 hn hH6 he7
  clear he5 a5 hH hn
  refine lNew (fun p => .pointer (some ⟨p, 0, none⟩)) he7 hH6 rfl rfl (wanted_plain rfl _) (rn_alloc rfl w6) ?_
  intro p8 w8 a9 hn hH8 he9
  clear he7 a7 hH6 hn
  refine lNew (fun p => .pointer (some ⟨p, 0, none⟩)) he9 hH8 rfl rfl (wanted_plain rfl _) (rn_alloc rfl w8) ?_
  intro p10 w10 a11 hn hH10 he11
  clear he9 a9 hH8 hn
  refine lNew (fun p => .pointer (some ⟨p, 0, none⟩)) he11 hH10 rfl rfl (wanted_plain rfl _) (rn_alloc rfl w10) ?_
  intro p12 w12 a13 hn hH12 he13
  clear he11 a11 hH10 hn
  refine lSetV 3 (Ce.cs (⟨97, 0, 0, 0, 1, zeroP⟩ : Ce)) (cs := (Ce.cs (⟨97, 0, 0, 0, 1, zeroP⟩ : Ce))) he13 hH12 rfl (wanted_plain rfl _) rfl rfl rfl rfl rfl (by kernel_rfl) (by kernel_rfl) (by kernel_rfl) rfl ?_
  intro w14 a15 hH14 he15
  replace hH14 : Hp w [⟨p12, 30, (Ce.cs zeroCe)⟩, ⟨p10, 30, (Ce.cs zeroCe)⟩, ⟨p8, 30, (Ce.cs zeroCe)⟩, ⟨p6, 30, (Ce.cs (⟨97, 0, 0, 0, 1, zeroP⟩ : Ce))⟩] w14 := hH14
  clear he13 a13 hH12
  refine lSetV 2 (Ce.cs (⟨0, 0, 0, 0, 1, zeroP⟩ : Ce)) (cs := (Ce.cs (⟨0, 0, 0, 0, 1, zeroP⟩ : Ce))) he15 hH14 rfl (wanted_plain rfl _) rfl rfl rfl rfl rfl (by kernel_rfl) (by kernel_rfl) (by kernel_rfl) rfl ?_
  intro w16 a17 hH16 he17
  replace hH16 : Hp w [⟨p12, 30, (Ce.cs zeroCe)⟩, ⟨p10, 30, (Ce.cs zeroCe)⟩, ⟨p8, 30, (Ce.cs (⟨0, 0, 0, 0, 1, zeroP⟩ : Ce))⟩, ⟨p6, 30, (Ce.cs (⟨97, 0, 0, 0, 1, zeroP⟩ : Ce))⟩] w16 := hH16
  clear he15 a15 hH14
  refine lSetV 1 (Ce.cs (⟨19968, 0, 0, 0, 2, zeroP⟩ : Ce)) (cs := (Ce.cs (⟨19968, 0, 0, 0, 2, zeroP⟩ : Ce))) he17 hH16 rfl (wanted_plain rfl _) rfl rfl rfl rfl rfl (by kernel_rfl) (by kernel_rfl) (by kernel_rfl) rfl ?_
  intro w18 a19 hH18 he19
  replace hH18 : Hp w [⟨p12, 30, (Ce.cs zeroCe)⟩, ⟨p10, 30, (Ce.cs (⟨19968, 0, 0, 0, 2, zeroP⟩ : Ce))⟩, ⟨p8, 30, (Ce.cs (⟨0, 0, 0, 0, 1, zeroP⟩ : Ce))⟩, ⟨p6, 30, (Ce.cs (⟨97, 0, 0, 0, 1, zeroP⟩ : Ce))⟩] w18 := hH18
  clear he17 a17 hH16
  refine lSetV 0 (Ce.cs zeroCe) (cs := (Ce.cs zeroCe)) he19 hH18 rfl (wanted_plain rfl _) rfl rfl rfl rfl rfl (by kernel_rfl) (by kernel_rfl) (by kernel_rfl) rfl ?_
  intro w20 a21 hH20 he21
  replace hH20 : Hp w [⟨p12, 30, (Ce.cs zeroCe)⟩, ⟨p10, 30, (Ce.cs (⟨19968, 0, 0, 0, 2, zeroP⟩ : Ce))⟩, ⟨p8, 30, (Ce.cs (⟨0, 0, 0, 0, 1, zeroP⟩ : Ce))⟩, ⟨p6, 30, (Ce.cs (⟨97, 0, 0, 0, 1, zeroP⟩ : Ce))⟩] w20 := hH20
  clear he19 a19 hH18
  refine wpList_nil ?_
  refine then_ok ?_
  replace he21 : Env 189 [(4, Value.pointer (some ⟨p12, 0, none⟩)), (3, Value.pointer (some ⟨p10, 0, none⟩)), (2, Value.pointer (some ⟨p8, 0, none⟩)), (1, Value.pointer (some ⟨p6, 0, none⟩)), (15, Ce.v zeroCe), (14, Ce.v wC), (13, Ce.v eC), (12, Ce.v aC), (0, Value.bool false)] a21 := he21
  replace hH20 : Hp w [⟨p12, 30, (Ce.cs zeroCe)⟩, ⟨p10, 30, (Ce.cs wC)⟩, ⟨p8, 30, (Ce.cs eC)⟩, ⟨p6, 30, (Ce.cs aC)⟩] w20 := hH20
  have he22 : Env 189 [(4, Value.pointer (some ⟨p12, 0, none⟩)), (3, Value.pointer (some ⟨p10, 0, none⟩)), (2, Value.pointer (some ⟨p8, 0, none⟩)), (1, Value.pointer (some ⟨p6, 0, none⟩)), (0, Value.bool false)] a21 := he21.mem ⟨rfl, rfl, rfl, rfl, rfl, trivial⟩
  clear he21
  as_aux_lemma =>
    refine wp_seq ?_
    refine wp_region_lit ?_
    refine lV (Ce.v aC) he22 rfl rfl (wanted_plain rfl _) (rn_load rfl (he22.op rfl) (hH20.at (i := 3) rfl)) ?_
    intro a23 he23
    clear he22 a21
    refine lNew (fun p => .pointer (some ⟨p, 0, none⟩)) he23 hH20 rfl rfl (wanted_plain rfl _) (rn_alloc rfl w20) ?_
    intro p24 w24 a25 hn hH24 he25
    clear he23 a23 hH20 hn
    refine lSetV 0 (Ce.cs aC) (cs := (Ce.cs aC)) he25 hH24 rfl (wanted_plain rfl _) rfl rfl rfl rfl rfl (by kernel_rfl) (by kernel_rfl) (by kernel_rfl) rfl ?_
    intro w26 a27 hH26 he27
    replace hH26 : Hp w [⟨p24, 30, (Ce.cs aC)⟩, ⟨p12, 30, (Ce.cs zeroCe)⟩, ⟨p10, 30, (Ce.cs wC)⟩, ⟨p8, 30, (Ce.cs eC)⟩, ⟨p6, 30, (Ce.cs aC)⟩] w26 := hH26
    clear he25 a25 hH24
    refine wpList_nil ?_
    refine then_ok ?_
    refine wp_seq ?_
    refine wp_region_lit ?_
    refine lV (Value.pointer (some ⟨p24, 1, none⟩)) he27 rfl rfl (wanted_plain rfl _) (rn_faC1 rfl (he27.op rfl) rfl w26) ?_
    intro a28 he28
    clear he27 a27
    refine lV (Value.pointer (some ⟨p24, 1, none⟩)) he28 rfl rfl (wanted_plain rfl _) (rn_iaM0 rfl (he28.op rfl) (fun _ => rfl) rfl w26) ?_
    intro a29 he29
    clear he28 a28
    refine lSetV 0 #[Value.int .i32 769] (cs := (Ce.cs (⟨aC.r, 769, aC.m1, aC.m2, aC.wd, aC.p⟩ : Ce))) he29 hH26 rfl (wanted_plain rfl _) rfl rfl rfl rfl rfl (by kernel_rfl) (by kernel_rfl) (by kernel_rfl) rfl ?_
    intro w30 a31 hH30 he31
    replace hH30 : Hp w [⟨p24, 30, (Ce.cs (⟨aC.r, 769, aC.m1, aC.m2, aC.wd, aC.p⟩ : Ce))⟩, ⟨p12, 30, (Ce.cs zeroCe)⟩, ⟨p10, 30, (Ce.cs wC)⟩, ⟨p8, 30, (Ce.cs eC)⟩, ⟨p6, 30, (Ce.cs aC)⟩] w30 := hH30
    clear he29 a29 hH26
    refine wpList_nil ?_
    refine then_ok ?_
    replace hH30 : Hp w [⟨p24, 30, (Ce.cs mC)⟩, ⟨p12, 30, (Ce.cs zeroCe)⟩, ⟨p10, 30, (Ce.cs wC)⟩, ⟨p8, 30, (Ce.cs eC)⟩, ⟨p6, 30, (Ce.cs aC)⟩] w30 := hH30
    refine wp_seq ?_
    refine wp_region_lit ?_
    refine lV (Wd.v (⟨0, 2097249, 0⟩ : Wd)) he31 rfl rfl (wanted_plain rfl _) (rn_bW01 rfl (he31.op rfl) (he31.op rfl) w30) ?_
    intro a32 he32
    clear he31 a31
    refine lV (Wd.v (⟨0, 2097152, 0⟩ : Wd)) he32 rfl rfl (wanted_plain rfl _) (rn_bW01 rfl (he32.op rfl) (he32.op rfl) w30) ?_
    intro a33 he33
    clear he32 a32
    refine lV (Wd.v (⟨0, 4214272, 0⟩ : Wd)) he33 rfl rfl (wanted_plain rfl _) (rn_bW01 rfl (he33.op rfl) (he33.op rfl) w30) ?_
    intro a34 he34
    clear he33 a33
    refine lNew (fun p => .pointer (some ⟨p, 0, none⟩)) he34 hH30 rfl rfl (wanted_plain rfl _) (rn_allocW rfl w30) ?_
    intro p35 w35 a36 hn hH35 he36
    clear he34 a34 hH30 hn
    refine lNew (fun p => .pointer (some ⟨p, 0, none⟩)) he36 hH35 rfl rfl (wanted_plain rfl _) (rn_allocW rfl w35) ?_
    intro p37 w37 a38 hn hH37 he38
    clear he36 a36 hH35 hn
    refine lNew (fun p => .pointer (some ⟨p, 0, none⟩)) he38 hH37 rfl rfl (wanted_plain rfl _) (rn_allocW rfl w37) ?_
    intro p39 w39 a40 hn hH39 he40
    clear he38 a38 hH37 hn
    refine lSetV 2 (Wd.cs (⟨0, 2097249, 0⟩ : Wd)) (cs := (Wd.cs (⟨0, 2097249, 0⟩ : Wd))) he40 hH39 rfl (wanted_plain rfl _) rfl rfl rfl rfl rfl (by kernel_rfl) (by kernel_rfl) (by kernel_rfl) rfl ?_
    intro w41 a42 hH41 he42
    replace hH41 : Hp w [⟨p39, 34, (Wd.cs zeroW)⟩, ⟨p37, 34, (Wd.cs zeroW)⟩, ⟨p35, 34, (Wd.cs (⟨0, 2097249, 0⟩ : Wd))⟩, ⟨p24, 30, (Ce.cs mC)⟩, ⟨p12, 30, (Ce.cs zeroCe)⟩, ⟨p10, 30, (Ce.cs wC)⟩, ⟨p8, 30, (Ce.cs eC)⟩, ⟨p6, 30, (Ce.cs aC)⟩] w41 := hH41
    clear he40 a40 hH39
    refine lSetV 1 (Wd.cs (⟨0, 2097152, 0⟩ : Wd)) (cs := (Wd.cs (⟨0, 2097152, 0⟩ : Wd))) he42 hH41 rfl (wanted_plain rfl _) rfl rfl rfl rfl rfl (by kernel_rfl) (by kernel_rfl) (by kernel_rfl) rfl ?_
    intro w43 a44 hH43 he44
    replace hH43 : Hp w [⟨p39, 34, (Wd.cs zeroW)⟩, ⟨p37, 34, (Wd.cs (⟨0, 2097152, 0⟩ : Wd))⟩, ⟨p35, 34, (Wd.cs (⟨0, 2097249, 0⟩ : Wd))⟩, ⟨p24, 30, (Ce.cs mC)⟩, ⟨p12, 30, (Ce.cs zeroCe)⟩, ⟨p10, 30, (Ce.cs wC)⟩, ⟨p8, 30, (Ce.cs eC)⟩, ⟨p6, 30, (Ce.cs aC)⟩] w43 := hH43
    clear he42 a42 hH41
    refine lSetV 0 (Wd.cs (⟨0, 4214272, 0⟩ : Wd)) (cs := (Wd.cs (⟨0, 4214272, 0⟩ : Wd))) he44 hH43 rfl (wanted_plain rfl _) rfl rfl rfl rfl rfl (by kernel_rfl) (by kernel_rfl) (by kernel_rfl) rfl ?_
    intro w45 a46 hH45 he46
    replace hH45 : Hp w [⟨p39, 34, (Wd.cs (⟨0, 4214272, 0⟩ : Wd))⟩, ⟨p37, 34, (Wd.cs (⟨0, 2097152, 0⟩ : Wd))⟩, ⟨p35, 34, (Wd.cs (⟨0, 2097249, 0⟩ : Wd))⟩, ⟨p24, 30, (Ce.cs mC)⟩, ⟨p12, 30, (Ce.cs zeroCe)⟩, ⟨p10, 30, (Ce.cs wC)⟩, ⟨p8, 30, (Ce.cs eC)⟩, ⟨p6, 30, (Ce.cs aC)⟩] w45 := hH45
    clear he44 a44 hH43
    refine wpList_nil ?_
    refine then_ok ?_
    replace he46 : Env 189 [(8, Value.pointer (some ⟨p39, 0, none⟩)), (7, Value.pointer (some ⟨p37, 0, none⟩)), (6, Value.pointer (some ⟨p35, 0, none⟩)), (21, Wd.v zW), (20, Wd.v yW), (19, Wd.v xW), (18, Value.pointer (some ⟨p24, 1, none⟩)), (17, Value.pointer (some ⟨p24, 1, none⟩)), (5, Value.pointer (some ⟨p24, 0, none⟩)), (16, Ce.v aC), (4, Value.pointer (some ⟨p12, 0, none⟩)), (3, Value.pointer (some ⟨p10, 0, none⟩)), (2, Value.pointer (some ⟨p8, 0, none⟩)), (1, Value.pointer (some ⟨p6, 0, none⟩)), (0, Value.bool false)] a46 := he46
    replace hH45 : Hp w [⟨p39, 34, (Wd.cs zW)⟩, ⟨p37, 34, (Wd.cs yW)⟩, ⟨p35, 34, (Wd.cs xW)⟩, ⟨p24, 30, (Ce.cs mC)⟩, ⟨p12, 30, (Ce.cs zeroCe)⟩, ⟨p10, 30, (Ce.cs wC)⟩, ⟨p8, 30, (Ce.cs eC)⟩, ⟨p6, 30, (Ce.cs aC)⟩] w45 := hH45
    have he47 : Env 189 [(8, Value.pointer (some ⟨p39, 0, none⟩)), (7, Value.pointer (some ⟨p37, 0, none⟩)), (6, Value.pointer (some ⟨p35, 0, none⟩)), (5, Value.pointer (some ⟨p24, 0, none⟩)), (4, Value.pointer (some ⟨p12, 0, none⟩)), (3, Value.pointer (some ⟨p10, 0, none⟩)), (2, Value.pointer (some ⟨p8, 0, none⟩)), (1, Value.pointer (some ⟨p6, 0, none⟩)), (0, Value.bool false)] a46 := he46.mem ⟨rfl, rfl, rfl, rfl, rfl, rfl, rfl, rfl, rfl, trivial⟩
    clear he46
    as_aux_lemma =>
      refine wp_seq ?_
      refine wp_seq ?_
      refine wp_region_lit ?_
      refine lV (Ce.v aC) he47 rfl rfl (wanted_plain rfl _) (rn_load rfl (he47.op rfl) (hH45.at (i := 7) rfl)) ?_
      intro a48 he48
      clear he47 a46
      refine lV (Wd.v xW) he48 rfl rfl (wanted_plain rfl _) (rn_loadW rfl (he48.op rfl) (hH45.at (i := 2) rfl)) ?_
      intro a49 he49
      clear he48 a48
      refine lC he49 rfl rfl Tryd.func10 (by kernel_rfl) rfl rfl (wanted_plain rfl _) rfl (words_b aC zeroP_ok xW 0 true kw0 w45 (hT.new hH45.new)) ?_
      intro w50 a51 hn he51
      have hH50 := hH45.call hn
      clear he49 a49 hH45 hn
      refine lV (Value.bool false) he51 rfl rfl (wanted_plain rfl _) (rn_not (b := true) rfl (he51.op rfl) w50) ?_
      intro a52 he52
      clear he51 a51
      refine lV (Value.bool false) he52 rfl rfl (wanted_plain rfl _) (rn_mv rfl (he52.op rfl) w50) ?_
      intro a53 he53
      clear he52 a52
      refine lV (Ce.v eC) he53 rfl rfl (he53.want rfl rfl rfl rfl rfl) (rn_load rfl (he53.op rfl) (hH50.at (i := 6) rfl)) ?_
      intro a54 he54
      clear he53 a53
      refine lV (Wd.v yW) he54 rfl rfl (he54.want rfl rfl rfl rfl rfl) (rn_loadW rfl (he54.op rfl) (hH50.at (i := 1) rfl)) ?_
      intro a55 he55
      clear he54 a54
      refine lC he55 rfl rfl Tryd.func10 (by kernel_rfl) rfl rfl (he55.want rfl rfl rfl rfl rfl) rfl (words_b eC zeroP_ok yW 0 true kw1 w50 (hT.new hH50.new)) ?_
      intro w56 a57 hn he57
      have hH56 := hH50.call hn
      clear he55 a55 hH50 hn
      refine lV (Value.bool false) he57 rfl rfl (he57.want rfl rfl rfl rfl rfl) (rn_not (b := true) rfl (he57.op rfl) w56) ?_
      intro a58 he58
      clear he57 a57
      refine lV (Value.bool false) he58 rfl rfl (wanted_plain rfl _) (rn_pk0 rfl (he58.op rfl) (he58.op rfl) w56) ?_
      intro a59 he59
      clear he58 a58
      refine lV (Value.bool false) he59 rfl rfl (wanted_plain rfl _) (rn_mv rfl (he59.op rfl) w56) ?_
      intro a60 he60
      clear he59 a59
      refine lV (Ce.v wC) he60 rfl rfl (he60.want rfl rfl rfl rfl rfl) (rn_load rfl (he60.op rfl) (hH56.at (i := 5) rfl)) ?_
      intro a61 he61
      clear he60 a60
      refine lV (Wd.v zW) he61 rfl rfl (he61.want rfl rfl rfl rfl rfl) (rn_loadW rfl (he61.op rfl) (hH56.at (i := 0) rfl)) ?_
      intro a62 he62
      clear he61 a61
      refine lC he62 rfl rfl Tryd.func10 (by kernel_rfl) rfl rfl (he62.want rfl rfl rfl rfl rfl) rfl (words_b wC zeroP_ok zW 0 true kw2 w56 (hT.new hH56.new)) ?_
      intro w63 a64 hn he64
      have hH63 := hH56.call hn
      clear he62 a62 hH56 hn
      refine lV (Value.bool false) he64 rfl rfl (he64.want rfl rfl rfl rfl rfl) (rn_not (b := true) rfl (he64.op rfl) w63) ?_
      intro a65 he65
      clear he64 a64
      refine lV (Value.bool false) he65 rfl rfl (wanted_plain rfl _) (rn_pk0 rfl (he65.op rfl) (he65.op rfl) w63) ?_
      intro a66 he66
      clear he65 a65
      refine lV (Value.bool false) he66 rfl rfl (wanted_plain rfl _) (rn_mv rfl (he66.op rfl) w63) ?_
      intro a67 he67
      clear he66 a66
      refine lV (Ce.v zeroCe) he67 rfl rfl (he67.want rfl rfl rfl rfl rfl) (rn_load rfl (he67.op rfl) (hH63.at (i := 4) rfl)) ?_
      intro a68 he68
      clear he67 a67
      refine lV (Wd.v zeroW) he68 rfl rfl (he68.want rfl rfl rfl rfl rfl) (rn_bW0 rfl w63) ?_
      intro a69 he69
      clear he68 a68
      replace he69 : Env 189 [(40, Wd.v zeroW), (39, Ce.v zeroCe), (38, Value.bool false), (37, Value.bool false), (36, Value.bool false), (35, Value.bool true), (34, Wd.v zW), (33, Ce.v wC), (32, Value.bool false), (31, Value.bool false), (30, Value.bool false), (29, Value.bool true), (28, Wd.v yW), (27, Ce.v eC), (26, Value.bool false), (25, Value.bool false), (24, Value.bool true), (23, Wd.v xW), (22, Ce.v aC), (8, Value.pointer (some ⟨p39, 0, none⟩)), (7, Value.pointer (some ⟨p37, 0, none⟩)), (6, Value.pointer (some ⟨p35, 0, none⟩)), (5, Value.pointer (some ⟨p24, 0, none⟩)), (4, Value.pointer (some ⟨p12, 0, none⟩)), (3, Value.pointer (some ⟨p10, 0, none⟩)), (2, Value.pointer (some ⟨p8, 0, none⟩)), (1, Value.pointer (some ⟨p6, 0, none⟩)), (0, Value.bool false)] a69 := he69
      refine lC he69 rfl rfl Tryd.func10 (by kernel_rfl) rfl rfl (he69.want rfl rfl rfl rfl rfl) rfl (words_b zeroCe zeroP_ok zeroW 0 true kw3 w63 (hT.new hH63.new)) ?_
      intro w70 a71 hn he71
      have hH70 := hH63.call hn
      clear he69 a69 hH63 hn
      refine lV (Value.bool false) he71 rfl rfl (he71.want rfl rfl rfl rfl rfl) (rn_not (b := true) rfl (he71.op rfl) w70) ?_
      intro a72 he72
      clear he71 a71
      refine lV (Value.bool false) he72 rfl rfl (wanted_plain rfl _) (rn_pk0 rfl (he72.op rfl) (he72.op rfl) w70) ?_
      intro a73 he73
      clear he72 a72
      refine lV (Value.bool false) he73 rfl rfl (wanted_plain rfl _) (rn_mv rfl (he73.op rfl) w70) ?_
      intro a74 he74
      clear he73 a73
      refine lV (Ce.v mC) he74 rfl rfl (he74.want rfl rfl rfl rfl rfl) (rn_load rfl (he74.op rfl) (hH70.at (i := 3) rfl)) ?_
      intro a75 he75
      clear he74 a74
      refine lV (Wd.v ⟨0, 2097249, 769⟩) he75 rfl rfl (he75.want rfl rfl rfl rfl rfl) (rn_bW rfl (he75.op rfl) (he75.op rfl) (he75.op rfl) w70) ?_
      intro a76 he76
      clear he75 a75
      replace he76 : Env 189 [(46, Wd.v mW), (45, Ce.v mC), (44, Value.bool false), (43, Value.bool false), (42, Value.bool false), (41, Value.bool true), (40, Wd.v zeroW), (39, Ce.v zeroCe), (38, Value.bool false), (37, Value.bool false), (36, Value.bool false), (35, Value.bool true), (34, Wd.v zW), (33, Ce.v wC), (32, Value.bool false), (31, Value.bool false), (30, Value.bool false), (29, Value.bool true), (28, Wd.v yW), (27, Ce.v eC), (26, Value.bool false), (25, Value.bool false), (24, Value.bool true), (23, Wd.v xW), (22, Ce.v aC), (8, Value.pointer (some ⟨p39, 0, none⟩)), (7, Value.pointer (some ⟨p37, 0, none⟩)), (6, Value.pointer (some ⟨p35, 0, none⟩)), (5, Value.pointer (some ⟨p24, 0, none⟩)), (4, Value.pointer (some ⟨p12, 0, none⟩)), (3, Value.pointer (some ⟨p10, 0, none⟩)), (2, Value.pointer (some ⟨p8, 0, none⟩)), (1, Value.pointer (some ⟨p6, 0, none⟩)), (0, Value.bool false)] a76 := he76
      refine lC he76 rfl rfl Tryd.func10 (by kernel_rfl) rfl rfl (he76.want rfl rfl rfl rfl rfl) rfl (words_b mC zeroP_ok mW 0 true kw4 w70 (hT.new hH70.new)) ?_
      intro w77 a78 hn he78
      have hH77 := hH70.call hn
      clear he76 a76 hH70 hn
      refine lV (Value.bool false) he78 rfl rfl (he78.want rfl rfl rfl rfl rfl) (rn_not (b := true) rfl (he78.op rfl) w77) ?_
      intro a79 he79
      clear he78 a78
      refine lV (Value.bool false) he79 rfl rfl (wanted_plain rfl _) (rn_pk0 rfl (he79.op rfl) (he79.op rfl) w77) ?_
      intro a80 he80
      clear he79 a79
      refine wpList_nil ?_
      refine then_ok ?_
      refine wp_cond_false (he80.op rfl) ?_
      refine wp_skip ?_
      refine then_ok ?_
      have he81 : Env 189 [(8, Value.pointer (some ⟨p39, 0, none⟩)), (7, Value.pointer (some ⟨p37, 0, none⟩)), (6, Value.pointer (some ⟨p35, 0, none⟩)), (5, Value.pointer (some ⟨p24, 0, none⟩)), (4, Value.pointer (some ⟨p12, 0, none⟩)), (3, Value.pointer (some ⟨p10, 0, none⟩)), (2, Value.pointer (some ⟨p8, 0, none⟩)), (1, Value.pointer (some ⟨p6, 0, none⟩)), (0, Value.bool false)] a80 := he80.mem ⟨rfl, rfl, rfl, rfl, rfl, rfl, rfl, rfl, rfl, trivial⟩
      clear he80
      as_aux_lemma =>
        refine wp_seq ?_
        refine wp_region_lit ?_
        refine lV (Ce.v zeroCe) he81 rfl rfl (wanted_plain rfl _) (rn_bC0 rfl w77) ?_
        intro a82 he82
        clear he81 a80
        refine lNew (fun p => .pointer (some ⟨p, 0, none⟩)) he82 hH77 rfl rfl (wanted_plain rfl _) (rn_alloc rfl w77) ?_
        intro p83 w83 a84 hn hH83 he84
        clear he82 a82 hH77 hn
        refine lSetV 0 (Ce.cs zeroCe) (cs := (Ce.cs zeroCe)) he84 hH83 rfl (wanted_plain rfl _) rfl rfl rfl rfl rfl (by kernel_rfl) (by kernel_rfl) (by kernel_rfl) rfl ?_
        intro w85 a86 hH85 he86
        replace hH85 : Hp w [⟨p83, 30, (Ce.cs zeroCe)⟩, ⟨p39, 34, (Wd.cs zW)⟩, ⟨p37, 34, (Wd.cs yW)⟩, ⟨p35, 34, (Wd.cs xW)⟩, ⟨p24, 30, (Ce.cs mC)⟩, ⟨p12, 30, (Ce.cs zeroCe)⟩, ⟨p10, 30, (Ce.cs wC)⟩, ⟨p8, 30, (Ce.cs eC)⟩, ⟨p6, 30, (Ce.cs aC)⟩] w85 := hH85
        clear he84 a84 hH83
        refine lV (Value.int .i64 12) he86 rfl rfl (wanted_plain rfl _) (rn_asg rfl (he86.op rfl) w85) ?_
        intro a87 he87
        clear he86 a86
        refine wpList_nil ?_
        refine then_ok ?_
        have he88 : Env 189 [(10, Value.int .i64 12), (9, Value.pointer (some ⟨p83, 0, none⟩)), (8, Value.pointer (some ⟨p39, 0, none⟩)), (7, Value.pointer (some ⟨p37, 0, none⟩)), (6, Value.pointer (some ⟨p35, 0, none⟩)), (5, Value.pointer (some ⟨p24, 0, none⟩)), (4, Value.pointer (some ⟨p12, 0, none⟩)), (3, Value.pointer (some ⟨p10, 0, none⟩)), (2, Value.pointer (some ⟨p8, 0, none⟩)), (1, Value.pointer (some ⟨p6, 0, none⟩)), (0, Value.bool false)] a87 := he87.mem ⟨rfl, rfl, rfl, rfl, rfl, rfl, rfl, rfl, rfl, rfl, rfl, trivial⟩
        clear he87
        as_aux_lemma =>
          refine wp_seq ?_
          refine wp_seq ?_
          refine wp_region_lit ?_
          refine lV (Wd.v xW) he88 rfl rfl (wanted_plain rfl _) (rn_loadW rfl (he88.op rfl) (hH85.at (i := 3) rfl)) ?_
          intro a89 he89
          clear he88 a87
          refine lV (Ce.v aC) he89 rfl rfl (wanted_plain rfl _) (rn_load rfl (he89.op rfl) (hH85.at (i := 8) rfl)) ?_
          intro a90 he90
          clear he89 a89
          refine lC he90 rfl rfl Tryd.func13 (by kernel_rfl) rfl rfl (wanted_plain rfl _) rfl (cell_b xW ok_xW aC 0 true kc0 w85 (hT.new hH85.new)) ?_
          intro w91 a92 hn he92
          have hH91 := hH85.call hn
          clear he90 a90 hH85 hn
          refine lV (Value.bool false) he92 rfl rfl (wanted_plain rfl _) (rn_not (b := true) rfl (he92.op rfl) w91) ?_
          intro a93 he93
          clear he92 a92
          refine lV (Value.bool false) he93 rfl rfl (wanted_plain rfl _) (rn_mv rfl (he93.op rfl) w91) ?_
          intro a94 he94
          clear he93 a93
          refine lV (Wd.v (⟨0, 97, 0⟩ : Wd)) he94 rfl rfl (he94.want rfl rfl rfl rfl rfl) (rn_bW01 rfl (he94.op rfl) (he94.op rfl) w91) ?_
          intro a95 he95
          clear he94 a94
          replace he95 : Env 189 [(56, Wd.v n1), (55, Value.bool false), (54, Value.bool false), (53, Value.bool true), (52, Ce.v aC), (51, Wd.v xW), (10, Value.int .i64 12), (9, Value.pointer (some ⟨p83, 0, none⟩)), (8, Value.pointer (some ⟨p39, 0, none⟩)), (7, Value.pointer (some ⟨p37, 0, none⟩)), (6, Value.pointer (some ⟨p35, 0, none⟩)), (5, Value.pointer (some ⟨p24, 0, none⟩)), (4, Value.pointer (some ⟨p12, 0, none⟩)), (3, Value.pointer (some ⟨p10, 0, none⟩)), (2, Value.pointer (some ⟨p8, 0, none⟩)), (1, Value.pointer (some ⟨p6, 0, none⟩)), (0, Value.bool false)] a95 := he95
          refine lV (Ce.v zeroCe) he95 rfl rfl (he95.want rfl rfl rfl rfl rfl) (rn_load rfl (he95.op rfl) (hH91.at (i := 0) rfl)) ?_
          intro a96 he96
          clear he95 a95
          refine lV (Value.int .i64 12) he96 rfl rfl (he96.want rfl rfl rfl rfl rfl) (rn_mv rfl (he96.op rfl) w91) ?_
          intro a97 he97
          clear he96 a96
          refine lC he97 rfl rfl Tryd.func13 (by kernel_rfl) rfl rfl (he97.want rfl rfl rfl rfl rfl) rfl (cell_b n1 ok_n1 zeroCe 12 true kc1 w91 (hT.new hH91.new)) ?_
          intro w98 a99 hn he99
          have hH98 := hH91.call hn
          clear he97 a97 hH91 hn
          refine lV (Value.bool false) he99 rfl rfl (he99.want rfl rfl rfl rfl rfl) (rn_not (b := true) rfl (he99.op rfl) w98) ?_
          intro a100 he100
          clear he99 a99
          refine lV (Value.bool false) he100 rfl rfl (wanted_plain rfl _) (rn_pk0 rfl (he100.op rfl) (he100.op rfl) w98) ?_
          intro a101 he101
          clear he100 a100
          refine lV (Value.bool false) he101 rfl rfl (wanted_plain rfl _) (rn_mv rfl (he101.op rfl) w98) ?_
          intro a102 he102
          clear he101 a101
          refine lV (Wd.v (⟨1, 2097152, 0⟩ : Wd)) he102 rfl rfl (he102.want rfl rfl rfl rfl rfl) (rn_bW01 rfl (he102.op rfl) (he102.op rfl) w98) ?_
          intro a103 he103
          clear he102 a102
          replace he103 : Env 189 [(63, Wd.v n2), (62, Value.bool false), (61, Value.bool false), (60, Value.bool false), (59, Value.bool true), (58, Value.int .i64 12), (57, Ce.v zeroCe), (56, Wd.v n1), (55, Value.bool false), (54, Value.bool false), (53, Value.bool true), (52, Ce.v aC), (51, Wd.v xW), (10, Value.int .i64 12), (9, Value.pointer (some ⟨p83, 0, none⟩)), (8, Value.pointer (some ⟨p39, 0, none⟩)), (7, Value.pointer (some ⟨p37, 0, none⟩)), (6, Value.pointer (some ⟨p35, 0, none⟩)), (5, Value.pointer (some ⟨p24, 0, none⟩)), (4, Value.pointer (some ⟨p12, 0, none⟩)), (3, Value.pointer (some ⟨p10, 0, none⟩)), (2, Value.pointer (some ⟨p8, 0, none⟩)), (1, Value.pointer (some ⟨p6, 0, none⟩)), (0, Value.bool false)] a103 := he103
          refine lV (Ce.v zeroCe) he103 rfl rfl (he103.want rfl rfl rfl rfl rfl) (rn_load rfl (he103.op rfl) (hH98.at (i := 0) rfl)) ?_
          intro a104 he104
          clear he103 a103
          refine lV (Value.int .i64 12) he104 rfl rfl (he104.want rfl rfl rfl rfl rfl) (rn_mv rfl (he104.op rfl) w98) ?_
          intro a105 he105
          clear he104 a104
          refine lC he105 rfl rfl Tryd.func13 (by kernel_rfl) rfl rfl (he105.want rfl rfl rfl rfl rfl) rfl (cell_b n2 ok_n2 zeroCe 12 true kc2 w98 (hT.new hH98.new)) ?_
          intro w106 a107 hn he107
          have hH106 := hH98.call hn
          clear he105 a105 hH98 hn
          refine lV (Value.bool false) he107 rfl rfl (he107.want rfl rfl rfl rfl rfl) (rn_not (b := true) rfl (he107.op rfl) w106) ?_
          intro a108 he108
          clear he107 a107
          refine lV (Value.bool false) he108 rfl rfl (wanted_plain rfl _) (rn_pk0 rfl (he108.op rfl) (he108.op rfl) w106) ?_
          intro a109 he109
          clear he108 a108
          refine lV (Value.bool false) he109 rfl rfl (wanted_plain rfl _) (rn_mv rfl (he109.op rfl) w106) ?_
          intro a110 he110
          clear he109 a109
          refine lV (Wd.v (⟨0, 8388608, 0⟩ : Wd)) he110 rfl rfl (he110.want rfl rfl rfl rfl rfl) (rn_bW01 rfl (he110.op rfl) (he110.op rfl) w106) ?_
          intro a111 he111
          clear he110 a110
          replace he111 : Env 189 [(70, Wd.v n3), (69, Value.bool false), (68, Value.bool false), (67, Value.bool false), (66, Value.bool true), (65, Value.int .i64 12), (64, Ce.v zeroCe), (63, Wd.v n2), (62, Value.bool false), (61, Value.bool false), (60, Value.bool false), (59, Value.bool true), (58, Value.int .i64 12), (57, Ce.v zeroCe), (56, Wd.v n1), (55, Value.bool false), (54, Value.bool false), (53, Value.bool true), (52, Ce.v aC), (51, Wd.v xW), (10, Value.int .i64 12), (9, Value.pointer (some ⟨p83, 0, none⟩)), (8, Value.pointer (some ⟨p39, 0, none⟩)), (7, Value.pointer (some ⟨p37, 0, none⟩)), (6, Value.pointer (some ⟨p35, 0, none⟩)), (5, Value.pointer (some ⟨p24, 0, none⟩)), (4, Value.pointer (some ⟨p12, 0, none⟩)), (3, Value.pointer (some ⟨p10, 0, none⟩)), (2, Value.pointer (some ⟨p8, 0, none⟩)), (1, Value.pointer (some ⟨p6, 0, none⟩)), (0, Value.bool false)] a111 := he111
          refine lV (Ce.v zeroCe) he111 rfl rfl (he111.want rfl rfl rfl rfl rfl) (rn_load rfl (he111.op rfl) (hH106.at (i := 0) rfl)) ?_
          intro a112 he112
          clear he111 a111
          refine lV (Value.int .i64 12) he112 rfl rfl (he112.want rfl rfl rfl rfl rfl) (rn_mv rfl (he112.op rfl) w106) ?_
          intro a113 he113
          clear he112 a112
          refine lC he113 rfl rfl Tryd.func13 (by kernel_rfl) rfl rfl (he113.want rfl rfl rfl rfl rfl) rfl (cell_b n3 ok_n3 zeroCe 12 true kc3 w106 (hT.new hH106.new)) ?_
          intro w114 a115 hn he115
          have hH114 := hH106.call hn
          clear he113 a113 hH106 hn
          refine lV (Value.bool false) he115 rfl rfl (he115.want rfl rfl rfl rfl rfl) (rn_not (b := true) rfl (he115.op rfl) w114) ?_
          intro a116 he116
          clear he115 a115
          refine lV (Value.bool false) he116 rfl rfl (wanted_plain rfl _) (rn_pk0 rfl (he116.op rfl) (he116.op rfl) w114) ?_
          intro a117 he117
          clear he116 a116
          refine lV (Value.bool false) he117 rfl rfl (wanted_plain rfl _) (rn_mv rfl (he117.op rfl) w114) ?_
          intro a118 he118
          clear he117 a117
          refine lV (Wd.v ⟨0, 2097152, 769⟩) he118 rfl rfl (he118.want rfl rfl rfl rfl rfl) (rn_bW rfl (he118.op rfl) (he118.op rfl) (he118.op rfl) w114) ?_
          intro a119 he119
          clear he118 a118
          replace he119 : Env 189 [(77, Wd.v n4), (76, Value.bool false), (75, Value.bool false), (74, Value.bool false), (73, Value.bool true), (72, Value.int .i64 12), (71, Ce.v zeroCe), (70, Wd.v n3), (69, Value.bool false), (68, Value.bool false), (67, Value.bool false), (66, Value.bool true), (65, Value.int .i64 12), (64, Ce.v zeroCe), (63, Wd.v n2), (62, Value.bool false), (61, Value.bool false), (60, Value.bool false), (59, Value.bool true), (58, Value.int .i64 12), (57, Ce.v zeroCe), (56, Wd.v n1), (55, Value.bool false), (54, Value.bool false), (53, Value.bool true), (52, Ce.v aC), (51, Wd.v xW), (10, Value.int .i64 12), (9, Value.pointer (some ⟨p83, 0, none⟩)), (8, Value.pointer (some ⟨p39, 0, none⟩)), (7, Value.pointer (some ⟨p37, 0, none⟩)), (6, Value.pointer (some ⟨p35, 0, none⟩)), (5, Value.pointer (some ⟨p24, 0, none⟩)), (4, Value.pointer (some ⟨p12, 0, none⟩)), (3, Value.pointer (some ⟨p10, 0, none⟩)), (2, Value.pointer (some ⟨p8, 0, none⟩)), (1, Value.pointer (some ⟨p6, 0, none⟩)), (0, Value.bool false)] a119 := he119
          refine lV (Ce.v zeroCe) he119 rfl rfl (he119.want rfl rfl rfl rfl rfl) (rn_load rfl (he119.op rfl) (hH114.at (i := 0) rfl)) ?_
          intro a120 he120
          clear he119 a119
          refine lV (Value.int .i64 12) he120 rfl rfl (he120.want rfl rfl rfl rfl rfl) (rn_mv rfl (he120.op rfl) w114) ?_
          intro a121 he121
          clear he120 a120
          refine lC he121 rfl rfl Tryd.func13 (by kernel_rfl) rfl rfl (he121.want rfl rfl rfl rfl rfl) rfl (cell_b n4 ok_n4 zeroCe 12 true kc4 w114 (hT.new hH114.new)) ?_
          intro w122 a123 hn he123
          have hH122 := hH114.call hn
          clear he121 a121 hH114 hn
          refine lV (Value.bool false) he123 rfl rfl (he123.want rfl rfl rfl rfl rfl) (rn_not (b := true) rfl (he123.op rfl) w122) ?_
          intro a124 he124
          clear he123 a123
          refine lV (Value.bool false) he124 rfl rfl (wanted_plain rfl _) (rn_pk0 rfl (he124.op rfl) (he124.op rfl) w122) ?_
          intro a125 he125
          clear he124 a124
          refine lV (Value.bool false) he125 rfl rfl (wanted_plain rfl _) (rn_mv rfl (he125.op rfl) w122) ?_
          intro a126 he126
          clear he125 a125
          refine lV (Ce.v (⟨97, 0, 0, 0, 2, zeroP⟩ : Ce)) he126 rfl rfl (he126.want rfl rfl rfl rfl rfl) (rn_bC02 rfl (he126.op rfl) (he126.op rfl) w122) ?_
          intro a127 he127
          clear he126 a126
          replace he127 : Env 189 [(84, Ce.v bC), (83, Value.bool false), (82, Value.bool false), (81, Value.bool false), (80, Value.bool true), (79, Value.int .i64 12), (78, Ce.v zeroCe), (77, Wd.v n4), (76, Value.bool false), (75, Value.bool false), (74, Value.bool false), (73, Value.bool true), (72, Value.int .i64 12), (71, Ce.v zeroCe), (70, Wd.v n3), (69, Value.bool false), (68, Value.bool false), (67, Value.bool false), (66, Value.bool true), (65, Value.int .i64 12), (64, Ce.v zeroCe), (63, Wd.v n2), (62, Value.bool false), (61, Value.bool false), (60, Value.bool false), (59, Value.bool true), (58, Value.int .i64 12), (57, Ce.v zeroCe), (56, Wd.v n1), (55, Value.bool false), (54, Value.bool false), (53, Value.bool true), (52, Ce.v aC), (51, Wd.v xW), (10, Value.int .i64 12), (9, Value.pointer (some ⟨p83, 0, none⟩)), (8, Value.pointer (some ⟨p39, 0, none⟩)), (7, Value.pointer (some ⟨p37, 0, none⟩)), (6, Value.pointer (some ⟨p35, 0, none⟩)), (5, Value.pointer (some ⟨p24, 0, none⟩)), (4, Value.pointer (some ⟨p12, 0, none⟩)), (3, Value.pointer (some ⟨p10, 0, none⟩)), (2, Value.pointer (some ⟨p8, 0, none⟩)), (1, Value.pointer (some ⟨p6, 0, none⟩)), (0, Value.bool false)] a127 := he127
          refine lV (Wd.v zeroW) he127 rfl rfl (he127.want rfl rfl rfl rfl rfl) (rn_bW0 rfl w122) ?_
          intro a128 he128
          clear he127 a127
          replace he128 : Env 189 [(85, Wd.v zeroW), (84, Ce.v bC), (83, Value.bool false), (82, Value.bool false), (81, Value.bool false), (80, Value.bool true), (79, Value.int .i64 12), (78, Ce.v zeroCe), (77, Wd.v n4), (76, Value.bool false), (75, Value.bool false), (74, Value.bool false), (73, Value.bool true), (72, Value.int .i64 12), (71, Ce.v zeroCe), (70, Wd.v n3), (69, Value.bool false), (68, Value.bool false), (67, Value.bool false), (66, Value.bool true), (65, Value.int .i64 12), (64, Ce.v zeroCe), (63, Wd.v n2), (62, Value.bool false), (61, Value.bool false), (60, Value.bool false), (59, Value.bool true), (58, Value.int .i64 12), (57, Ce.v zeroCe), (56, Wd.v n1), (55, Value.bool false), (54, Value.bool false), (53, Value.bool true), (52, Ce.v aC), (51, Wd.v xW), (10, Value.int .i64 12), (9, Value.pointer (some ⟨p83, 0, none⟩)), (8, Value.pointer (some ⟨p39, 0, none⟩)), (7, Value.pointer (some ⟨p37, 0, none⟩)), (6, Value.pointer (some ⟨p35, 0, none⟩)), (5, Value.pointer (some ⟨p24, 0, none⟩)), (4, Value.pointer (some ⟨p12, 0, none⟩)), (3, Value.pointer (some ⟨p10, 0, none⟩)), (2, Value.pointer (some ⟨p8, 0, none⟩)), (1, Value.pointer (some ⟨p6, 0, none⟩)), (0, Value.bool false)] a128 := he128
          refine lC he128 rfl rfl Tryd.func10 (by kernel_rfl) rfl rfl (he128.want rfl rfl rfl rfl rfl) rfl (words_b bC zeroP_ok zeroW 2 true kw5 w122 (hT.new hH122.new)) ?_
          intro w129 a130 hn he130
          have hH129 := hH122.call hn
          clear he128 a128 hH122 hn
          refine lV (Value.bool false) he130 rfl rfl (he130.want rfl rfl rfl rfl rfl) (rn_not (b := true) rfl (he130.op rfl) w129) ?_
          intro a131 he131
          clear he130 a130
          refine lV (Value.bool false) he131 rfl rfl (wanted_plain rfl _) (rn_pk0 rfl (he131.op rfl) (he131.op rfl) w129) ?_
          intro a132 he132
          clear he131 a131
          refine wpList_nil ?_
          refine then_ok ?_
          refine wp_cond_false (he132.op rfl) ?_
          refine wp_skip ?_
          refine then_ok ?_
          have he133 : Env 189 [(10, Value.int .i64 12), (8, Value.pointer (some ⟨p39, 0, none⟩)), (7, Value.pointer (some ⟨p37, 0, none⟩)), (6, Value.pointer (some ⟨p35, 0, none⟩)), (4, Value.pointer (some ⟨p12, 0, none⟩)), (3, Value.pointer (some ⟨p10, 0, none⟩)), (2, Value.pointer (some ⟨p8, 0, none⟩)), (1, Value.pointer (some ⟨p6, 0, none⟩)), (0, Value.bool false)] a132 := he132.mem ⟨rfl, rfl, rfl, rfl, rfl, rfl, rfl, rfl, rfl, trivial⟩
          clear he132
          as_aux_lemma =>
            refine wp_seq ?_
            have heb134 : Env 189 [(10, Value.int .i64 12), (8, Value.pointer (some ⟨p39, 0, none⟩)), (7, Value.pointer (some ⟨p37, 0, none⟩)), (6, Value.pointer (some ⟨p35, 0, none⟩)), (4, Value.pointer (some ⟨p12, 0, none⟩)), (3, Value.pointer (some ⟨p10, 0, none⟩)), (2, Value.pointer (some ⟨p8, 0, none⟩)), (1, Value.pointer (some ⟨p6, 0, none⟩)), (0, Value.bool false)] a132 := he133.mem ⟨rfl, rfl, rfl, rfl, rfl, rfl, rfl, rfl, rfl, trivial⟩
            clear he133
            refine region_any (S := fun W => Hp w [⟨p83, 30, (Ce.cs zeroCe)⟩, ⟨p39, 34, (Wd.cs zW)⟩, ⟨p37, 34, (Wd.cs yW)⟩, ⟨p35, 34, (Wd.cs xW)⟩, ⟨p24, 30, (Ce.cs mC)⟩, ⟨p12, 30, (Ce.cs zeroCe)⟩, ⟨p10, 30, (Ce.cs wC)⟩, ⟨p8, 30, (Ce.cs eC)⟩, ⟨p6, 30, (Ce.cs aC)⟩] W ∧ Tab W) (I := HoldsI [.val (Wd.v xW), .val (Rn.v (⟨2, xW⟩ : Rn)), .val (Wd.v yW), .val (Rn.v (⟨1, yW⟩ : Rn)), .runs 2 [(⟨2, xW⟩ : Rn), (⟨1, yW⟩ : Rn)], .runs 2 [⟨2, xW⟩, ⟨1, yW⟩], .runs 2 [⟨2, xW⟩, ⟨1, yW⟩]]) (by kernel_rfl) heb134 ⟨hH129.drew, hT.new (hH129.drew).new⟩ (by kernel_rfl) HoldsI.new (fun w_ w1_ h_ hn_ => ⟨h_.1.call hn_, h_.2.new hn_⟩) ?_ ?_
            · skip
              refine StepsAll.cons ?_ ?_
              · intro aa ww hB hd
                have he : Env 189 [(10, Value.int .i64 12), (8, Value.pointer (some ⟨p39, 0, none⟩)), (7, Value.pointer (some ⟨p37, 0, none⟩)), (6, Value.pointer (some ⟨p35, 0, none⟩)), (4, Value.pointer (some ⟨p12, 0, none⟩)), (3, Value.pointer (some ⟨p10, 0, none⟩)), (2, Value.pointer (some ⟨p8, 0, none⟩)), (1, Value.pointer (some ⟨p6, 0, none⟩)), (0, Value.bool false)] aa := hB.env
                exact .inr ⟨(wanted_plain rfl _), Does.val (v := Wd.v xW) (rn_loadW rfl (he.op rfl) (hB.held.1.at (i := 3) rfl)) ⟨Fr.refl _ _, rfl⟩⟩
              refine StepsAll.cons ?_ ?_
              · intro aa ww hB hd
                have h89 : aa.eval (.tmp 89) = Wd.v xW := hd 0 (by kernel_rfl)
                have he : Env 189 [(89, Wd.v xW), (10, Value.int .i64 12), (8, Value.pointer (some ⟨p39, 0, none⟩)), (7, Value.pointer (some ⟨p37, 0, none⟩)), (6, Value.pointer (some ⟨p35, 0, none⟩)), (4, Value.pointer (some ⟨p12, 0, none⟩)), (3, Value.pointer (some ⟨p10, 0, none⟩)), (2, Value.pointer (some ⟨p8, 0, none⟩)), (1, Value.pointer (some ⟨p6, 0, none⟩)), (0, Value.bool false)] aa := (hB.env.add h89)
                exact .inr ⟨(wanted_plain rfl _), does_call Tryd.func31 (by kernel_rfl) rfl rfl (he.args rfl) (run_any 2 xW ww) (fun e_ w_ h_ => ⟨_, h_.1, h_.2, rfl⟩)⟩
              refine StepsAll.cons ?_ ?_
              · intro aa ww hB hd
                have he : Env 189 [(10, Value.int .i64 12), (8, Value.pointer (some ⟨p39, 0, none⟩)), (7, Value.pointer (some ⟨p37, 0, none⟩)), (6, Value.pointer (some ⟨p35, 0, none⟩)), (4, Value.pointer (some ⟨p12, 0, none⟩)), (3, Value.pointer (some ⟨p10, 0, none⟩)), (2, Value.pointer (some ⟨p8, 0, none⟩)), (1, Value.pointer (some ⟨p6, 0, none⟩)), (0, Value.bool false)] aa := hB.env
                exact .inr ⟨(wanted_plain rfl _), Does.val (v := Wd.v yW) (rn_loadW rfl (he.op rfl) (hB.held.1.at (i := 2) rfl)) ⟨Fr.refl _ _, rfl⟩⟩
              refine StepsAll.cons ?_ ?_
              · intro aa ww hB hd
                have h91 : aa.eval (.tmp 91) = Wd.v yW := hd 2 (by kernel_rfl)
                have he : Env 189 [(91, Wd.v yW), (10, Value.int .i64 12), (8, Value.pointer (some ⟨p39, 0, none⟩)), (7, Value.pointer (some ⟨p37, 0, none⟩)), (6, Value.pointer (some ⟨p35, 0, none⟩)), (4, Value.pointer (some ⟨p12, 0, none⟩)), (3, Value.pointer (some ⟨p10, 0, none⟩)), (2, Value.pointer (some ⟨p8, 0, none⟩)), (1, Value.pointer (some ⟨p6, 0, none⟩)), (0, Value.bool false)] aa := (hB.env.add h91)
                exact .inr ⟨(wanted_plain rfl _), does_call Tryd.func31 (by kernel_rfl) rfl rfl (he.args rfl) (run_any 1 yW ww) (fun e_ w_ h_ => ⟨_, h_.1, h_.2, rfl⟩)⟩
              refine StepsAll.cons ?_ ?_
              · intro aa ww hB hd
                have h90 : aa.eval (.tmp 90) = Rn.v (⟨2, xW⟩ : Rn) := hd 1 (by kernel_rfl)
                have h92 : aa.eval (.tmp 92) = Rn.v (⟨1, yW⟩ : Rn) := hd 3 (by kernel_rfl)
                have he : Env 189 [(92, Rn.v (⟨1, yW⟩ : Rn)), (90, Rn.v (⟨2, xW⟩ : Rn)), (10, Value.int .i64 12), (8, Value.pointer (some ⟨p39, 0, none⟩)), (7, Value.pointer (some ⟨p37, 0, none⟩)), (6, Value.pointer (some ⟨p35, 0, none⟩)), (4, Value.pointer (some ⟨p12, 0, none⟩)), (3, Value.pointer (some ⟨p10, 0, none⟩)), (2, Value.pointer (some ⟨p8, 0, none⟩)), (1, Value.pointer (some ⟨p6, 0, none⟩)), (0, Value.bool false)] aa := ((hB.env.add h90).add h92)
                exact .inr ⟨(wanted_plain rfl _), Does.val (rn_bsr2 rfl (he.op rfl) (he.op rfl) ww) ⟨(Fr.refl _ _).alloc _, _, rfl, rdg_lit (R := rR) ww [(⟨2, xW⟩ : Rn), (⟨1, yW⟩ : Rn)] _ rfl 2 rfl⟩⟩
              refine StepsAll.cons ?_ ?_
              · intro aa ww hB hd
                have hx93 : ∃ p, aa.eval (.tmp 93) = .slice (some ⟨p, 0, none⟩) 2 2 ∧ RdR ww p (some ⟨p, 0, none⟩) 2 [(⟨2, xW⟩ : Rn), (⟨1, yW⟩ : Rn)] := hd 4 (by kernel_rfl)
                obtain ⟨p93, h93, hr93⟩ := hx93
                have he : Env 189 [(93, Value.slice (some ⟨p93, 0, none⟩) 2 2), (10, Value.int .i64 12), (8, Value.pointer (some ⟨p39, 0, none⟩)), (7, Value.pointer (some ⟨p37, 0, none⟩)), (6, Value.pointer (some ⟨p35, 0, none⟩)), (4, Value.pointer (some ⟨p12, 0, none⟩)), (3, Value.pointer (some ⟨p10, 0, none⟩)), (2, Value.pointer (some ⟨p8, 0, none⟩)), (1, Value.pointer (some ⟨p6, 0, none⟩)), (0, Value.bool false)] aa := (hB.env.add h93)
                exact .inr ⟨(wanted_plain rfl _), does_call Tryd.func30 (by kernel_rfl) rfl rfl (he.args rfl) (runs_any _ ww) (fun e_ w_ h_ => ⟨_, h_.1, h_.2, _, rfl, (hr93.new h_.2)⟩)⟩
              refine StepsAll.cons ?_ ?_
              · intro aa ww hB hd
                have hx94 : ∃ p, aa.eval (.tmp 94) = .slice (some ⟨p, 0, none⟩) 2 2 ∧ RdR ww p (some ⟨p, 0, none⟩) 2 [⟨2, xW⟩, ⟨1, yW⟩] := hd 5 (by kernel_rfl)
                obtain ⟨p94, h94, hr94⟩ := hx94
                have he : Env 189 [(94, Value.slice (some ⟨p94, 0, none⟩) 2 2), (10, Value.int .i64 12), (8, Value.pointer (some ⟨p39, 0, none⟩)), (7, Value.pointer (some ⟨p37, 0, none⟩)), (6, Value.pointer (some ⟨p35, 0, none⟩)), (4, Value.pointer (some ⟨p12, 0, none⟩)), (3, Value.pointer (some ⟨p10, 0, none⟩)), (2, Value.pointer (some ⟨p8, 0, none⟩)), (1, Value.pointer (some ⟨p6, 0, none⟩)), (0, Value.bool false)] aa := (hB.env.add h94)
                exact .inr ⟨(wanted_plain rfl _), Does.val (rn_asg rfl (he.op rfl) ww) ⟨Fr.refl _ _, _, rfl, hr94⟩⟩
              exact StepsAll.nil
            · intro aa ww hB hall
              have hx11 : ∃ p, aa.eval (.tmp 11) = .slice (some ⟨p, 0, none⟩) 2 2 ∧ RdR ww p (some ⟨p, 0, none⟩) 2 [⟨2, xW⟩, ⟨1, yW⟩] := hall 6 (Nat.le_of_ble_eq_true (n := 7) (by kernel_rfl))
              obtain ⟨p11, h11, hr11⟩ := hx11
              have he135 : Env 189 [(11, Value.slice (some ⟨p11, 0, none⟩) 2 2), (10, Value.int .i64 12), (8, Value.pointer (some ⟨p39, 0, none⟩)), (7, Value.pointer (some ⟨p37, 0, none⟩)), (6, Value.pointer (some ⟨p35, 0, none⟩)), (4, Value.pointer (some ⟨p12, 0, none⟩)), (3, Value.pointer (some ⟨p10, 0, none⟩)), (2, Value.pointer (some ⟨p8, 0, none⟩)), (1, Value.pointer (some ⟨p6, 0, none⟩)), (0, Value.bool false)] aa := (hB.env.add h11)
              have hH135 := hB.held.1
              have hTt := hB.held.2
              clear hB hall heb134 hH129
              refine then_ok ?_
              clear hTt
              as_aux_lemma =>
                refine wp_seq ?_
                refine wp_seq ?_
                have heb136 : Env 189 [(11, Value.slice (some ⟨p11, 0, none⟩) 2 2), (10, Value.int .i64 12), (8, Value.pointer (some ⟨p39, 0, none⟩)), (7, Value.pointer (some ⟨p37, 0, none⟩)), (6, Value.pointer (some ⟨p35, 0, none⟩)), (4, Value.pointer (some ⟨p12, 0, none⟩)), (3, Value.pointer (some ⟨p10, 0, none⟩)), (2, Value.pointer (some ⟨p8, 0, none⟩)), (1, Value.pointer (some ⟨p6, 0, none⟩)), (0, Value.bool false)] aa := he135.mem ⟨rfl, rfl, rfl, rfl, rfl, rfl, rfl, rfl, rfl, rfl, trivial⟩
                clear he135
                refine region_any (S := fun W => Hp w [⟨p83, 30, (Ce.cs zeroCe)⟩, ⟨p39, 34, (Wd.cs zW)⟩, ⟨p37, 34, (Wd.cs yW)⟩, ⟨p35, 34, (Wd.cs xW)⟩, ⟨p24, 30, (Ce.cs mC)⟩, ⟨p12, 30, (Ce.cs zeroCe)⟩, ⟨p10, 30, (Ce.cs wC)⟩, ⟨p8, 30, (Ce.cs eC)⟩, ⟨p6, 30, (Ce.cs aC)⟩] W ∧ Tab W ∧ RdR W p11 (some ⟨p11, 0, none⟩) 2 [⟨2, xW⟩, ⟨1, yW⟩]) (I := HoldsI [.val (Ce.v aC), .val (Ce.v aC), .val (Ce.v eC), .val (Ce.v wC), .val (Ce.v zeroCe), .cells 5 [aC, aC, eC, wC, zeroCe], .val (Wd.v xW), .val (Rn.v (⟨2, xW⟩ : Rn)), .val (Wd.v yW), .val (Rn.v (⟨1, yW⟩ : Rn)), .val (Wd.v zW), .val (Rn.v (⟨1, zW⟩ : Rn)), .val (Wd.v zeroW), .val (Rn.v (⟨1, zeroW⟩ : Rn)), .runs 4 [(⟨2, xW⟩ : Rn), (⟨1, yW⟩ : Rn), (⟨1, zW⟩ : Rn), (⟨1, zeroW⟩ : Rn)], .val (Value.bool true), .val (Value.bool false), .val (Value.bool false), .val (Value.bool true), .val (Value.bool false), .val (Value.bool false), .val (Value.bool false), .val (Value.slice (some ⟨p11, 0, none⟩) 2 2), .val (Value.int .i64 3), .val (Value.bool false), .val (Value.bool false), .val (Value.bool false), .val (Value.slice (some ⟨p11, 0, none⟩) 2 2), .val (Ce.v aC), .val (Ce.v aC), .val (Ce.v eC), .cells 3 [aC, aC, eC], .val (Value.bool true), .val (Value.bool false), .val (Value.bool false), .val (Value.bool false), .val (Wd.v xW), .val (Rn.v (⟨1, xW⟩ : Rn)), .val (Wd.v xW), .val (Rn.v (⟨1, xW⟩ : Rn)), .runs 2 [(⟨1, xW⟩ : Rn), (⟨1, xW⟩ : Rn)], .runs 2 [⟨1, xW⟩, ⟨1, xW⟩], .val (Value.int .i64 12), .val (Value.bool true), .val (Value.bool false), .val (Value.bool false), .val (Value.bool false), .val (Wd.v xW), .val (Rn.v (⟨0, xW⟩ : Rn)), .runs 1 [(⟨0, xW⟩ : Rn)], .runs 1 [⟨0, xW⟩], .val (Value.int .i64 12), .val (Value.bool true), .val (Value.bool false), .val (Value.bool false)]) (by kernel_rfl) heb136 ⟨hH135.drew, hT.new (hH135.drew).new, hr11.new ((Fr.refl _ _).drew)⟩ (by kernel_rfl) HoldsI.new (fun w_ w1_ h_ hn_ => ⟨h_.1.call hn_, h_.2.1.new hn_, h_.2.2.new hn_⟩) ?_ ?_
                · skip
                  refine StepsAll.cons ?_ ?_
                  · intro aa ww hB hd
                    have he : Env 189 [(11, Value.slice (some ⟨p11, 0, none⟩) 2 2), (10, Value.int .i64 12), (8, Value.pointer (some ⟨p39, 0, none⟩)), (7, Value.pointer (some ⟨p37, 0, none⟩)), (6, Value.pointer (some ⟨p35, 0, none⟩)), (4, Value.pointer (some ⟨p12, 0, none⟩)), (3, Value.pointer (some ⟨p10, 0, none⟩)), (2, Value.pointer (some ⟨p8, 0, none⟩)), (1, Value.pointer (some ⟨p6, 0, none⟩)), (0, Value.bool false)] aa := hB.env
                    exact .inr ⟨(wanted_plain rfl _), Does.val (v := Ce.v aC) (rn_load rfl (he.op rfl) (hB.held.1.at (i := 8) rfl)) ⟨Fr.refl _ _, rfl⟩⟩
                  refine StepsAll.cons ?_ ?_
                  · intro aa ww hB hd
                    have he : Env 189 [(11, Value.slice (some ⟨p11, 0, none⟩) 2 2), (10, Value.int .i64 12), (8, Value.pointer (some ⟨p39, 0, none⟩)), (7, Value.pointer (some ⟨p37, 0, none⟩)), (6, Value.pointer (some ⟨p35, 0, none⟩)), (4, Value.pointer (some ⟨p12, 0, none⟩)), (3, Value.pointer (some ⟨p10, 0, none⟩)), (2, Value.pointer (some ⟨p8, 0, none⟩)), (1, Value.pointer (some ⟨p6, 0, none⟩)), (0, Value.bool false)] aa := hB.env
                    exact .inr ⟨(wanted_plain rfl _), Does.val (v := Ce.v aC) (rn_load rfl (he.op rfl) (hB.held.1.at (i := 8) rfl)) ⟨Fr.refl _ _, rfl⟩⟩
                  refine StepsAll.cons ?_ ?_
                  · intro aa ww hB hd
                    have he : Env 189 [(11, Value.slice (some ⟨p11, 0, none⟩) 2 2), (10, Value.int .i64 12), (8, Value.pointer (some ⟨p39, 0, none⟩)), (7, Value.pointer (some ⟨p37, 0, none⟩)), (6, Value.pointer (some ⟨p35, 0, none⟩)), (4, Value.pointer (some ⟨p12, 0, none⟩)), (3, Value.pointer (some ⟨p10, 0, none⟩)), (2, Value.pointer (some ⟨p8, 0, none⟩)), (1, Value.pointer (some ⟨p6, 0, none⟩)), (0, Value.bool false)] aa := hB.env
                    exact .inr ⟨(wanted_plain rfl _), Does.val (v := Ce.v eC) (rn_load rfl (he.op rfl) (hB.held.1.at (i := 7) rfl)) ⟨Fr.refl _ _, rfl⟩⟩
                  refine StepsAll.cons ?_ ?_
                  · intro aa ww hB hd
                    have he : Env 189 [(11, Value.slice (some ⟨p11, 0, none⟩) 2 2), (10, Value.int .i64 12), (8, Value.pointer (some ⟨p39, 0, none⟩)), (7, Value.pointer (some ⟨p37, 0, none⟩)), (6, Value.pointer (some ⟨p35, 0, none⟩)), (4, Value.pointer (some ⟨p12, 0, none⟩)), (3, Value.pointer (some ⟨p10, 0, none⟩)), (2, Value.pointer (some ⟨p8, 0, none⟩)), (1, Value.pointer (some ⟨p6, 0, none⟩)), (0, Value.bool false)] aa := hB.env
                    exact .inr ⟨(wanted_plain rfl _), Does.val (v := Ce.v wC) (rn_load rfl (he.op rfl) (hB.held.1.at (i := 6) rfl)) ⟨Fr.refl _ _, rfl⟩⟩
                  refine StepsAll.cons ?_ ?_
                  · intro aa ww hB hd
                    have he : Env 189 [(11, Value.slice (some ⟨p11, 0, none⟩) 2 2), (10, Value.int .i64 12), (8, Value.pointer (some ⟨p39, 0, none⟩)), (7, Value.pointer (some ⟨p37, 0, none⟩)), (6, Value.pointer (some ⟨p35, 0, none⟩)), (4, Value.pointer (some ⟨p12, 0, none⟩)), (3, Value.pointer (some ⟨p10, 0, none⟩)), (2, Value.pointer (some ⟨p8, 0, none⟩)), (1, Value.pointer (some ⟨p6, 0, none⟩)), (0, Value.bool false)] aa := hB.env
                    exact .inr ⟨(wanted_plain rfl _), Does.val (v := Ce.v zeroCe) (rn_load rfl (he.op rfl) (hB.held.1.at (i := 5) rfl)) ⟨Fr.refl _ _, rfl⟩⟩
                  refine StepsAll.cons ?_ ?_
                  · intro aa ww hB hd
                    have h95 : aa.eval (.tmp 95) = Ce.v aC := hd 0 (by kernel_rfl)
                    have h96 : aa.eval (.tmp 96) = Ce.v aC := hd 1 (by kernel_rfl)
                    have h97 : aa.eval (.tmp 97) = Ce.v eC := hd 2 (by kernel_rfl)
                    have h98 : aa.eval (.tmp 98) = Ce.v wC := hd 3 (by kernel_rfl)
                    have h99 : aa.eval (.tmp 99) = Ce.v zeroCe := hd 4 (by kernel_rfl)
                    have he : Env 189 [(99, Ce.v zeroCe), (98, Ce.v wC), (97, Ce.v eC), (96, Ce.v aC), (95, Ce.v aC), (11, Value.slice (some ⟨p11, 0, none⟩) 2 2), (10, Value.int .i64 12), (8, Value.pointer (some ⟨p39, 0, none⟩)), (7, Value.pointer (some ⟨p37, 0, none⟩)), (6, Value.pointer (some ⟨p35, 0, none⟩)), (4, Value.pointer (some ⟨p12, 0, none⟩)), (3, Value.pointer (some ⟨p10, 0, none⟩)), (2, Value.pointer (some ⟨p8, 0, none⟩)), (1, Value.pointer (some ⟨p6, 0, none⟩)), (0, Value.bool false)] aa := (((((hB.env.add h95).add h96).add h97).add h98).add h99)
                    exact .inr ⟨(wanted_plain rfl _), Does.val (rn_bs5 rfl (he.op rfl) (he.op rfl) (he.op rfl) (he.op rfl) (he.op rfl) ww) ⟨(Fr.refl _ _).alloc _, _, rfl, rdc_lit ww [aC, aC, eC, wC, zeroCe] _ rfl 5 rfl⟩⟩
                  refine StepsAll.cons ?_ ?_
                  · intro aa ww hB hd
                    have he : Env 189 [(11, Value.slice (some ⟨p11, 0, none⟩) 2 2), (10, Value.int .i64 12), (8, Value.pointer (some ⟨p39, 0, none⟩)), (7, Value.pointer (some ⟨p37, 0, none⟩)), (6, Value.pointer (some ⟨p35, 0, none⟩)), (4, Value.pointer (some ⟨p12, 0, none⟩)), (3, Value.pointer (some ⟨p10, 0, none⟩)), (2, Value.pointer (some ⟨p8, 0, none⟩)), (1, Value.pointer (some ⟨p6, 0, none⟩)), (0, Value.bool false)] aa := hB.env
                    exact .inr ⟨(wanted_plain rfl _), Does.val (v := Wd.v xW) (rn_loadW rfl (he.op rfl) (hB.held.1.at (i := 3) rfl)) ⟨Fr.refl _ _, rfl⟩⟩
                  refine StepsAll.cons ?_ ?_
                  · intro aa ww hB hd
                    have h101 : aa.eval (.tmp 101) = Wd.v xW := hd 6 (by kernel_rfl)
                    have he : Env 189 [(101, Wd.v xW), (11, Value.slice (some ⟨p11, 0, none⟩) 2 2), (10, Value.int .i64 12), (8, Value.pointer (some ⟨p39, 0, none⟩)), (7, Value.pointer (some ⟨p37, 0, none⟩)), (6, Value.pointer (some ⟨p35, 0, none⟩)), (4, Value.pointer (some ⟨p12, 0, none⟩)), (3, Value.pointer (some ⟨p10, 0, none⟩)), (2, Value.pointer (some ⟨p8, 0, none⟩)), (1, Value.pointer (some ⟨p6, 0, none⟩)), (0, Value.bool false)] aa := (hB.env.add h101)
                    exact .inr ⟨(wanted_plain rfl _), does_call Tryd.func31 (by kernel_rfl) rfl rfl (he.args rfl) (run_any 2 xW ww) (fun e_ w_ h_ => ⟨_, h_.1, h_.2, rfl⟩)⟩
                  refine StepsAll.cons ?_ ?_
                  · intro aa ww hB hd
                    have he : Env 189 [(11, Value.slice (some ⟨p11, 0, none⟩) 2 2), (10, Value.int .i64 12), (8, Value.pointer (some ⟨p39, 0, none⟩)), (7, Value.pointer (some ⟨p37, 0, none⟩)), (6, Value.pointer (some ⟨p35, 0, none⟩)), (4, Value.pointer (some ⟨p12, 0, none⟩)), (3, Value.pointer (some ⟨p10, 0, none⟩)), (2, Value.pointer (some ⟨p8, 0, none⟩)), (1, Value.pointer (some ⟨p6, 0, none⟩)), (0, Value.bool false)] aa := hB.env
                    exact .inr ⟨(wanted_plain rfl _), Does.val (v := Wd.v yW) (rn_loadW rfl (he.op rfl) (hB.held.1.at (i := 2) rfl)) ⟨Fr.refl _ _, rfl⟩⟩
                  refine StepsAll.cons ?_ ?_
                  · intro aa ww hB hd
                    have h103 : aa.eval (.tmp 103) = Wd.v yW := hd 8 (by kernel_rfl)
                    have he : Env 189 [(103, Wd.v yW), (11, Value.slice (some ⟨p11, 0, none⟩) 2 2), (10, Value.int .i64 12), (8, Value.pointer (some ⟨p39, 0, none⟩)), (7, Value.pointer (some ⟨p37, 0, none⟩)), (6, Value.pointer (some ⟨p35, 0, none⟩)), (4, Value.pointer (some ⟨p12, 0, none⟩)), (3, Value.pointer (some ⟨p10, 0, none⟩)), (2, Value.pointer (some ⟨p8, 0, none⟩)), (1, Value.pointer (some ⟨p6, 0, none⟩)), (0, Value.bool false)] aa := (hB.env.add h103)
                    exact .inr ⟨(wanted_plain rfl _), does_call Tryd.func31 (by kernel_rfl) rfl rfl (he.args rfl) (run_any 1 yW ww) (fun e_ w_ h_ => ⟨_, h_.1, h_.2, rfl⟩)⟩
                  refine StepsAll.cons ?_ ?_
                  · intro aa ww hB hd
                    have he : Env 189 [(11, Value.slice (some ⟨p11, 0, none⟩) 2 2), (10, Value.int .i64 12), (8, Value.pointer (some ⟨p39, 0, none⟩)), (7, Value.pointer (some ⟨p37, 0, none⟩)), (6, Value.pointer (some ⟨p35, 0, none⟩)), (4, Value.pointer (some ⟨p12, 0, none⟩)), (3, Value.pointer (some ⟨p10, 0, none⟩)), (2, Value.pointer (some ⟨p8, 0, none⟩)), (1, Value.pointer (some ⟨p6, 0, none⟩)), (0, Value.bool false)] aa := hB.env
                    exact .inr ⟨(wanted_plain rfl _), Does.val (v := Wd.v zW) (rn_loadW rfl (he.op rfl) (hB.held.1.at (i := 1) rfl)) ⟨Fr.refl _ _, rfl⟩⟩
                  refine StepsAll.cons ?_ ?_
                  · intro aa ww hB hd
                    have h105 : aa.eval (.tmp 105) = Wd.v zW := hd 10 (by kernel_rfl)
                    have he : Env 189 [(105, Wd.v zW), (11, Value.slice (some ⟨p11, 0, none⟩) 2 2), (10, Value.int .i64 12), (8, Value.pointer (some ⟨p39, 0, none⟩)), (7, Value.pointer (some ⟨p37, 0, none⟩)), (6, Value.pointer (some ⟨p35, 0, none⟩)), (4, Value.pointer (some ⟨p12, 0, none⟩)), (3, Value.pointer (some ⟨p10, 0, none⟩)), (2, Value.pointer (some ⟨p8, 0, none⟩)), (1, Value.pointer (some ⟨p6, 0, none⟩)), (0, Value.bool false)] aa := (hB.env.add h105)
                    exact .inr ⟨(wanted_plain rfl _), does_call Tryd.func31 (by kernel_rfl) rfl rfl (he.args rfl) (run_any 1 zW ww) (fun e_ w_ h_ => ⟨_, h_.1, h_.2, rfl⟩)⟩
                  refine StepsAll.cons ?_ ?_
                  · intro aa ww hB hd
                    have he : Env 189 [(11, Value.slice (some ⟨p11, 0, none⟩) 2 2), (10, Value.int .i64 12), (8, Value.pointer (some ⟨p39, 0, none⟩)), (7, Value.pointer (some ⟨p37, 0, none⟩)), (6, Value.pointer (some ⟨p35, 0, none⟩)), (4, Value.pointer (some ⟨p12, 0, none⟩)), (3, Value.pointer (some ⟨p10, 0, none⟩)), (2, Value.pointer (some ⟨p8, 0, none⟩)), (1, Value.pointer (some ⟨p6, 0, none⟩)), (0, Value.bool false)] aa := hB.env
                    exact .inr ⟨(wanted_plain rfl _), Does.val (v := Wd.v zeroW) (rn_bW0 rfl ww) ⟨Fr.refl _ _, rfl⟩⟩
                  refine StepsAll.cons ?_ ?_
                  · intro aa ww hB hd
                    have h107 : aa.eval (.tmp 107) = Wd.v zeroW := hd 12 (by kernel_rfl)
                    have he : Env 189 [(107, Wd.v zeroW), (11, Value.slice (some ⟨p11, 0, none⟩) 2 2), (10, Value.int .i64 12), (8, Value.pointer (some ⟨p39, 0, none⟩)), (7, Value.pointer (some ⟨p37, 0, none⟩)), (6, Value.pointer (some ⟨p35, 0, none⟩)), (4, Value.pointer (some ⟨p12, 0, none⟩)), (3, Value.pointer (some ⟨p10, 0, none⟩)), (2, Value.pointer (some ⟨p8, 0, none⟩)), (1, Value.pointer (some ⟨p6, 0, none⟩)), (0, Value.bool false)] aa := (hB.env.add h107)
                    exact .inr ⟨(wanted_plain rfl _), does_call Tryd.func31 (by kernel_rfl) rfl rfl (he.args rfl) (run_any 1 zeroW ww) (fun e_ w_ h_ => ⟨_, h_.1, h_.2, rfl⟩)⟩
                  refine StepsAll.cons ?_ ?_
                  · intro aa ww hB hd
                    have h102 : aa.eval (.tmp 102) = Rn.v (⟨2, xW⟩ : Rn) := hd 7 (by kernel_rfl)
                    have h104 : aa.eval (.tmp 104) = Rn.v (⟨1, yW⟩ : Rn) := hd 9 (by kernel_rfl)
                    have h106 : aa.eval (.tmp 106) = Rn.v (⟨1, zW⟩ : Rn) := hd 11 (by kernel_rfl)
                    have h108 : aa.eval (.tmp 108) = Rn.v (⟨1, zeroW⟩ : Rn) := hd 13 (by kernel_rfl)
                    have he : Env 189 [(108, Rn.v (⟨1, zeroW⟩ : Rn)), (106, Rn.v (⟨1, zW⟩ : Rn)), (104, Rn.v (⟨1, yW⟩ : Rn)), (102, Rn.v (⟨2, xW⟩ : Rn)), (11, Value.slice (some ⟨p11, 0, none⟩) 2 2), (10, Value.int .i64 12), (8, Value.pointer (some ⟨p39, 0, none⟩)), (7, Value.pointer (some ⟨p37, 0, none⟩)), (6, Value.pointer (some ⟨p35, 0, none⟩)), (4, Value.pointer (some ⟨p12, 0, none⟩)), (3, Value.pointer (some ⟨p10, 0, none⟩)), (2, Value.pointer (some ⟨p8, 0, none⟩)), (1, Value.pointer (some ⟨p6, 0, none⟩)), (0, Value.bool false)] aa := ((((hB.env.add h102).add h104).add h106).add h108)
                    exact .inr ⟨(wanted_plain rfl _), Does.val (rn_bsr4 rfl (he.op rfl) (he.op rfl) (he.op rfl) (he.op rfl) ww) ⟨(Fr.refl _ _).alloc _, _, rfl, rdg_lit (R := rR) ww [(⟨2, xW⟩ : Rn), (⟨1, yW⟩ : Rn), (⟨1, zW⟩ : Rn), (⟨1, zeroW⟩ : Rn)] _ rfl 4 rfl⟩⟩
                  refine StepsAll.cons ?_ ?_
                  · intro aa ww hB hd
                    have hx100 : ∃ p, aa.eval (.tmp 100) = .slice (some ⟨p, 0, none⟩) 5 5 ∧ RdC ww p (some ⟨p, 0, none⟩) 5 [aC, aC, eC, wC, zeroCe] := hd 5 (by kernel_rfl)
                    obtain ⟨p100, h100, hr100⟩ := hx100
                    have hx109 : ∃ p, aa.eval (.tmp 109) = .slice (some ⟨p, 0, none⟩) 4 4 ∧ RdR ww p (some ⟨p, 0, none⟩) 4 [(⟨2, xW⟩ : Rn), (⟨1, yW⟩ : Rn), (⟨1, zW⟩ : Rn), (⟨1, zeroW⟩ : Rn)] := hd 14 (by kernel_rfl)
                    obtain ⟨p109, h109, hr109⟩ := hx109
                    have he : Env 189 [(109, Value.slice (some ⟨p109, 0, none⟩) 4 4), (100, Value.slice (some ⟨p100, 0, none⟩) 5 5), (11, Value.slice (some ⟨p11, 0, none⟩) 2 2), (10, Value.int .i64 12), (8, Value.pointer (some ⟨p39, 0, none⟩)), (7, Value.pointer (some ⟨p37, 0, none⟩)), (6, Value.pointer (some ⟨p35, 0, none⟩)), (4, Value.pointer (some ⟨p12, 0, none⟩)), (3, Value.pointer (some ⟨p10, 0, none⟩)), (2, Value.pointer (some ⟨p8, 0, none⟩)), (1, Value.pointer (some ⟨p6, 0, none⟩)), (0, Value.bool false)] aa := ((hB.env.add h100).add h109)
                    exact .inr ⟨(wanted_plain rfl _), does_call Tryd.func16 (by kernel_rfl) rfl rfl (he.args rfl) (packs_b [aC, aC, eC, wC, zeroCe] 5 _ _ _ 0 [⟨2, xW⟩, ⟨1, yW⟩, ⟨1, zW⟩, ⟨1, zeroW⟩] 4 _ _ _ true kp0 ww hr100 (okP _ (by intro c hc; simp only [List.mem_cons, List.not_mem_nil, or_false] at hc; rcases hc with rfl | rfl | rfl | rfl | rfl <;> rfl)) (by decide) hr109 (by decide) hB.held.2.1) (fun e_ w_ h_ => ⟨_, h_.1, h_.2, rfl⟩)⟩
                  refine StepsAll.cons ?_ ?_
                  · intro aa ww hB hd
                    have h110 : aa.eval (.tmp 110) = Value.bool true := hd 15 (by kernel_rfl)
                    have he : Env 189 [(110, Value.bool true), (11, Value.slice (some ⟨p11, 0, none⟩) 2 2), (10, Value.int .i64 12), (8, Value.pointer (some ⟨p39, 0, none⟩)), (7, Value.pointer (some ⟨p37, 0, none⟩)), (6, Value.pointer (some ⟨p35, 0, none⟩)), (4, Value.pointer (some ⟨p12, 0, none⟩)), (3, Value.pointer (some ⟨p10, 0, none⟩)), (2, Value.pointer (some ⟨p8, 0, none⟩)), (1, Value.pointer (some ⟨p6, 0, none⟩)), (0, Value.bool false)] aa := (hB.env.add h110)
                    exact .inr ⟨(wanted_plain rfl _), Does.val (v := Value.bool false) (rn_not (b := true) rfl (he.op rfl) ww) ⟨Fr.refl _ _, rfl⟩⟩
                  refine StepsAll.cons ?_ ?_
                  · intro aa ww hB hd
                    have h111 : aa.eval (.tmp 111) = Value.bool false := hd 16 (by kernel_rfl)
                    have he : Env 189 [(111, Value.bool false), (11, Value.slice (some ⟨p11, 0, none⟩) 2 2), (10, Value.int .i64 12), (8, Value.pointer (some ⟨p39, 0, none⟩)), (7, Value.pointer (some ⟨p37, 0, none⟩)), (6, Value.pointer (some ⟨p35, 0, none⟩)), (4, Value.pointer (some ⟨p12, 0, none⟩)), (3, Value.pointer (some ⟨p10, 0, none⟩)), (2, Value.pointer (some ⟨p8, 0, none⟩)), (1, Value.pointer (some ⟨p6, 0, none⟩)), (0, Value.bool false)] aa := (hB.env.add h111)
                    exact .inr ⟨(wanted_plain rfl _), Does.val (v := Value.bool false) (rn_mv rfl (he.op rfl) ww) ⟨Fr.refl _ _, rfl⟩⟩
                  refine StepsAll.cons ?_ ?_
                  · intro aa ww hB hd
                    have h112 : aa.eval (.tmp 112) = Value.bool false := hd 17 (by kernel_rfl)
                    have he : Env 189 [(112, Value.bool false), (11, Value.slice (some ⟨p11, 0, none⟩) 2 2), (10, Value.int .i64 12), (8, Value.pointer (some ⟨p39, 0, none⟩)), (7, Value.pointer (some ⟨p37, 0, none⟩)), (6, Value.pointer (some ⟨p35, 0, none⟩)), (4, Value.pointer (some ⟨p12, 0, none⟩)), (3, Value.pointer (some ⟨p10, 0, none⟩)), (2, Value.pointer (some ⟨p8, 0, none⟩)), (1, Value.pointer (some ⟨p6, 0, none⟩)), (0, Value.bool false)] aa := (hB.env.add h112)
                    exact .inr ⟨(he.want rfl rfl rfl rfl rfl), does_call Tryd.func16 (by kernel_rfl) rfl rfl (he.args rfl) (packs_b [] 0 0 _ none 0 [] 0 0 _ none true kp1 ww (RdC.nil _ _ _) (fun c hc => by cases hc) (by decide) (RdG.nil _ _ _) (by decide) hB.held.2.1) (fun e_ w_ h_ => ⟨_, h_.1, h_.2, rfl⟩)⟩
                  refine StepsAll.cons ?_ ?_
                  · intro aa ww hB hd
                    have h113 : aa.eval (.tmp 113) = Value.bool true := hd 18 (by kernel_rfl)
                    have h112 : aa.eval (.tmp 112) = Value.bool false := hd 17 (by kernel_rfl)
                    have he : Env 189 [(112, Value.bool false), (113, Value.bool true), (11, Value.slice (some ⟨p11, 0, none⟩) 2 2), (10, Value.int .i64 12), (8, Value.pointer (some ⟨p39, 0, none⟩)), (7, Value.pointer (some ⟨p37, 0, none⟩)), (6, Value.pointer (some ⟨p35, 0, none⟩)), (4, Value.pointer (some ⟨p12, 0, none⟩)), (3, Value.pointer (some ⟨p10, 0, none⟩)), (2, Value.pointer (some ⟨p8, 0, none⟩)), (1, Value.pointer (some ⟨p6, 0, none⟩)), (0, Value.bool false)] aa := ((hB.env.add h113).add h112)
                    exact .inr ⟨(he.want rfl rfl rfl rfl rfl), Does.val (v := Value.bool false) (rn_not (b := true) rfl (he.op rfl) ww) ⟨Fr.refl _ _, rfl⟩⟩
                  refine StepsAll.cons ?_ ?_
                  · intro aa ww hB hd
                    have h112 : aa.eval (.tmp 112) = Value.bool false := hd 17 (by kernel_rfl)
                    have h114 : aa.eval (.tmp 114) = Value.bool false := hd 19 (by kernel_rfl)
                    have he : Env 189 [(114, Value.bool false), (112, Value.bool false), (11, Value.slice (some ⟨p11, 0, none⟩) 2 2), (10, Value.int .i64 12), (8, Value.pointer (some ⟨p39, 0, none⟩)), (7, Value.pointer (some ⟨p37, 0, none⟩)), (6, Value.pointer (some ⟨p35, 0, none⟩)), (4, Value.pointer (some ⟨p12, 0, none⟩)), (3, Value.pointer (some ⟨p10, 0, none⟩)), (2, Value.pointer (some ⟨p8, 0, none⟩)), (1, Value.pointer (some ⟨p6, 0, none⟩)), (0, Value.bool false)] aa := ((hB.env.add h112).add h114)
                    exact .inr ⟨(wanted_plain rfl _), Does.val (v := Value.bool false) (rn_pk0 rfl (he.op rfl) (he.op rfl) ww) ⟨Fr.refl _ _, rfl⟩⟩
                  refine StepsAll.cons ?_ ?_
                  · intro aa ww hB hd
                    have h115 : aa.eval (.tmp 115) = Value.bool false := hd 20 (by kernel_rfl)
                    have he : Env 189 [(115, Value.bool false), (11, Value.slice (some ⟨p11, 0, none⟩) 2 2), (10, Value.int .i64 12), (8, Value.pointer (some ⟨p39, 0, none⟩)), (7, Value.pointer (some ⟨p37, 0, none⟩)), (6, Value.pointer (some ⟨p35, 0, none⟩)), (4, Value.pointer (some ⟨p12, 0, none⟩)), (3, Value.pointer (some ⟨p10, 0, none⟩)), (2, Value.pointer (some ⟨p8, 0, none⟩)), (1, Value.pointer (some ⟨p6, 0, none⟩)), (0, Value.bool false)] aa := (hB.env.add h115)
                    exact .inr ⟨(wanted_plain rfl _), Does.val (v := Value.bool false) (rn_mv rfl (he.op rfl) ww) ⟨Fr.refl _ _, rfl⟩⟩
                  refine StepsAll.cons ?_ ?_
                  · intro aa ww hB hd
                    have h116 : aa.eval (.tmp 116) = Value.bool false := hd 21 (by kernel_rfl)
                    have he : Env 189 [(116, Value.bool false), (11, Value.slice (some ⟨p11, 0, none⟩) 2 2), (10, Value.int .i64 12), (8, Value.pointer (some ⟨p39, 0, none⟩)), (7, Value.pointer (some ⟨p37, 0, none⟩)), (6, Value.pointer (some ⟨p35, 0, none⟩)), (4, Value.pointer (some ⟨p12, 0, none⟩)), (3, Value.pointer (some ⟨p10, 0, none⟩)), (2, Value.pointer (some ⟨p8, 0, none⟩)), (1, Value.pointer (some ⟨p6, 0, none⟩)), (0, Value.bool false)] aa := (hB.env.add h116)
                    exact .inr ⟨(he.want rfl rfl rfl rfl rfl), Does.val (v := Value.slice (some ⟨p11, 0, none⟩) 2 2) (rn_mv rfl (he.op rfl) ww) ⟨Fr.refl _ _, rfl⟩⟩
                  refine StepsAll.cons ?_ ?_
                  · intro aa ww hB hd
                    have h117 : aa.eval (.tmp 117) = Value.slice (some ⟨p11, 0, none⟩) 2 2 := hd 22 (by kernel_rfl)
                    have h116 : aa.eval (.tmp 116) = Value.bool false := hd 21 (by kernel_rfl)
                    have he : Env 189 [(116, Value.bool false), (117, Value.slice (some ⟨p11, 0, none⟩) 2 2), (11, Value.slice (some ⟨p11, 0, none⟩) 2 2), (10, Value.int .i64 12), (8, Value.pointer (some ⟨p39, 0, none⟩)), (7, Value.pointer (some ⟨p37, 0, none⟩)), (6, Value.pointer (some ⟨p35, 0, none⟩)), (4, Value.pointer (some ⟨p12, 0, none⟩)), (3, Value.pointer (some ⟨p10, 0, none⟩)), (2, Value.pointer (some ⟨p8, 0, none⟩)), (1, Value.pointer (some ⟨p6, 0, none⟩)), (0, Value.bool false)] aa := ((hB.env.add h117).add h116)
                    exact .inr ⟨(he.want rfl rfl rfl rfl rfl), does_call Tryd.func21 (by kernel_rfl) rfl rfl (he.args rfl) (kn ▸ CountR_any [⟨2, xW⟩, ⟨1, yW⟩] 2 _ _ _ ww hB.held.2.2 (okR [⟨2, xW⟩, ⟨1, yW⟩] (by decide +kernel)) (by decide) hB.held.2.1) (fun e_ w_ h_ => ⟨_, h_.1, h_.2, rfl⟩)⟩
                  refine StepsAll.cons ?_ ?_
                  · intro aa ww hB hd
                    have h118 : aa.eval (.tmp 118) = Value.int .i64 3 := hd 23 (by kernel_rfl)
                    have h116 : aa.eval (.tmp 116) = Value.bool false := hd 21 (by kernel_rfl)
                    have he : Env 189 [(116, Value.bool false), (118, Value.int .i64 3), (11, Value.slice (some ⟨p11, 0, none⟩) 2 2), (10, Value.int .i64 12), (8, Value.pointer (some ⟨p39, 0, none⟩)), (7, Value.pointer (some ⟨p37, 0, none⟩)), (6, Value.pointer (some ⟨p35, 0, none⟩)), (4, Value.pointer (some ⟨p12, 0, none⟩)), (3, Value.pointer (some ⟨p10, 0, none⟩)), (2, Value.pointer (some ⟨p8, 0, none⟩)), (1, Value.pointer (some ⟨p6, 0, none⟩)), (0, Value.bool false)] aa := ((hB.env.add h118).add h116)
                    exact .inr ⟨(he.want rfl rfl rfl rfl rfl), Does.val (v := Value.bool false) (rn_neI rfl (he.op rfl) (he.op rfl) (by decide) ww) ⟨Fr.refl _ _, rfl⟩⟩
                  refine StepsAll.cons ?_ ?_
                  · intro aa ww hB hd
                    have h116 : aa.eval (.tmp 116) = Value.bool false := hd 21 (by kernel_rfl)
                    have h119 : aa.eval (.tmp 119) = Value.bool false := hd 24 (by kernel_rfl)
                    have he : Env 189 [(119, Value.bool false), (116, Value.bool false), (11, Value.slice (some ⟨p11, 0, none⟩) 2 2), (10, Value.int .i64 12), (8, Value.pointer (some ⟨p39, 0, none⟩)), (7, Value.pointer (some ⟨p37, 0, none⟩)), (6, Value.pointer (some ⟨p35, 0, none⟩)), (4, Value.pointer (some ⟨p12, 0, none⟩)), (3, Value.pointer (some ⟨p10, 0, none⟩)), (2, Value.pointer (some ⟨p8, 0, none⟩)), (1, Value.pointer (some ⟨p6, 0, none⟩)), (0, Value.bool false)] aa := ((hB.env.add h116).add h119)
                    exact .inr ⟨(wanted_plain rfl _), Does.val (v := Value.bool false) (rn_pk0 rfl (he.op rfl) (he.op rfl) ww) ⟨Fr.refl _ _, rfl⟩⟩
                  refine StepsAll.cons ?_ ?_
                  · intro aa ww hB hd
                    have h120 : aa.eval (.tmp 120) = Value.bool false := hd 25 (by kernel_rfl)
                    have he : Env 189 [(120, Value.bool false), (11, Value.slice (some ⟨p11, 0, none⟩) 2 2), (10, Value.int .i64 12), (8, Value.pointer (some ⟨p39, 0, none⟩)), (7, Value.pointer (some ⟨p37, 0, none⟩)), (6, Value.pointer (some ⟨p35, 0, none⟩)), (4, Value.pointer (some ⟨p12, 0, none⟩)), (3, Value.pointer (some ⟨p10, 0, none⟩)), (2, Value.pointer (some ⟨p8, 0, none⟩)), (1, Value.pointer (some ⟨p6, 0, none⟩)), (0, Value.bool false)] aa := (hB.env.add h120)
                    exact .inr ⟨(wanted_plain rfl _), Does.val (v := Value.bool false) (rn_mv rfl (he.op rfl) ww) ⟨Fr.refl _ _, rfl⟩⟩
                  refine StepsAll.cons ?_ ?_
                  · intro aa ww hB hd
                    have h121 : aa.eval (.tmp 121) = Value.bool false := hd 26 (by kernel_rfl)
                    have he : Env 189 [(121, Value.bool false), (11, Value.slice (some ⟨p11, 0, none⟩) 2 2), (10, Value.int .i64 12), (8, Value.pointer (some ⟨p39, 0, none⟩)), (7, Value.pointer (some ⟨p37, 0, none⟩)), (6, Value.pointer (some ⟨p35, 0, none⟩)), (4, Value.pointer (some ⟨p12, 0, none⟩)), (3, Value.pointer (some ⟨p10, 0, none⟩)), (2, Value.pointer (some ⟨p8, 0, none⟩)), (1, Value.pointer (some ⟨p6, 0, none⟩)), (0, Value.bool false)] aa := (hB.env.add h121)
                    exact .inr ⟨(he.want rfl rfl rfl rfl rfl), Does.val (v := Value.slice (some ⟨p11, 0, none⟩) 2 2) (rn_mv rfl (he.op rfl) ww) ⟨Fr.refl _ _, rfl⟩⟩
                  refine StepsAll.cons ?_ ?_
                  · intro aa ww hB hd
                    have h121 : aa.eval (.tmp 121) = Value.bool false := hd 26 (by kernel_rfl)
                    have he : Env 189 [(121, Value.bool false), (11, Value.slice (some ⟨p11, 0, none⟩) 2 2), (10, Value.int .i64 12), (8, Value.pointer (some ⟨p39, 0, none⟩)), (7, Value.pointer (some ⟨p37, 0, none⟩)), (6, Value.pointer (some ⟨p35, 0, none⟩)), (4, Value.pointer (some ⟨p12, 0, none⟩)), (3, Value.pointer (some ⟨p10, 0, none⟩)), (2, Value.pointer (some ⟨p8, 0, none⟩)), (1, Value.pointer (some ⟨p6, 0, none⟩)), (0, Value.bool false)] aa := (hB.env.add h121)
                    exact .inr ⟨(he.want rfl rfl rfl rfl rfl), Does.val (v := Ce.v aC) (rn_load rfl (he.op rfl) (hB.held.1.at (i := 8) rfl)) ⟨Fr.refl _ _, rfl⟩⟩
                  refine StepsAll.cons ?_ ?_
                  · intro aa ww hB hd
                    have h121 : aa.eval (.tmp 121) = Value.bool false := hd 26 (by kernel_rfl)
                    have he : Env 189 [(121, Value.bool false), (11, Value.slice (some ⟨p11, 0, none⟩) 2 2), (10, Value.int .i64 12), (8, Value.pointer (some ⟨p39, 0, none⟩)), (7, Value.pointer (some ⟨p37, 0, none⟩)), (6, Value.pointer (some ⟨p35, 0, none⟩)), (4, Value.pointer (some ⟨p12, 0, none⟩)), (3, Value.pointer (some ⟨p10, 0, none⟩)), (2, Value.pointer (some ⟨p8, 0, none⟩)), (1, Value.pointer (some ⟨p6, 0, none⟩)), (0, Value.bool false)] aa := (hB.env.add h121)
                    exact .inr ⟨(he.want rfl rfl rfl rfl rfl), Does.val (v := Ce.v aC) (rn_load rfl (he.op rfl) (hB.held.1.at (i := 8) rfl)) ⟨Fr.refl _ _, rfl⟩⟩
                  refine StepsAll.cons ?_ ?_
                  · intro aa ww hB hd
                    have h121 : aa.eval (.tmp 121) = Value.bool false := hd 26 (by kernel_rfl)
                    have he : Env 189 [(121, Value.bool false), (11, Value.slice (some ⟨p11, 0, none⟩) 2 2), (10, Value.int .i64 12), (8, Value.pointer (some ⟨p39, 0, none⟩)), (7, Value.pointer (some ⟨p37, 0, none⟩)), (6, Value.pointer (some ⟨p35, 0, none⟩)), (4, Value.pointer (some ⟨p12, 0, none⟩)), (3, Value.pointer (some ⟨p10, 0, none⟩)), (2, Value.pointer (some ⟨p8, 0, none⟩)), (1, Value.pointer (some ⟨p6, 0, none⟩)), (0, Value.bool false)] aa := (hB.env.add h121)
                    exact .inr ⟨(he.want rfl rfl rfl rfl rfl), Does.val (v := Ce.v eC) (rn_load rfl (he.op rfl) (hB.held.1.at (i := 7) rfl)) ⟨Fr.refl _ _, rfl⟩⟩
                  refine StepsAll.cons ?_ ?_
                  · intro aa ww hB hd
                    have h123 : aa.eval (.tmp 123) = Ce.v aC := hd 28 (by kernel_rfl)
                    have h124 : aa.eval (.tmp 124) = Ce.v aC := hd 29 (by kernel_rfl)
                    have h125 : aa.eval (.tmp 125) = Ce.v eC := hd 30 (by kernel_rfl)
                    have h121 : aa.eval (.tmp 121) = Value.bool false := hd 26 (by kernel_rfl)
                    have he : Env 189 [(121, Value.bool false), (125, Ce.v eC), (124, Ce.v aC), (123, Ce.v aC), (11, Value.slice (some ⟨p11, 0, none⟩) 2 2), (10, Value.int .i64 12), (8, Value.pointer (some ⟨p39, 0, none⟩)), (7, Value.pointer (some ⟨p37, 0, none⟩)), (6, Value.pointer (some ⟨p35, 0, none⟩)), (4, Value.pointer (some ⟨p12, 0, none⟩)), (3, Value.pointer (some ⟨p10, 0, none⟩)), (2, Value.pointer (some ⟨p8, 0, none⟩)), (1, Value.pointer (some ⟨p6, 0, none⟩)), (0, Value.bool false)] aa := ((((hB.env.add h123).add h124).add h125).add h121)
                    exact .inr ⟨(he.want rfl rfl rfl rfl rfl), Does.val (rn_bs3 rfl (he.op rfl) (he.op rfl) (he.op rfl) ww) ⟨(Fr.refl _ _).alloc _, _, rfl, rdc_lit ww [aC, aC, eC] _ rfl 3 rfl⟩⟩
                  refine StepsAll.cons ?_ ?_
                  · intro aa ww hB hd
                    have h122 : aa.eval (.tmp 122) = Value.slice (some ⟨p11, 0, none⟩) 2 2 := hd 27 (by kernel_rfl)
                    have hx126 : ∃ p, aa.eval (.tmp 126) = .slice (some ⟨p, 0, none⟩) 3 3 ∧ RdC ww p (some ⟨p, 0, none⟩) 3 [aC, aC, eC] := hd 31 (by kernel_rfl)
                    obtain ⟨p126, h126, hr126⟩ := hx126
                    have h121 : aa.eval (.tmp 121) = Value.bool false := hd 26 (by kernel_rfl)
                    have he : Env 189 [(121, Value.bool false), (126, Value.slice (some ⟨p126, 0, none⟩) 3 3), (122, Value.slice (some ⟨p11, 0, none⟩) 2 2), (11, Value.slice (some ⟨p11, 0, none⟩) 2 2), (10, Value.int .i64 12), (8, Value.pointer (some ⟨p39, 0, none⟩)), (7, Value.pointer (some ⟨p37, 0, none⟩)), (6, Value.pointer (some ⟨p35, 0, none⟩)), (4, Value.pointer (some ⟨p12, 0, none⟩)), (3, Value.pointer (some ⟨p10, 0, none⟩)), (2, Value.pointer (some ⟨p8, 0, none⟩)), (1, Value.pointer (some ⟨p6, 0, none⟩)), (0, Value.bool false)] aa := (((hB.env.add h122).add h126).add h121)
                    exact .inr ⟨(he.want rfl rfl rfl rfl rfl), does_call Tryd.func22 (by kernel_rfl) rfl rfl (he.args rfl) (unpacks_b [⟨2, xW⟩, ⟨1, yW⟩] 2 _ _ _ 0 [aC, aC, eC] 3 _ _ _ true ku0 ww hB.held.2.2 (okR [⟨2, xW⟩, ⟨1, yW⟩] (by decide +kernel)) (by decide) hr126 (by decide) hB.held.2.1) (fun e_ w_ h_ => ⟨_, h_.1, h_.2, rfl⟩)⟩
                  refine StepsAll.cons ?_ ?_
                  · intro aa ww hB hd
                    have h127 : aa.eval (.tmp 127) = Value.bool true := hd 32 (by kernel_rfl)
                    have h121 : aa.eval (.tmp 121) = Value.bool false := hd 26 (by kernel_rfl)
                    have he : Env 189 [(121, Value.bool false), (127, Value.bool true), (11, Value.slice (some ⟨p11, 0, none⟩) 2 2), (10, Value.int .i64 12), (8, Value.pointer (some ⟨p39, 0, none⟩)), (7, Value.pointer (some ⟨p37, 0, none⟩)), (6, Value.pointer (some ⟨p35, 0, none⟩)), (4, Value.pointer (some ⟨p12, 0, none⟩)), (3, Value.pointer (some ⟨p10, 0, none⟩)), (2, Value.pointer (some ⟨p8, 0, none⟩)), (1, Value.pointer (some ⟨p6, 0, none⟩)), (0, Value.bool false)] aa := ((hB.env.add h127).add h121)
                    exact .inr ⟨(he.want rfl rfl rfl rfl rfl), Does.val (v := Value.bool false) (rn_not (b := true) rfl (he.op rfl) ww) ⟨Fr.refl _ _, rfl⟩⟩
                  refine StepsAll.cons ?_ ?_
                  · intro aa ww hB hd
                    have h121 : aa.eval (.tmp 121) = Value.bool false := hd 26 (by kernel_rfl)
                    have h128 : aa.eval (.tmp 128) = Value.bool false := hd 33 (by kernel_rfl)
                    have he : Env 189 [(128, Value.bool false), (121, Value.bool false), (11, Value.slice (some ⟨p11, 0, none⟩) 2 2), (10, Value.int .i64 12), (8, Value.pointer (some ⟨p39, 0, none⟩)), (7, Value.pointer (some ⟨p37, 0, none⟩)), (6, Value.pointer (some ⟨p35, 0, none⟩)), (4, Value.pointer (some ⟨p12, 0, none⟩)), (3, Value.pointer (some ⟨p10, 0, none⟩)), (2, Value.pointer (some ⟨p8, 0, none⟩)), (1, Value.pointer (some ⟨p6, 0, none⟩)), (0, Value.bool false)] aa := ((hB.env.add h121).add h128)
                    exact .inr ⟨(wanted_plain rfl _), Does.val (v := Value.bool false) (rn_pk0 rfl (he.op rfl) (he.op rfl) ww) ⟨Fr.refl _ _, rfl⟩⟩
                  refine StepsAll.cons ?_ ?_
                  · intro aa ww hB hd
                    have h129 : aa.eval (.tmp 129) = Value.bool false := hd 34 (by kernel_rfl)
                    have he : Env 189 [(129, Value.bool false), (11, Value.slice (some ⟨p11, 0, none⟩) 2 2), (10, Value.int .i64 12), (8, Value.pointer (some ⟨p39, 0, none⟩)), (7, Value.pointer (some ⟨p37, 0, none⟩)), (6, Value.pointer (some ⟨p35, 0, none⟩)), (4, Value.pointer (some ⟨p12, 0, none⟩)), (3, Value.pointer (some ⟨p10, 0, none⟩)), (2, Value.pointer (some ⟨p8, 0, none⟩)), (1, Value.pointer (some ⟨p6, 0, none⟩)), (0, Value.bool false)] aa := (hB.env.add h129)
                    exact .inr ⟨(wanted_plain rfl _), Does.val (v := Value.bool false) (rn_mv rfl (he.op rfl) ww) ⟨Fr.refl _ _, rfl⟩⟩
                  refine StepsAll.cons ?_ ?_
                  · intro aa ww hB hd
                    have h130 : aa.eval (.tmp 130) = Value.bool false := hd 35 (by kernel_rfl)
                    have he : Env 189 [(130, Value.bool false), (11, Value.slice (some ⟨p11, 0, none⟩) 2 2), (10, Value.int .i64 12), (8, Value.pointer (some ⟨p39, 0, none⟩)), (7, Value.pointer (some ⟨p37, 0, none⟩)), (6, Value.pointer (some ⟨p35, 0, none⟩)), (4, Value.pointer (some ⟨p12, 0, none⟩)), (3, Value.pointer (some ⟨p10, 0, none⟩)), (2, Value.pointer (some ⟨p8, 0, none⟩)), (1, Value.pointer (some ⟨p6, 0, none⟩)), (0, Value.bool false)] aa := (hB.env.add h130)
                    exact .inr ⟨(he.want rfl rfl rfl rfl rfl), Does.val (v := Wd.v xW) (rn_loadW rfl (he.op rfl) (hB.held.1.at (i := 3) rfl)) ⟨Fr.refl _ _, rfl⟩⟩
                  refine StepsAll.cons ?_ ?_
                  · intro aa ww hB hd
                    have h131 : aa.eval (.tmp 131) = Wd.v xW := hd 36 (by kernel_rfl)
                    have h130 : aa.eval (.tmp 130) = Value.bool false := hd 35 (by kernel_rfl)
                    have he : Env 189 [(130, Value.bool false), (131, Wd.v xW), (11, Value.slice (some ⟨p11, 0, none⟩) 2 2), (10, Value.int .i64 12), (8, Value.pointer (some ⟨p39, 0, none⟩)), (7, Value.pointer (some ⟨p37, 0, none⟩)), (6, Value.pointer (some ⟨p35, 0, none⟩)), (4, Value.pointer (some ⟨p12, 0, none⟩)), (3, Value.pointer (some ⟨p10, 0, none⟩)), (2, Value.pointer (some ⟨p8, 0, none⟩)), (1, Value.pointer (some ⟨p6, 0, none⟩)), (0, Value.bool false)] aa := ((hB.env.add h131).add h130)
                    exact .inr ⟨(he.want rfl rfl rfl rfl rfl), does_call Tryd.func31 (by kernel_rfl) rfl rfl (he.args rfl) (run_any 1 xW ww) (fun e_ w_ h_ => ⟨_, h_.1, h_.2, rfl⟩)⟩
                  refine StepsAll.cons ?_ ?_
                  · intro aa ww hB hd
                    have h130 : aa.eval (.tmp 130) = Value.bool false := hd 35 (by kernel_rfl)
                    have he : Env 189 [(130, Value.bool false), (11, Value.slice (some ⟨p11, 0, none⟩) 2 2), (10, Value.int .i64 12), (8, Value.pointer (some ⟨p39, 0, none⟩)), (7, Value.pointer (some ⟨p37, 0, none⟩)), (6, Value.pointer (some ⟨p35, 0, none⟩)), (4, Value.pointer (some ⟨p12, 0, none⟩)), (3, Value.pointer (some ⟨p10, 0, none⟩)), (2, Value.pointer (some ⟨p8, 0, none⟩)), (1, Value.pointer (some ⟨p6, 0, none⟩)), (0, Value.bool false)] aa := (hB.env.add h130)
                    exact .inr ⟨(he.want rfl rfl rfl rfl rfl), Does.val (v := Wd.v xW) (rn_loadW rfl (he.op rfl) (hB.held.1.at (i := 3) rfl)) ⟨Fr.refl _ _, rfl⟩⟩
                  refine StepsAll.cons ?_ ?_
                  · intro aa ww hB hd
                    have h133 : aa.eval (.tmp 133) = Wd.v xW := hd 38 (by kernel_rfl)
                    have h130 : aa.eval (.tmp 130) = Value.bool false := hd 35 (by kernel_rfl)
                    have he : Env 189 [(130, Value.bool false), (133, Wd.v xW), (11, Value.slice (some ⟨p11, 0, none⟩) 2 2), (10, Value.int .i64 12), (8, Value.pointer (some ⟨p39, 0, none⟩)), (7, Value.pointer (some ⟨p37, 0, none⟩)), (6, Value.pointer (some ⟨p35, 0, none⟩)), (4, Value.pointer (some ⟨p12, 0, none⟩)), (3, Value.pointer (some ⟨p10, 0, none⟩)), (2, Value.pointer (some ⟨p8, 0, none⟩)), (1, Value.pointer (some ⟨p6, 0, none⟩)), (0, Value.bool false)] aa := ((hB.env.add h133).add h130)
                    exact .inr ⟨(he.want rfl rfl rfl rfl rfl), does_call Tryd.func31 (by kernel_rfl) rfl rfl (he.args rfl) (run_any 1 xW ww) (fun e_ w_ h_ => ⟨_, h_.1, h_.2, rfl⟩)⟩
                  refine StepsAll.cons ?_ ?_
                  · intro aa ww hB hd
                    have h132 : aa.eval (.tmp 132) = Rn.v (⟨1, xW⟩ : Rn) := hd 37 (by kernel_rfl)
                    have h134 : aa.eval (.tmp 134) = Rn.v (⟨1, xW⟩ : Rn) := hd 39 (by kernel_rfl)
                    have h130 : aa.eval (.tmp 130) = Value.bool false := hd 35 (by kernel_rfl)
                    have he : Env 189 [(130, Value.bool false), (134, Rn.v (⟨1, xW⟩ : Rn)), (132, Rn.v (⟨1, xW⟩ : Rn)), (11, Value.slice (some ⟨p11, 0, none⟩) 2 2), (10, Value.int .i64 12), (8, Value.pointer (some ⟨p39, 0, none⟩)), (7, Value.pointer (some ⟨p37, 0, none⟩)), (6, Value.pointer (some ⟨p35, 0, none⟩)), (4, Value.pointer (some ⟨p12, 0, none⟩)), (3, Value.pointer (some ⟨p10, 0, none⟩)), (2, Value.pointer (some ⟨p8, 0, none⟩)), (1, Value.pointer (some ⟨p6, 0, none⟩)), (0, Value.bool false)] aa := (((hB.env.add h132).add h134).add h130)
                    exact .inr ⟨(he.want rfl rfl rfl rfl rfl), Does.val (rn_bsr2 rfl (he.op rfl) (he.op rfl) ww) ⟨(Fr.refl _ _).alloc _, _, rfl, rdg_lit (R := rR) ww [(⟨1, xW⟩ : Rn), (⟨1, xW⟩ : Rn)] _ rfl 2 rfl⟩⟩
                  refine StepsAll.cons ?_ ?_
                  · intro aa ww hB hd
                    have hx135 : ∃ p, aa.eval (.tmp 135) = .slice (some ⟨p, 0, none⟩) 2 2 ∧ RdR ww p (some ⟨p, 0, none⟩) 2 [(⟨1, xW⟩ : Rn), (⟨1, xW⟩ : Rn)] := hd 40 (by kernel_rfl)
                    obtain ⟨p135, h135, hr135⟩ := hx135
                    have h130 : aa.eval (.tmp 130) = Value.bool false := hd 35 (by kernel_rfl)
                    have he : Env 189 [(130, Value.bool false), (135, Value.slice (some ⟨p135, 0, none⟩) 2 2), (11, Value.slice (some ⟨p11, 0, none⟩) 2 2), (10, Value.int .i64 12), (8, Value.pointer (some ⟨p39, 0, none⟩)), (7, Value.pointer (some ⟨p37, 0, none⟩)), (6, Value.pointer (some ⟨p35, 0, none⟩)), (4, Value.pointer (some ⟨p12, 0, none⟩)), (3, Value.pointer (some ⟨p10, 0, none⟩)), (2, Value.pointer (some ⟨p8, 0, none⟩)), (1, Value.pointer (some ⟨p6, 0, none⟩)), (0, Value.bool false)] aa := ((hB.env.add h135).add h130)
                    exact .inr ⟨(he.want rfl rfl rfl rfl rfl), does_call Tryd.func30 (by kernel_rfl) rfl rfl (he.args rfl) (runs_any _ ww) (fun e_ w_ h_ => ⟨_, h_.1, h_.2, _, rfl, (hr135.new h_.2)⟩)⟩
                  refine StepsAll.cons ?_ ?_
                  · intro aa ww hB hd
                    have h130 : aa.eval (.tmp 130) = Value.bool false := hd 35 (by kernel_rfl)
                    have he : Env 189 [(130, Value.bool false), (11, Value.slice (some ⟨p11, 0, none⟩) 2 2), (10, Value.int .i64 12), (8, Value.pointer (some ⟨p39, 0, none⟩)), (7, Value.pointer (some ⟨p37, 0, none⟩)), (6, Value.pointer (some ⟨p35, 0, none⟩)), (4, Value.pointer (some ⟨p12, 0, none⟩)), (3, Value.pointer (some ⟨p10, 0, none⟩)), (2, Value.pointer (some ⟨p8, 0, none⟩)), (1, Value.pointer (some ⟨p6, 0, none⟩)), (0, Value.bool false)] aa := (hB.env.add h130)
                    exact .inr ⟨(he.want rfl rfl rfl rfl rfl), Does.val (v := Value.int .i64 12) (rn_mv rfl (he.op rfl) ww) ⟨Fr.refl _ _, rfl⟩⟩
                  refine StepsAll.cons ?_ ?_
                  · intro aa ww hB hd
                    have hx136 : ∃ p, aa.eval (.tmp 136) = .slice (some ⟨p, 0, none⟩) 2 2 ∧ RdR ww p (some ⟨p, 0, none⟩) 2 [⟨1, xW⟩, ⟨1, xW⟩] := hd 41 (by kernel_rfl)
                    obtain ⟨p136, h136, hr136⟩ := hx136
                    have h137 : aa.eval (.tmp 137) = Value.int .i64 12 := hd 42 (by kernel_rfl)
                    have h130 : aa.eval (.tmp 130) = Value.bool false := hd 35 (by kernel_rfl)
                    have he : Env 189 [(130, Value.bool false), (137, Value.int .i64 12), (136, Value.slice (some ⟨p136, 0, none⟩) 2 2), (11, Value.slice (some ⟨p11, 0, none⟩) 2 2), (10, Value.int .i64 12), (8, Value.pointer (some ⟨p39, 0, none⟩)), (7, Value.pointer (some ⟨p37, 0, none⟩)), (6, Value.pointer (some ⟨p35, 0, none⟩)), (4, Value.pointer (some ⟨p12, 0, none⟩)), (3, Value.pointer (some ⟨p10, 0, none⟩)), (2, Value.pointer (some ⟨p8, 0, none⟩)), (1, Value.pointer (some ⟨p6, 0, none⟩)), (0, Value.bool false)] aa := (((hB.env.add h136).add h137).add h130)
                    exact .inr ⟨(he.want rfl rfl rfl rfl rfl), does_call Tryd.func22 (by kernel_rfl) rfl rfl (he.args rfl) (unpacks_b [⟨1, xW⟩, ⟨1, xW⟩] 2 _ _ _ 12 [] 0 0 _ none true ku1 ww hr136 (okR [⟨1, xW⟩, ⟨1, xW⟩] (by decide +kernel)) (by decide) (RdC.nil _ _ _) (by decide) hB.held.2.1) (fun e_ w_ h_ => ⟨_, h_.1, h_.2, rfl⟩)⟩
                  refine StepsAll.cons ?_ ?_
                  · intro aa ww hB hd
                    have h138 : aa.eval (.tmp 138) = Value.bool true := hd 43 (by kernel_rfl)
                    have h130 : aa.eval (.tmp 130) = Value.bool false := hd 35 (by kernel_rfl)
                    have he : Env 189 [(130, Value.bool false), (138, Value.bool true), (11, Value.slice (some ⟨p11, 0, none⟩) 2 2), (10, Value.int .i64 12), (8, Value.pointer (some ⟨p39, 0, none⟩)), (7, Value.pointer (some ⟨p37, 0, none⟩)), (6, Value.pointer (some ⟨p35, 0, none⟩)), (4, Value.pointer (some ⟨p12, 0, none⟩)), (3, Value.pointer (some ⟨p10, 0, none⟩)), (2, Value.pointer (some ⟨p8, 0, none⟩)), (1, Value.pointer (some ⟨p6, 0, none⟩)), (0, Value.bool false)] aa := ((hB.env.add h138).add h130)
                    exact .inr ⟨(he.want rfl rfl rfl rfl rfl), Does.val (v := Value.bool false) (rn_not (b := true) rfl (he.op rfl) ww) ⟨Fr.refl _ _, rfl⟩⟩
                  refine StepsAll.cons ?_ ?_
                  · intro aa ww hB hd
                    have h130 : aa.eval (.tmp 130) = Value.bool false := hd 35 (by kernel_rfl)
                    have h139 : aa.eval (.tmp 139) = Value.bool false := hd 44 (by kernel_rfl)
                    have he : Env 189 [(139, Value.bool false), (130, Value.bool false), (11, Value.slice (some ⟨p11, 0, none⟩) 2 2), (10, Value.int .i64 12), (8, Value.pointer (some ⟨p39, 0, none⟩)), (7, Value.pointer (some ⟨p37, 0, none⟩)), (6, Value.pointer (some ⟨p35, 0, none⟩)), (4, Value.pointer (some ⟨p12, 0, none⟩)), (3, Value.pointer (some ⟨p10, 0, none⟩)), (2, Value.pointer (some ⟨p8, 0, none⟩)), (1, Value.pointer (some ⟨p6, 0, none⟩)), (0, Value.bool false)] aa := ((hB.env.add h130).add h139)
                    exact .inr ⟨(wanted_plain rfl _), Does.val (v := Value.bool false) (rn_pk0 rfl (he.op rfl) (he.op rfl) ww) ⟨Fr.refl _ _, rfl⟩⟩
                  refine StepsAll.cons ?_ ?_
                  · intro aa ww hB hd
                    have h140 : aa.eval (.tmp 140) = Value.bool false := hd 45 (by kernel_rfl)
                    have he : Env 189 [(140, Value.bool false), (11, Value.slice (some ⟨p11, 0, none⟩) 2 2), (10, Value.int .i64 12), (8, Value.pointer (some ⟨p39, 0, none⟩)), (7, Value.pointer (some ⟨p37, 0, none⟩)), (6, Value.pointer (some ⟨p35, 0, none⟩)), (4, Value.pointer (some ⟨p12, 0, none⟩)), (3, Value.pointer (some ⟨p10, 0, none⟩)), (2, Value.pointer (some ⟨p8, 0, none⟩)), (1, Value.pointer (some ⟨p6, 0, none⟩)), (0, Value.bool false)] aa := (hB.env.add h140)
                    exact .inr ⟨(wanted_plain rfl _), Does.val (v := Value.bool false) (rn_mv rfl (he.op rfl) ww) ⟨Fr.refl _ _, rfl⟩⟩
                  refine StepsAll.cons ?_ ?_
                  · intro aa ww hB hd
                    have h141 : aa.eval (.tmp 141) = Value.bool false := hd 46 (by kernel_rfl)
                    have he : Env 189 [(141, Value.bool false), (11, Value.slice (some ⟨p11, 0, none⟩) 2 2), (10, Value.int .i64 12), (8, Value.pointer (some ⟨p39, 0, none⟩)), (7, Value.pointer (some ⟨p37, 0, none⟩)), (6, Value.pointer (some ⟨p35, 0, none⟩)), (4, Value.pointer (some ⟨p12, 0, none⟩)), (3, Value.pointer (some ⟨p10, 0, none⟩)), (2, Value.pointer (some ⟨p8, 0, none⟩)), (1, Value.pointer (some ⟨p6, 0, none⟩)), (0, Value.bool false)] aa := (hB.env.add h141)
                    exact .inr ⟨(he.want rfl rfl rfl rfl rfl), Does.val (v := Wd.v xW) (rn_loadW rfl (he.op rfl) (hB.held.1.at (i := 3) rfl)) ⟨Fr.refl _ _, rfl⟩⟩
                  refine StepsAll.cons ?_ ?_
                  · intro aa ww hB hd
                    have h142 : aa.eval (.tmp 142) = Wd.v xW := hd 47 (by kernel_rfl)
                    have h141 : aa.eval (.tmp 141) = Value.bool false := hd 46 (by kernel_rfl)
                    have he : Env 189 [(141, Value.bool false), (142, Wd.v xW), (11, Value.slice (some ⟨p11, 0, none⟩) 2 2), (10, Value.int .i64 12), (8, Value.pointer (some ⟨p39, 0, none⟩)), (7, Value.pointer (some ⟨p37, 0, none⟩)), (6, Value.pointer (some ⟨p35, 0, none⟩)), (4, Value.pointer (some ⟨p12, 0, none⟩)), (3, Value.pointer (some ⟨p10, 0, none⟩)), (2, Value.pointer (some ⟨p8, 0, none⟩)), (1, Value.pointer (some ⟨p6, 0, none⟩)), (0, Value.bool false)] aa := ((hB.env.add h142).add h141)
                    exact .inr ⟨(he.want rfl rfl rfl rfl rfl), does_call Tryd.func31 (by kernel_rfl) rfl rfl (he.args rfl) (run_any 0 xW ww) (fun e_ w_ h_ => ⟨_, h_.1, h_.2, rfl⟩)⟩
                  refine StepsAll.cons ?_ ?_
                  · intro aa ww hB hd
                    have h143 : aa.eval (.tmp 143) = Rn.v (⟨0, xW⟩ : Rn) := hd 48 (by kernel_rfl)
                    have h141 : aa.eval (.tmp 141) = Value.bool false := hd 46 (by kernel_rfl)
                    have he : Env 189 [(141, Value.bool false), (143, Rn.v (⟨0, xW⟩ : Rn)), (11, Value.slice (some ⟨p11, 0, none⟩) 2 2), (10, Value.int .i64 12), (8, Value.pointer (some ⟨p39, 0, none⟩)), (7, Value.pointer (some ⟨p37, 0, none⟩)), (6, Value.pointer (some ⟨p35, 0, none⟩)), (4, Value.pointer (some ⟨p12, 0, none⟩)), (3, Value.pointer (some ⟨p10, 0, none⟩)), (2, Value.pointer (some ⟨p8, 0, none⟩)), (1, Value.pointer (some ⟨p6, 0, none⟩)), (0, Value.bool false)] aa := ((hB.env.add h143).add h141)
                    exact .inr ⟨(he.want rfl rfl rfl rfl rfl), Does.val (rn_bsr1 rfl (he.op rfl) ww) ⟨(Fr.refl _ _).alloc _, _, rfl, rdg_lit (R := rR) ww [(⟨0, xW⟩ : Rn)] _ rfl 1 rfl⟩⟩
                  refine StepsAll.cons ?_ ?_
                  · intro aa ww hB hd
                    have hx144 : ∃ p, aa.eval (.tmp 144) = .slice (some ⟨p, 0, none⟩) 1 1 ∧ RdR ww p (some ⟨p, 0, none⟩) 1 [(⟨0, xW⟩ : Rn)] := hd 49 (by kernel_rfl)
                    obtain ⟨p144, h144, hr144⟩ := hx144
                    have h141 : aa.eval (.tmp 141) = Value.bool false := hd 46 (by kernel_rfl)
                    have he : Env 189 [(141, Value.bool false), (144, Value.slice (some ⟨p144, 0, none⟩) 1 1), (11, Value.slice (some ⟨p11, 0, none⟩) 2 2), (10, Value.int .i64 12), (8, Value.pointer (some ⟨p39, 0, none⟩)), (7, Value.pointer (some ⟨p37, 0, none⟩)), (6, Value.pointer (some ⟨p35, 0, none⟩)), (4, Value.pointer (some ⟨p12, 0, none⟩)), (3, Value.pointer (some ⟨p10, 0, none⟩)), (2, Value.pointer (some ⟨p8, 0, none⟩)), (1, Value.pointer (some ⟨p6, 0, none⟩)), (0, Value.bool false)] aa := ((hB.env.add h144).add h141)
                    exact .inr ⟨(he.want rfl rfl rfl rfl rfl), does_call Tryd.func30 (by kernel_rfl) rfl rfl (he.args rfl) (runs_any _ ww) (fun e_ w_ h_ => ⟨_, h_.1, h_.2, _, rfl, (hr144.new h_.2)⟩)⟩
                  refine StepsAll.cons ?_ ?_
                  · intro aa ww hB hd
                    have h141 : aa.eval (.tmp 141) = Value.bool false := hd 46 (by kernel_rfl)
                    have he : Env 189 [(141, Value.bool false), (11, Value.slice (some ⟨p11, 0, none⟩) 2 2), (10, Value.int .i64 12), (8, Value.pointer (some ⟨p39, 0, none⟩)), (7, Value.pointer (some ⟨p37, 0, none⟩)), (6, Value.pointer (some ⟨p35, 0, none⟩)), (4, Value.pointer (some ⟨p12, 0, none⟩)), (3, Value.pointer (some ⟨p10, 0, none⟩)), (2, Value.pointer (some ⟨p8, 0, none⟩)), (1, Value.pointer (some ⟨p6, 0, none⟩)), (0, Value.bool false)] aa := (hB.env.add h141)
                    exact .inr ⟨(he.want rfl rfl rfl rfl rfl), Does.val (v := Value.int .i64 12) (rn_mv rfl (he.op rfl) ww) ⟨Fr.refl _ _, rfl⟩⟩
                  refine StepsAll.cons ?_ ?_
                  · intro aa ww hB hd
                    have hx145 : ∃ p, aa.eval (.tmp 145) = .slice (some ⟨p, 0, none⟩) 1 1 ∧ RdR ww p (some ⟨p, 0, none⟩) 1 [⟨0, xW⟩] := hd 50 (by kernel_rfl)
                    obtain ⟨p145, h145, hr145⟩ := hx145
                    have h146 : aa.eval (.tmp 146) = Value.int .i64 12 := hd 51 (by kernel_rfl)
                    have h141 : aa.eval (.tmp 141) = Value.bool false := hd 46 (by kernel_rfl)
                    have he : Env 189 [(141, Value.bool false), (146, Value.int .i64 12), (145, Value.slice (some ⟨p145, 0, none⟩) 1 1), (11, Value.slice (some ⟨p11, 0, none⟩) 2 2), (10, Value.int .i64 12), (8, Value.pointer (some ⟨p39, 0, none⟩)), (7, Value.pointer (some ⟨p37, 0, none⟩)), (6, Value.pointer (some ⟨p35, 0, none⟩)), (4, Value.pointer (some ⟨p12, 0, none⟩)), (3, Value.pointer (some ⟨p10, 0, none⟩)), (2, Value.pointer (some ⟨p8, 0, none⟩)), (1, Value.pointer (some ⟨p6, 0, none⟩)), (0, Value.bool false)] aa := (((hB.env.add h145).add h146).add h141)
                    exact .inr ⟨(he.want rfl rfl rfl rfl rfl), does_call Tryd.func22 (by kernel_rfl) rfl rfl (he.args rfl) (unpacks_b [⟨0, xW⟩] 1 _ _ _ 12 [] 0 0 _ none true ku2 ww hr145 (okR [⟨0, xW⟩] (by decide +kernel)) (by decide) (RdC.nil _ _ _) (by decide) hB.held.2.1) (fun e_ w_ h_ => ⟨_, h_.1, h_.2, rfl⟩)⟩
                  refine StepsAll.cons ?_ ?_
                  · intro aa ww hB hd
                    have h147 : aa.eval (.tmp 147) = Value.bool true := hd 52 (by kernel_rfl)
                    have h141 : aa.eval (.tmp 141) = Value.bool false := hd 46 (by kernel_rfl)
                    have he : Env 189 [(141, Value.bool false), (147, Value.bool true), (11, Value.slice (some ⟨p11, 0, none⟩) 2 2), (10, Value.int .i64 12), (8, Value.pointer (some ⟨p39, 0, none⟩)), (7, Value.pointer (some ⟨p37, 0, none⟩)), (6, Value.pointer (some ⟨p35, 0, none⟩)), (4, Value.pointer (some ⟨p12, 0, none⟩)), (3, Value.pointer (some ⟨p10, 0, none⟩)), (2, Value.pointer (some ⟨p8, 0, none⟩)), (1, Value.pointer (some ⟨p6, 0, none⟩)), (0, Value.bool false)] aa := ((hB.env.add h147).add h141)
                    exact .inr ⟨(he.want rfl rfl rfl rfl rfl), Does.val (v := Value.bool false) (rn_not (b := true) rfl (he.op rfl) ww) ⟨Fr.refl _ _, rfl⟩⟩
                  refine StepsAll.cons ?_ ?_
                  · intro aa ww hB hd
                    have h141 : aa.eval (.tmp 141) = Value.bool false := hd 46 (by kernel_rfl)
                    have h148 : aa.eval (.tmp 148) = Value.bool false := hd 53 (by kernel_rfl)
                    have he : Env 189 [(148, Value.bool false), (141, Value.bool false), (11, Value.slice (some ⟨p11, 0, none⟩) 2 2), (10, Value.int .i64 12), (8, Value.pointer (some ⟨p39, 0, none⟩)), (7, Value.pointer (some ⟨p37, 0, none⟩)), (6, Value.pointer (some ⟨p35, 0, none⟩)), (4, Value.pointer (some ⟨p12, 0, none⟩)), (3, Value.pointer (some ⟨p10, 0, none⟩)), (2, Value.pointer (some ⟨p8, 0, none⟩)), (1, Value.pointer (some ⟨p6, 0, none⟩)), (0, Value.bool false)] aa := ((hB.env.add h141).add h148)
                    exact .inr ⟨(wanted_plain rfl _), Does.val (v := Value.bool false) (rn_pk0 rfl (he.op rfl) (he.op rfl) ww) ⟨Fr.refl _ _, rfl⟩⟩
                  exact StepsAll.nil
                · intro aa ww hB hall
                  have h149 : aa.eval (.tmp 149) = Value.bool false := hall 54 (Nat.le_of_ble_eq_true (n := 55) (by kernel_rfl))
                  have he137 : Env 189 [(149, Value.bool false), (11, Value.slice (some ⟨p11, 0, none⟩) 2 2), (10, Value.int .i64 12), (8, Value.pointer (some ⟨p39, 0, none⟩)), (7, Value.pointer (some ⟨p37, 0, none⟩)), (6, Value.pointer (some ⟨p35, 0, none⟩)), (4, Value.pointer (some ⟨p12, 0, none⟩)), (3, Value.pointer (some ⟨p10, 0, none⟩)), (2, Value.pointer (some ⟨p8, 0, none⟩)), (1, Value.pointer (some ⟨p6, 0, none⟩)), (0, Value.bool false)] aa := (hB.env.add h149)
                  have hH137 := hB.held.1
                  have hTt := hB.held.2.1
                  have hl11 := hB.held.2.2
                  clear hB hall heb136 hH135
                  refine then_ok ?_
                  refine wp_cond_false (he137.op rfl) ?_
                  refine wp_skip ?_
                  refine then_ok ?_
                  clear hTt hl11 hr11
                  have he138 : Env 189 [(8, Value.pointer (some ⟨p39, 0, none⟩)), (7, Value.pointer (some ⟨p37, 0, none⟩)), (6, Value.pointer (some ⟨p35, 0, none⟩))] aa := he137.mem ⟨rfl, rfl, rfl, trivial⟩
                  clear he137
                  as_aux_lemma =>
                    refine wp_seq ?_
                    have heb139 : Env 189 [(8, Value.pointer (some ⟨p39, 0, none⟩)), (7, Value.pointer (some ⟨p37, 0, none⟩)), (6, Value.pointer (some ⟨p35, 0, none⟩))] aa := he138.mem ⟨rfl, rfl, rfl, trivial⟩
                    clear he138
                    refine region_any (S := fun W => Hp w [⟨p83, 30, (Ce.cs zeroCe)⟩, ⟨p39, 34, (Wd.cs zW)⟩, ⟨p37, 34, (Wd.cs yW)⟩, ⟨p35, 34, (Wd.cs xW)⟩, ⟨p24, 30, (Ce.cs mC)⟩, ⟨p12, 30, (Ce.cs zeroCe)⟩, ⟨p10, 30, (Ce.cs wC)⟩, ⟨p8, 30, (Ce.cs eC)⟩, ⟨p6, 30, (Ce.cs aC)⟩] W ∧ Tab W) (I := HoldsI [.val (Wd.v xW), .val (Rn.v (⟨1, xW⟩ : Rn)), .val (Wd.v yW), .val (Rn.v (⟨1, yW⟩ : Rn)), .runs 2 [(⟨1, xW⟩ : Rn), (⟨1, yW⟩ : Rn)], .runs 2 [⟨1, xW⟩, ⟨1, yW⟩], .val (Wd.v yW), .val (Rn.v (⟨2, yW⟩ : Rn)), .val (Wd.v xW), .val (Rn.v (⟨1, xW⟩ : Rn)), .runs 2 [(⟨2, yW⟩ : Rn), (⟨1, xW⟩ : Rn)], .runs 2 [⟨2, yW⟩, ⟨1, xW⟩], .val (Wd.v xW), .val (Rn.v (⟨1, xW⟩ : Rn)), .val (Wd.v yW), .val (Rn.v (⟨3, yW⟩ : Rn)), .val (Wd.v xW), .val (Rn.v (⟨1, xW⟩ : Rn)), .runs 3 [(⟨1, xW⟩ : Rn), (⟨3, yW⟩ : Rn), (⟨1, xW⟩ : Rn)], .val (Value.bool true), .val (Value.bool true), .val (Wd.v xW), .val (Rn.v (⟨100001, xW⟩ : Rn)), .runs 1 [(⟨100001, xW⟩ : Rn)], .runs 1 [⟨100001, xW⟩], .val (Value.bool false), .val (Value.bool true), .val (Value.bool true), .val (Value.bool true), .val (Wd.v xW), .val (Rn.v (⟨100000, xW⟩ : Rn)), .runs 1 [(⟨100000, xW⟩ : Rn)], .runs 1 [⟨100000, xW⟩], .val (Wd.v yW), .val (Rn.v (⟨1, yW⟩ : Rn)), .runs 1 [(⟨1, yW⟩ : Rn)], .runs 1 [⟨1, yW⟩], .val (Value.bool true), .val (Value.bool true), .val (Value.bool true)]) (by kernel_rfl) heb139 ⟨hH137.drew, hT.new (hH137.drew).new⟩ (by kernel_rfl) HoldsI.new (fun w_ w1_ h_ hn_ => ⟨h_.1.call hn_, h_.2.new hn_⟩) ?_ ?_
                    · skip
                      refine StepsAll.cons ?_ ?_
                      · intro aa ww hB hd
                        have he : Env 189 [(8, Value.pointer (some ⟨p39, 0, none⟩)), (7, Value.pointer (some ⟨p37, 0, none⟩)), (6, Value.pointer (some ⟨p35, 0, none⟩))] aa := hB.env
                        exact .inr ⟨(wanted_plain rfl _), Does.val (v := Wd.v xW) (rn_loadW rfl (he.op rfl) (hB.held.1.at (i := 3) rfl)) ⟨Fr.refl _ _, rfl⟩⟩
                      refine StepsAll.cons ?_ ?_
                      · intro aa ww hB hd
                        have h150 : aa.eval (.tmp 150) = Wd.v xW := hd 0 (by kernel_rfl)
                        have he : Env 189 [(150, Wd.v xW), (8, Value.pointer (some ⟨p39, 0, none⟩)), (7, Value.pointer (some ⟨p37, 0, none⟩)), (6, Value.pointer (some ⟨p35, 0, none⟩))] aa := (hB.env.add h150)
                        exact .inr ⟨(wanted_plain rfl _), does_call Tryd.func31 (by kernel_rfl) rfl rfl (he.args rfl) (run_any 1 xW ww) (fun e_ w_ h_ => ⟨_, h_.1, h_.2, rfl⟩)⟩
                      refine StepsAll.cons ?_ ?_
                      · intro aa ww hB hd
                        have he : Env 189 [(8, Value.pointer (some ⟨p39, 0, none⟩)), (7, Value.pointer (some ⟨p37, 0, none⟩)), (6, Value.pointer (some ⟨p35, 0, none⟩))] aa := hB.env
                        exact .inr ⟨(wanted_plain rfl _), Does.val (v := Wd.v yW) (rn_loadW rfl (he.op rfl) (hB.held.1.at (i := 2) rfl)) ⟨Fr.refl _ _, rfl⟩⟩
                      refine StepsAll.cons ?_ ?_
                      · intro aa ww hB hd
                        have h152 : aa.eval (.tmp 152) = Wd.v yW := hd 2 (by kernel_rfl)
                        have he : Env 189 [(152, Wd.v yW), (8, Value.pointer (some ⟨p39, 0, none⟩)), (7, Value.pointer (some ⟨p37, 0, none⟩)), (6, Value.pointer (some ⟨p35, 0, none⟩))] aa := (hB.env.add h152)
                        exact .inr ⟨(wanted_plain rfl _), does_call Tryd.func31 (by kernel_rfl) rfl rfl (he.args rfl) (run_any 1 yW ww) (fun e_ w_ h_ => ⟨_, h_.1, h_.2, rfl⟩)⟩
                      refine StepsAll.cons ?_ ?_
                      · intro aa ww hB hd
                        have h151 : aa.eval (.tmp 151) = Rn.v (⟨1, xW⟩ : Rn) := hd 1 (by kernel_rfl)
                        have h153 : aa.eval (.tmp 153) = Rn.v (⟨1, yW⟩ : Rn) := hd 3 (by kernel_rfl)
                        have he : Env 189 [(153, Rn.v (⟨1, yW⟩ : Rn)), (151, Rn.v (⟨1, xW⟩ : Rn)), (8, Value.pointer (some ⟨p39, 0, none⟩)), (7, Value.pointer (some ⟨p37, 0, none⟩)), (6, Value.pointer (some ⟨p35, 0, none⟩))] aa := ((hB.env.add h151).add h153)
                        exact .inr ⟨(wanted_plain rfl _), Does.val (rn_bsr2 rfl (he.op rfl) (he.op rfl) ww) ⟨(Fr.refl _ _).alloc _, _, rfl, rdg_lit (R := rR) ww [(⟨1, xW⟩ : Rn), (⟨1, yW⟩ : Rn)] _ rfl 2 rfl⟩⟩
                      refine StepsAll.cons ?_ ?_
                      · intro aa ww hB hd
                        have hx154 : ∃ p, aa.eval (.tmp 154) = .slice (some ⟨p, 0, none⟩) 2 2 ∧ RdR ww p (some ⟨p, 0, none⟩) 2 [(⟨1, xW⟩ : Rn), (⟨1, yW⟩ : Rn)] := hd 4 (by kernel_rfl)
                        obtain ⟨p154, h154, hr154⟩ := hx154
                        have he : Env 189 [(154, Value.slice (some ⟨p154, 0, none⟩) 2 2), (8, Value.pointer (some ⟨p39, 0, none⟩)), (7, Value.pointer (some ⟨p37, 0, none⟩)), (6, Value.pointer (some ⟨p35, 0, none⟩))] aa := (hB.env.add h154)
                        exact .inr ⟨(wanted_plain rfl _), does_call Tryd.func30 (by kernel_rfl) rfl rfl (he.args rfl) (runs_any _ ww) (fun e_ w_ h_ => ⟨_, h_.1, h_.2, _, rfl, (hr154.new h_.2)⟩)⟩
                      refine StepsAll.cons ?_ ?_
                      · intro aa ww hB hd
                        have he : Env 189 [(8, Value.pointer (some ⟨p39, 0, none⟩)), (7, Value.pointer (some ⟨p37, 0, none⟩)), (6, Value.pointer (some ⟨p35, 0, none⟩))] aa := hB.env
                        exact .inr ⟨(wanted_plain rfl _), Does.val (v := Wd.v yW) (rn_loadW rfl (he.op rfl) (hB.held.1.at (i := 2) rfl)) ⟨Fr.refl _ _, rfl⟩⟩
                      refine StepsAll.cons ?_ ?_
                      · intro aa ww hB hd
                        have h156 : aa.eval (.tmp 156) = Wd.v yW := hd 6 (by kernel_rfl)
                        have he : Env 189 [(156, Wd.v yW), (8, Value.pointer (some ⟨p39, 0, none⟩)), (7, Value.pointer (some ⟨p37, 0, none⟩)), (6, Value.pointer (some ⟨p35, 0, none⟩))] aa := (hB.env.add h156)
                        exact .inr ⟨(wanted_plain rfl _), does_call Tryd.func31 (by kernel_rfl) rfl rfl (he.args rfl) (run_any 2 yW ww) (fun e_ w_ h_ => ⟨_, h_.1, h_.2, rfl⟩)⟩
                      refine StepsAll.cons ?_ ?_
                      · intro aa ww hB hd
                        have he : Env 189 [(8, Value.pointer (some ⟨p39, 0, none⟩)), (7, Value.pointer (some ⟨p37, 0, none⟩)), (6, Value.pointer (some ⟨p35, 0, none⟩))] aa := hB.env
                        exact .inr ⟨(wanted_plain rfl _), Does.val (v := Wd.v xW) (rn_loadW rfl (he.op rfl) (hB.held.1.at (i := 3) rfl)) ⟨Fr.refl _ _, rfl⟩⟩
                      refine StepsAll.cons ?_ ?_
                      · intro aa ww hB hd
                        have h158 : aa.eval (.tmp 158) = Wd.v xW := hd 8 (by kernel_rfl)
                        have he : Env 189 [(158, Wd.v xW), (8, Value.pointer (some ⟨p39, 0, none⟩)), (7, Value.pointer (some ⟨p37, 0, none⟩)), (6, Value.pointer (some ⟨p35, 0, none⟩))] aa := (hB.env.add h158)
                        exact .inr ⟨(wanted_plain rfl _), does_call Tryd.func31 (by kernel_rfl) rfl rfl (he.args rfl) (run_any 1 xW ww) (fun e_ w_ h_ => ⟨_, h_.1, h_.2, rfl⟩)⟩
                      refine StepsAll.cons ?_ ?_
                      · intro aa ww hB hd
                        have h157 : aa.eval (.tmp 157) = Rn.v (⟨2, yW⟩ : Rn) := hd 7 (by kernel_rfl)
                        have h159 : aa.eval (.tmp 159) = Rn.v (⟨1, xW⟩ : Rn) := hd 9 (by kernel_rfl)
                        have he : Env 189 [(159, Rn.v (⟨1, xW⟩ : Rn)), (157, Rn.v (⟨2, yW⟩ : Rn)), (8, Value.pointer (some ⟨p39, 0, none⟩)), (7, Value.pointer (some ⟨p37, 0, none⟩)), (6, Value.pointer (some ⟨p35, 0, none⟩))] aa := ((hB.env.add h157).add h159)
                        exact .inr ⟨(wanted_plain rfl _), Does.val (rn_bsr2 rfl (he.op rfl) (he.op rfl) ww) ⟨(Fr.refl _ _).alloc _, _, rfl, rdg_lit (R := rR) ww [(⟨2, yW⟩ : Rn), (⟨1, xW⟩ : Rn)] _ rfl 2 rfl⟩⟩
                      refine StepsAll.cons ?_ ?_
                      · intro aa ww hB hd
                        have hx160 : ∃ p, aa.eval (.tmp 160) = .slice (some ⟨p, 0, none⟩) 2 2 ∧ RdR ww p (some ⟨p, 0, none⟩) 2 [(⟨2, yW⟩ : Rn), (⟨1, xW⟩ : Rn)] := hd 10 (by kernel_rfl)
                        obtain ⟨p160, h160, hr160⟩ := hx160
                        have he : Env 189 [(160, Value.slice (some ⟨p160, 0, none⟩) 2 2), (8, Value.pointer (some ⟨p39, 0, none⟩)), (7, Value.pointer (some ⟨p37, 0, none⟩)), (6, Value.pointer (some ⟨p35, 0, none⟩))] aa := (hB.env.add h160)
                        exact .inr ⟨(wanted_plain rfl _), does_call Tryd.func30 (by kernel_rfl) rfl rfl (he.args rfl) (runs_any _ ww) (fun e_ w_ h_ => ⟨_, h_.1, h_.2, _, rfl, (hr160.new h_.2)⟩)⟩
                      refine StepsAll.cons ?_ ?_
                      · intro aa ww hB hd
                        have he : Env 189 [(8, Value.pointer (some ⟨p39, 0, none⟩)), (7, Value.pointer (some ⟨p37, 0, none⟩)), (6, Value.pointer (some ⟨p35, 0, none⟩))] aa := hB.env
                        exact .inr ⟨(wanted_plain rfl _), Does.val (v := Wd.v xW) (rn_loadW rfl (he.op rfl) (hB.held.1.at (i := 3) rfl)) ⟨Fr.refl _ _, rfl⟩⟩
                      refine StepsAll.cons ?_ ?_
                      · intro aa ww hB hd
                        have h162 : aa.eval (.tmp 162) = Wd.v xW := hd 12 (by kernel_rfl)
                        have he : Env 189 [(162, Wd.v xW), (8, Value.pointer (some ⟨p39, 0, none⟩)), (7, Value.pointer (some ⟨p37, 0, none⟩)), (6, Value.pointer (some ⟨p35, 0, none⟩))] aa := (hB.env.add h162)
                        exact .inr ⟨(wanted_plain rfl _), does_call Tryd.func31 (by kernel_rfl) rfl rfl (he.args rfl) (run_any 1 xW ww) (fun e_ w_ h_ => ⟨_, h_.1, h_.2, rfl⟩)⟩
                      refine StepsAll.cons ?_ ?_
                      · intro aa ww hB hd
                        have he : Env 189 [(8, Value.pointer (some ⟨p39, 0, none⟩)), (7, Value.pointer (some ⟨p37, 0, none⟩)), (6, Value.pointer (some ⟨p35, 0, none⟩))] aa := hB.env
                        exact .inr ⟨(wanted_plain rfl _), Does.val (v := Wd.v yW) (rn_loadW rfl (he.op rfl) (hB.held.1.at (i := 2) rfl)) ⟨Fr.refl _ _, rfl⟩⟩
                      refine StepsAll.cons ?_ ?_
                      · intro aa ww hB hd
                        have h164 : aa.eval (.tmp 164) = Wd.v yW := hd 14 (by kernel_rfl)
                        have he : Env 189 [(164, Wd.v yW), (8, Value.pointer (some ⟨p39, 0, none⟩)), (7, Value.pointer (some ⟨p37, 0, none⟩)), (6, Value.pointer (some ⟨p35, 0, none⟩))] aa := (hB.env.add h164)
                        exact .inr ⟨(wanted_plain rfl _), does_call Tryd.func31 (by kernel_rfl) rfl rfl (he.args rfl) (run_any 3 yW ww) (fun e_ w_ h_ => ⟨_, h_.1, h_.2, rfl⟩)⟩
                      refine StepsAll.cons ?_ ?_
                      · intro aa ww hB hd
                        have he : Env 189 [(8, Value.pointer (some ⟨p39, 0, none⟩)), (7, Value.pointer (some ⟨p37, 0, none⟩)), (6, Value.pointer (some ⟨p35, 0, none⟩))] aa := hB.env
                        exact .inr ⟨(wanted_plain rfl _), Does.val (v := Wd.v xW) (rn_loadW rfl (he.op rfl) (hB.held.1.at (i := 3) rfl)) ⟨Fr.refl _ _, rfl⟩⟩
                      refine StepsAll.cons ?_ ?_
                      · intro aa ww hB hd
                        have h166 : aa.eval (.tmp 166) = Wd.v xW := hd 16 (by kernel_rfl)
                        have he : Env 189 [(166, Wd.v xW), (8, Value.pointer (some ⟨p39, 0, none⟩)), (7, Value.pointer (some ⟨p37, 0, none⟩)), (6, Value.pointer (some ⟨p35, 0, none⟩))] aa := (hB.env.add h166)
                        exact .inr ⟨(wanted_plain rfl _), does_call Tryd.func31 (by kernel_rfl) rfl rfl (he.args rfl) (run_any 1 xW ww) (fun e_ w_ h_ => ⟨_, h_.1, h_.2, rfl⟩)⟩
                      refine StepsAll.cons ?_ ?_
                      · intro aa ww hB hd
                        have h163 : aa.eval (.tmp 163) = Rn.v (⟨1, xW⟩ : Rn) := hd 13 (by kernel_rfl)
                        have h165 : aa.eval (.tmp 165) = Rn.v (⟨3, yW⟩ : Rn) := hd 15 (by kernel_rfl)
                        have h167 : aa.eval (.tmp 167) = Rn.v (⟨1, xW⟩ : Rn) := hd 17 (by kernel_rfl)
                        have he : Env 189 [(167, Rn.v (⟨1, xW⟩ : Rn)), (165, Rn.v (⟨3, yW⟩ : Rn)), (163, Rn.v (⟨1, xW⟩ : Rn)), (8, Value.pointer (some ⟨p39, 0, none⟩)), (7, Value.pointer (some ⟨p37, 0, none⟩)), (6, Value.pointer (some ⟨p35, 0, none⟩))] aa := (((hB.env.add h163).add h165).add h167)
                        exact .inr ⟨(wanted_plain rfl _), Does.val (rn_bsr3 rfl (he.op rfl) (he.op rfl) (he.op rfl) ww) ⟨(Fr.refl _ _).alloc _, _, rfl, rdg_lit (R := rR) ww [(⟨1, xW⟩ : Rn), (⟨3, yW⟩ : Rn), (⟨1, xW⟩ : Rn)] _ rfl 3 rfl⟩⟩
                      refine StepsAll.cons ?_ ?_
                      · intro aa ww hB hd
                        have hx155 : ∃ p, aa.eval (.tmp 155) = .slice (some ⟨p, 0, none⟩) 2 2 ∧ RdR ww p (some ⟨p, 0, none⟩) 2 [⟨1, xW⟩, ⟨1, yW⟩] := hd 5 (by kernel_rfl)
                        obtain ⟨p155, h155, hr155⟩ := hx155
                        have hx161 : ∃ p, aa.eval (.tmp 161) = .slice (some ⟨p, 0, none⟩) 2 2 ∧ RdR ww p (some ⟨p, 0, none⟩) 2 [⟨2, yW⟩, ⟨1, xW⟩] := hd 11 (by kernel_rfl)
                        obtain ⟨p161, h161, hr161⟩ := hx161
                        have hx168 : ∃ p, aa.eval (.tmp 168) = .slice (some ⟨p, 0, none⟩) 3 3 ∧ RdR ww p (some ⟨p, 0, none⟩) 3 [(⟨1, xW⟩ : Rn), (⟨3, yW⟩ : Rn), (⟨1, xW⟩ : Rn)] := hd 18 (by kernel_rfl)
                        obtain ⟨p168, h168, hr168⟩ := hx168
                        have he : Env 189 [(168, Value.slice (some ⟨p168, 0, none⟩) 3 3), (161, Value.slice (some ⟨p161, 0, none⟩) 2 2), (155, Value.slice (some ⟨p155, 0, none⟩) 2 2), (8, Value.pointer (some ⟨p39, 0, none⟩)), (7, Value.pointer (some ⟨p37, 0, none⟩)), (6, Value.pointer (some ⟨p35, 0, none⟩))] aa := (((hB.env.add h155).add h161).add h168)
                        exact .inr ⟨(wanted_plain rfl _), does_call Tryd.func23 (by kernel_rfl) rfl rfl (he.args rfl) (joins_b [⟨1, xW⟩, ⟨1, yW⟩] [⟨2, yW⟩, ⟨1, xW⟩] 2 2 _ _ _ _ _ _ 0 [⟨1, xW⟩, ⟨3, yW⟩, ⟨1, xW⟩] 3 _ _ _ true kj0 ww hr155 hr161 (okR [⟨1, xW⟩, ⟨1, yW⟩] (by decide +kernel)) (okR [⟨2, yW⟩, ⟨1, xW⟩] (by decide +kernel)) (by decide) (by decide) hr168 (by decide) hB.held.2) (fun e_ w_ h_ => ⟨_, h_.1, h_.2, rfl⟩)⟩
                      refine StepsAll.cons ?_ ?_
                      · intro aa ww hB hd
                        have h169 : aa.eval (.tmp 169) = Value.bool true := hd 19 (by kernel_rfl)
                        have he : Env 189 [(169, Value.bool true), (8, Value.pointer (some ⟨p39, 0, none⟩)), (7, Value.pointer (some ⟨p37, 0, none⟩)), (6, Value.pointer (some ⟨p35, 0, none⟩))] aa := (hB.env.add h169)
                        exact .inr ⟨(wanted_plain rfl _), Does.val (v := Value.bool true) (rn_mv rfl (he.op rfl) ww) ⟨Fr.refl _ _, rfl⟩⟩
                      refine StepsAll.cons ?_ ?_
                      · intro aa ww hB hd
                        have h170 : aa.eval (.tmp 170) = Value.bool true := hd 20 (by kernel_rfl)
                        have he : Env 189 [(170, Value.bool true), (8, Value.pointer (some ⟨p39, 0, none⟩)), (7, Value.pointer (some ⟨p37, 0, none⟩)), (6, Value.pointer (some ⟨p35, 0, none⟩))] aa := (hB.env.add h170)
                        exact .inr ⟨(he.want rfl rfl rfl rfl rfl), Does.val (v := Wd.v xW) (rn_loadW rfl (he.op rfl) (hB.held.1.at (i := 3) rfl)) ⟨Fr.refl _ _, rfl⟩⟩
                      refine StepsAll.cons ?_ ?_
                      · intro aa ww hB hd
                        have h171 : aa.eval (.tmp 171) = Wd.v xW := hd 21 (by kernel_rfl)
                        have h170 : aa.eval (.tmp 170) = Value.bool true := hd 20 (by kernel_rfl)
                        have he : Env 189 [(170, Value.bool true), (171, Wd.v xW), (8, Value.pointer (some ⟨p39, 0, none⟩)), (7, Value.pointer (some ⟨p37, 0, none⟩)), (6, Value.pointer (some ⟨p35, 0, none⟩))] aa := ((hB.env.add h171).add h170)
                        exact .inr ⟨(he.want rfl rfl rfl rfl rfl), does_call Tryd.func31 (by kernel_rfl) rfl rfl (he.args rfl) (run_any 100001 xW ww) (fun e_ w_ h_ => ⟨_, h_.1, h_.2, rfl⟩)⟩
                      refine StepsAll.cons ?_ ?_
                      · intro aa ww hB hd
                        have h172 : aa.eval (.tmp 172) = Rn.v (⟨100001, xW⟩ : Rn) := hd 22 (by kernel_rfl)
                        have h170 : aa.eval (.tmp 170) = Value.bool true := hd 20 (by kernel_rfl)
                        have he : Env 189 [(170, Value.bool true), (172, Rn.v (⟨100001, xW⟩ : Rn)), (8, Value.pointer (some ⟨p39, 0, none⟩)), (7, Value.pointer (some ⟨p37, 0, none⟩)), (6, Value.pointer (some ⟨p35, 0, none⟩))] aa := ((hB.env.add h172).add h170)
                        exact .inr ⟨(he.want rfl rfl rfl rfl rfl), Does.val (rn_bsr1 rfl (he.op rfl) ww) ⟨(Fr.refl _ _).alloc _, _, rfl, rdg_lit (R := rR) ww [(⟨100001, xW⟩ : Rn)] _ rfl 1 rfl⟩⟩
                      refine StepsAll.cons ?_ ?_
                      · intro aa ww hB hd
                        have hx173 : ∃ p, aa.eval (.tmp 173) = .slice (some ⟨p, 0, none⟩) 1 1 ∧ RdR ww p (some ⟨p, 0, none⟩) 1 [(⟨100001, xW⟩ : Rn)] := hd 23 (by kernel_rfl)
                        obtain ⟨p173, h173, hr173⟩ := hx173
                        have h170 : aa.eval (.tmp 170) = Value.bool true := hd 20 (by kernel_rfl)
                        have he : Env 189 [(170, Value.bool true), (173, Value.slice (some ⟨p173, 0, none⟩) 1 1), (8, Value.pointer (some ⟨p39, 0, none⟩)), (7, Value.pointer (some ⟨p37, 0, none⟩)), (6, Value.pointer (some ⟨p35, 0, none⟩))] aa := ((hB.env.add h173).add h170)
                        exact .inr ⟨(he.want rfl rfl rfl rfl rfl), does_call Tryd.func30 (by kernel_rfl) rfl rfl (he.args rfl) (runs_any _ ww) (fun e_ w_ h_ => ⟨_, h_.1, h_.2, _, rfl, (hr173.new h_.2)⟩)⟩
                      refine StepsAll.cons ?_ ?_
                      · intro aa ww hB hd
                        have hx174 : ∃ p, aa.eval (.tmp 174) = .slice (some ⟨p, 0, none⟩) 1 1 ∧ RdR ww p (some ⟨p, 0, none⟩) 1 [⟨100001, xW⟩] := hd 24 (by kernel_rfl)
                        obtain ⟨p174, h174, hr174⟩ := hx174
                        have h170 : aa.eval (.tmp 170) = Value.bool true := hd 20 (by kernel_rfl)
                        have he : Env 189 [(170, Value.bool true), (174, Value.slice (some ⟨p174, 0, none⟩) 1 1), (8, Value.pointer (some ⟨p39, 0, none⟩)), (7, Value.pointer (some ⟨p37, 0, none⟩)), (6, Value.pointer (some ⟨p35, 0, none⟩))] aa := ((hB.env.add h174).add h170)
                        exact .inr ⟨(he.want rfl rfl rfl rfl rfl), does_call Tryd.func20 (by kernel_rfl) rfl rfl (he.args rfl) (kv ▸ ValidR_any [⟨100001, xW⟩] 1 _ _ _ ww hr174 (okR [⟨100001, xW⟩] (by decide +kernel)) (by decide) hB.held.2) (fun e_ w_ h_ => ⟨_, h_.1, h_.2, rfl⟩)⟩
                      refine StepsAll.cons ?_ ?_
                      · intro aa ww hB hd
                        have h175 : aa.eval (.tmp 175) = Value.bool false := hd 25 (by kernel_rfl)
                        have h170 : aa.eval (.tmp 170) = Value.bool true := hd 20 (by kernel_rfl)
                        have he : Env 189 [(170, Value.bool true), (175, Value.bool false), (8, Value.pointer (some ⟨p39, 0, none⟩)), (7, Value.pointer (some ⟨p37, 0, none⟩)), (6, Value.pointer (some ⟨p35, 0, none⟩))] aa := ((hB.env.add h175).add h170)
                        exact .inr ⟨(he.want rfl rfl rfl rfl rfl), Does.val (v := Value.bool true) (rn_not (b := false) rfl (he.op rfl) ww) ⟨Fr.refl _ _, rfl⟩⟩
                      refine StepsAll.cons ?_ ?_
                      · intro aa ww hB hd
                        have h170 : aa.eval (.tmp 170) = Value.bool true := hd 20 (by kernel_rfl)
                        have h176 : aa.eval (.tmp 176) = Value.bool true := hd 26 (by kernel_rfl)
                        have he : Env 189 [(176, Value.bool true), (170, Value.bool true), (8, Value.pointer (some ⟨p39, 0, none⟩)), (7, Value.pointer (some ⟨p37, 0, none⟩)), (6, Value.pointer (some ⟨p35, 0, none⟩))] aa := ((hB.env.add h170).add h176)
                        exact .inr ⟨(wanted_plain rfl _), Does.val (v := Value.bool true) (rn_pk rfl (he.op rfl) (he.op rfl) ww) ⟨Fr.refl _ _, rfl⟩⟩
                      refine StepsAll.cons ?_ ?_
                      · intro aa ww hB hd
                        have h177 : aa.eval (.tmp 177) = Value.bool true := hd 27 (by kernel_rfl)
                        have he : Env 189 [(177, Value.bool true), (8, Value.pointer (some ⟨p39, 0, none⟩)), (7, Value.pointer (some ⟨p37, 0, none⟩)), (6, Value.pointer (some ⟨p35, 0, none⟩))] aa := (hB.env.add h177)
                        exact .inr ⟨(wanted_plain rfl _), Does.val (v := Value.bool true) (rn_mv rfl (he.op rfl) ww) ⟨Fr.refl _ _, rfl⟩⟩
                      refine StepsAll.cons ?_ ?_
                      · intro aa ww hB hd
                        have h178 : aa.eval (.tmp 178) = Value.bool true := hd 28 (by kernel_rfl)
                        have he : Env 189 [(178, Value.bool true), (8, Value.pointer (some ⟨p39, 0, none⟩)), (7, Value.pointer (some ⟨p37, 0, none⟩)), (6, Value.pointer (some ⟨p35, 0, none⟩))] aa := (hB.env.add h178)
                        exact .inr ⟨(he.want rfl rfl rfl rfl rfl), Does.val (v := Wd.v xW) (rn_loadW rfl (he.op rfl) (hB.held.1.at (i := 3) rfl)) ⟨Fr.refl _ _, rfl⟩⟩
                      refine StepsAll.cons ?_ ?_
                      · intro aa ww hB hd
                        have h179 : aa.eval (.tmp 179) = Wd.v xW := hd 29 (by kernel_rfl)
                        have h178 : aa.eval (.tmp 178) = Value.bool true := hd 28 (by kernel_rfl)
                        have he : Env 189 [(178, Value.bool true), (179, Wd.v xW), (8, Value.pointer (some ⟨p39, 0, none⟩)), (7, Value.pointer (some ⟨p37, 0, none⟩)), (6, Value.pointer (some ⟨p35, 0, none⟩))] aa := ((hB.env.add h179).add h178)
                        exact .inr ⟨(he.want rfl rfl rfl rfl rfl), does_call Tryd.func31 (by kernel_rfl) rfl rfl (he.args rfl) (run_any 100000 xW ww) (fun e_ w_ h_ => ⟨_, h_.1, h_.2, rfl⟩)⟩
                      refine StepsAll.cons ?_ ?_
                      · intro aa ww hB hd
                        have h180 : aa.eval (.tmp 180) = Rn.v (⟨100000, xW⟩ : Rn) := hd 30 (by kernel_rfl)
                        have h178 : aa.eval (.tmp 178) = Value.bool true := hd 28 (by kernel_rfl)
                        have he : Env 189 [(178, Value.bool true), (180, Rn.v (⟨100000, xW⟩ : Rn)), (8, Value.pointer (some ⟨p39, 0, none⟩)), (7, Value.pointer (some ⟨p37, 0, none⟩)), (6, Value.pointer (some ⟨p35, 0, none⟩))] aa := ((hB.env.add h180).add h178)
                        exact .inr ⟨(he.want rfl rfl rfl rfl rfl), Does.val (rn_bsr1 rfl (he.op rfl) ww) ⟨(Fr.refl _ _).alloc _, _, rfl, rdg_lit (R := rR) ww [(⟨100000, xW⟩ : Rn)] _ rfl 1 rfl⟩⟩
                      refine StepsAll.cons ?_ ?_
                      · intro aa ww hB hd
                        have hx181 : ∃ p, aa.eval (.tmp 181) = .slice (some ⟨p, 0, none⟩) 1 1 ∧ RdR ww p (some ⟨p, 0, none⟩) 1 [(⟨100000, xW⟩ : Rn)] := hd 31 (by kernel_rfl)
                        obtain ⟨p181, h181, hr181⟩ := hx181
                        have h178 : aa.eval (.tmp 178) = Value.bool true := hd 28 (by kernel_rfl)
                        have he : Env 189 [(178, Value.bool true), (181, Value.slice (some ⟨p181, 0, none⟩) 1 1), (8, Value.pointer (some ⟨p39, 0, none⟩)), (7, Value.pointer (some ⟨p37, 0, none⟩)), (6, Value.pointer (some ⟨p35, 0, none⟩))] aa := ((hB.env.add h181).add h178)
                        exact .inr ⟨(he.want rfl rfl rfl rfl rfl), does_call Tryd.func30 (by kernel_rfl) rfl rfl (he.args rfl) (runs_any _ ww) (fun e_ w_ h_ => ⟨_, h_.1, h_.2, _, rfl, (hr181.new h_.2)⟩)⟩
                      refine StepsAll.cons ?_ ?_
                      · intro aa ww hB hd
                        have h178 : aa.eval (.tmp 178) = Value.bool true := hd 28 (by kernel_rfl)
                        have he : Env 189 [(178, Value.bool true), (8, Value.pointer (some ⟨p39, 0, none⟩)), (7, Value.pointer (some ⟨p37, 0, none⟩)), (6, Value.pointer (some ⟨p35, 0, none⟩))] aa := (hB.env.add h178)
                        exact .inr ⟨(he.want rfl rfl rfl rfl rfl), Does.val (v := Wd.v yW) (rn_loadW rfl (he.op rfl) (hB.held.1.at (i := 2) rfl)) ⟨Fr.refl _ _, rfl⟩⟩
                      refine StepsAll.cons ?_ ?_
                      · intro aa ww hB hd
                        have h183 : aa.eval (.tmp 183) = Wd.v yW := hd 33 (by kernel_rfl)
                        have h178 : aa.eval (.tmp 178) = Value.bool true := hd 28 (by kernel_rfl)
                        have he : Env 189 [(178, Value.bool true), (183, Wd.v yW), (8, Value.pointer (some ⟨p39, 0, none⟩)), (7, Value.pointer (some ⟨p37, 0, none⟩)), (6, Value.pointer (some ⟨p35, 0, none⟩))] aa := ((hB.env.add h183).add h178)
                        exact .inr ⟨(he.want rfl rfl rfl rfl rfl), does_call Tryd.func31 (by kernel_rfl) rfl rfl (he.args rfl) (run_any 1 yW ww) (fun e_ w_ h_ => ⟨_, h_.1, h_.2, rfl⟩)⟩
                      refine StepsAll.cons ?_ ?_
                      · intro aa ww hB hd
                        have h184 : aa.eval (.tmp 184) = Rn.v (⟨1, yW⟩ : Rn) := hd 34 (by kernel_rfl)
                        have h178 : aa.eval (.tmp 178) = Value.bool true := hd 28 (by kernel_rfl)
                        have he : Env 189 [(178, Value.bool true), (184, Rn.v (⟨1, yW⟩ : Rn)), (8, Value.pointer (some ⟨p39, 0, none⟩)), (7, Value.pointer (some ⟨p37, 0, none⟩)), (6, Value.pointer (some ⟨p35, 0, none⟩))] aa := ((hB.env.add h184).add h178)
                        exact .inr ⟨(he.want rfl rfl rfl rfl rfl), Does.val (rn_bsr1 rfl (he.op rfl) ww) ⟨(Fr.refl _ _).alloc _, _, rfl, rdg_lit (R := rR) ww [(⟨1, yW⟩ : Rn)] _ rfl 1 rfl⟩⟩
                      refine StepsAll.cons ?_ ?_
                      · intro aa ww hB hd
                        have hx185 : ∃ p, aa.eval (.tmp 185) = .slice (some ⟨p, 0, none⟩) 1 1 ∧ RdR ww p (some ⟨p, 0, none⟩) 1 [(⟨1, yW⟩ : Rn)] := hd 35 (by kernel_rfl)
                        obtain ⟨p185, h185, hr185⟩ := hx185
                        have h178 : aa.eval (.tmp 178) = Value.bool true := hd 28 (by kernel_rfl)
                        have he : Env 189 [(178, Value.bool true), (185, Value.slice (some ⟨p185, 0, none⟩) 1 1), (8, Value.pointer (some ⟨p39, 0, none⟩)), (7, Value.pointer (some ⟨p37, 0, none⟩)), (6, Value.pointer (some ⟨p35, 0, none⟩))] aa := ((hB.env.add h185).add h178)
                        exact .inr ⟨(he.want rfl rfl rfl rfl rfl), does_call Tryd.func30 (by kernel_rfl) rfl rfl (he.args rfl) (runs_any _ ww) (fun e_ w_ h_ => ⟨_, h_.1, h_.2, _, rfl, (hr185.new h_.2)⟩)⟩
                      refine StepsAll.cons ?_ ?_
                      · intro aa ww hB hd
                        have hx182 : ∃ p, aa.eval (.tmp 182) = .slice (some ⟨p, 0, none⟩) 1 1 ∧ RdR ww p (some ⟨p, 0, none⟩) 1 [⟨100000, xW⟩] := hd 32 (by kernel_rfl)
                        obtain ⟨p182, h182, hr182⟩ := hx182
                        have hx186 : ∃ p, aa.eval (.tmp 186) = .slice (some ⟨p, 0, none⟩) 1 1 ∧ RdR ww p (some ⟨p, 0, none⟩) 1 [⟨1, yW⟩] := hd 36 (by kernel_rfl)
                        obtain ⟨p186, h186, hr186⟩ := hx186
                        have h178 : aa.eval (.tmp 178) = Value.bool true := hd 28 (by kernel_rfl)
                        have he : Env 189 [(178, Value.bool true), (186, Value.slice (some ⟨p186, 0, none⟩) 1 1), (182, Value.slice (some ⟨p182, 0, none⟩) 1 1), (8, Value.pointer (some ⟨p39, 0, none⟩)), (7, Value.pointer (some ⟨p37, 0, none⟩)), (6, Value.pointer (some ⟨p35, 0, none⟩))] aa := (((hB.env.add h182).add h186).add h178)
                        exact .inr ⟨(he.want rfl rfl rfl rfl rfl), does_call Tryd.func23 (by kernel_rfl) rfl rfl (he.args rfl) (joins_b [⟨100000, xW⟩] [⟨1, yW⟩] 1 1 _ _ _ _ _ _ 5 [] 0 0 _ none true kj1 ww hr182 hr186 (okR [⟨100000, xW⟩] (by decide +kernel)) (okR [⟨1, yW⟩] (by decide +kernel)) (by decide) (by decide) (RdG.nil _ _ _) (by decide) hB.held.2) (fun e_ w_ h_ => ⟨_, h_.1, h_.2, rfl⟩)⟩
                      refine StepsAll.cons ?_ ?_
                      · intro aa ww hB hd
                        have h178 : aa.eval (.tmp 178) = Value.bool true := hd 28 (by kernel_rfl)
                        have h187 : aa.eval (.tmp 187) = Value.bool true := hd 37 (by kernel_rfl)
                        have he : Env 189 [(187, Value.bool true), (178, Value.bool true), (8, Value.pointer (some ⟨p39, 0, none⟩)), (7, Value.pointer (some ⟨p37, 0, none⟩)), (6, Value.pointer (some ⟨p35, 0, none⟩))] aa := ((hB.env.add h178).add h187)
                        exact .inr ⟨(wanted_plain rfl _), Does.val (v := Value.bool true) (rn_pk rfl (he.op rfl) (he.op rfl) ww) ⟨Fr.refl _ _, rfl⟩⟩
                      refine StepsAll.cons ?_ ?_
                      · intro aa ww hB hd
                        have h188 : aa.eval (.tmp 188) = Value.bool true := hd 38 (by kernel_rfl)
                        have he : Env 189 [(188, Value.bool true), (8, Value.pointer (some ⟨p39, 0, none⟩)), (7, Value.pointer (some ⟨p37, 0, none⟩)), (6, Value.pointer (some ⟨p35, 0, none⟩))] aa := (hB.env.add h188)
                        exact .inr ⟨(wanted_plain rfl _), Does.val (v := Value.bool true) (rn_asg rfl (he.op rfl) ww) ⟨Fr.refl _ _, rfl⟩⟩
                      exact StepsAll.nil
                    · intro aa ww hB hall
                      have h0 : aa.eval (.tmp 0) = Value.bool true := hall 39 (Nat.le_of_ble_eq_true (n := 40) (by kernel_rfl))
                      have he140 : Env 189 [(0, Value.bool true), (8, Value.pointer (some ⟨p39, 0, none⟩)), (7, Value.pointer (some ⟨p37, 0, none⟩)), (6, Value.pointer (some ⟨p35, 0, none⟩))] aa := (hB.env.add h0)
                      have hH140 := hB.held.1
                      have hTt := hB.held.2
                      clear hB hall heb139 hH137
                      refine then_ok ?_
                      refine wp_ret ?_
                      try simp only [Exit.then, Exit.inBlock]
                      exact ret_env rfl he140 rfl ⟨rfl, hH140.new⟩

end Go.Proofs.YtaiijndldngnkaaDoor
