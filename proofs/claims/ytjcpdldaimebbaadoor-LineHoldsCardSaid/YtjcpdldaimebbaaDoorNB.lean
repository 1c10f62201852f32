/-
  Package line.
  Package line: what is built on Fit, Used and Valid.
  The specification's functions of layer 6.
  The small functions of the statements.
  Regions of calls and allocations in whatever order, over slices of cells and lines.
-/
import Derived.Test.YtjcpdldaimebbaaDoorNA
import Derived.Test.YtjcpdldaimebbaaDoorDFix
import Derived.Test.YtjcpdldaimebbaaDoorDRow
import Derived.Test.YtjcpdldaimebbaaDoorDText
import Derived.Test.YtjcpdldaimebbaaDoorDSmall
import Derived.Test.YtjcpdldaimebbaaDoorCFixes
import Derived.Test.YtjcpdldaimebbaaDoorCRow
import Derived.Test.YtjcpdldaimebbaaDoorCTexts
import Derived.Test.YtjcpdldaimebbaaDoorCSame
import Derived.Test.YtjcpdldaimebbaaDoorKA
namespace Go.Proofs.YtjcpdldaimebbaaDoor
open Go.RowKit

theorem FixC (l : List Ce) (n b cap : Nat) (A : Option Addr) (w : World) (hr : RdC w b A n l) (hn : n ≤ 1000000) : Calls Tryd.prog 48 #[.slice A n cap] w (RowSaid (fixL l) w) :=
  (CFix_any l n b cap A w hr hn).mono (fun _ _ ⟨_, h1, h2, h3⟩ => h1 ▸ row_said h2 rfl h3)
theorem own_rdK {w : World} {base n c : Nat} {A : Option Addr} {l : List Ce} (h : OwnC w base (.slice A n c) n l) : ∃ b, RdC w b A n l ∧ n ≤ c := by
  obtain ⟨b, A', c', e, h1, h2⟩ := own_rdg (R := rC) h
  simp only [Value.slice.injEq, true_and] at e
  obtain ⟨rfl, rfl⟩ := e
  exact ⟨b, rdc_of h2, h1⟩
theorem le_said {w w' : World} {A : Option Addr} {c : Nat} {l : List Ce} {s : Bool} {e : Int} {r : Lr} (h : OwnC w' w.heap.size (.slice A l.length c) l.length l) (he : r = ⟨l, s, e⟩) (hn : New w w') : LeSaid r w (.returned (.tuple #[.agg #[.slice A l.length c, .bool s], .int .i64 e])) w' := by
  subst he
  exact ⟨⟨A, c, rfl, h⟩, hn⟩
theorem le_zero {w w' : World} {r : Lr} {e : Int} (he : r = ⟨[], false, e⟩) (hn : New w w') : LeSaid r w (.returned (.tuple #[.agg #[.slice none 0 0, .bool false], .int .i64 e])) w' :=
  le_said (own_nil _ _) he hn
section
variable {ρ : Operand → Value} {o : Oper} {x y z : Operand}
theorem rn_bsS3 {A B C : Option Addr} {a b c a' b' c' : Nat} (h : o.op = .buildSlice 80 3 #[(0, x), (1, y), (2, z)]) (hx : ρ x = .slice A a a') (hy : ρ y = .slice B b b') (hz : ρ z = .slice C c c') (w : World) : (execOp ρ o).run Tryd.prog w = .ok (.value (.slice (some ⟨w.heap.size, 0, none⟩) 3 3)) (w.alloc (.cells #[.slice A a a', .slice B b b', .slice C c c'] 22)) := by
  have e : (Instr.buildSlice 80 3 #[(0, .slice A a a'), (1, .slice B b b'), (2, .slice C c c')]).run Tryd.prog w = .ok (.slice (some ⟨w.heap.size, 0, none⟩) 3 3) (w.alloc (.cells #[.slice A a a', .slice B b b', .slice C c c'] 22)) := by kernel_rfl
  unfold execOp
  simp only [h, List.map_toArray, List.map_cons, List.map_nil, hx, hy, hz, Sem.run_bind, e, Result.andThen_ok, Sem.run_pure]
end

set_option linter.unusedSimpArgs false in
set_option maxRecDepth 100000 in
set_option maxHeartbeats 1600000 in
theorem LValid_b (l : List Ce) (n b cap : Nat) (A : Option Addr) (so : Bool) (v : Bool) (hv : okL l = v) (w : World) (hr : RdC w b A n l) (hT : Tab w) :
    Calls Tryd.prog 13 #[.agg #[.slice A n cap, .bool so]] w fun e w' => e = .returned (.bool v) ∧ New w w' := by
  have hl := hr.1
  refine calls_args (vl := [Value.agg #[Value.slice A n cap, Value.bool so]]) 12 Tryd.func13 rfl Tryd.ntmps13 (by kernel_rfl) (fun a he => ?_)
  have he0 : Env 12 [(0, Value.agg #[Value.slice A n cap, Value.bool so])] a := he
  clear he
  have hH := Hp.start w
  refine wp_seq ?_
  refine wp_region_lit ?_
  refine lNew (fun p => .pointer (some ⟨p, 0, none⟩)) he0 hH rfl rfl (wanted_plain rfl _) (rn_boxL rfl (he0.op rfl) w) ?_
  intro p1 w1 a2 hn hH1 he2
  clear he0 a hH hn
  refine lV (Value.bool false) he2 rfl rfl (wanted_plain rfl _) (rn_asg rfl (he2.op rfl) w1) ?_
  intro a3 he3
  clear he2 a2
  refine wpList_nil ?_
  refine then_ok ?_
  by_cases h1 : n ≤ 1000
  · skip
    have hw : rowB l = v := by rw [← hv, okL, hl, decide_eq_true h1, Bool.true_and]
    refine wp_seq ?_
    refine wp_region_lit ?_
    refine lV (Value.pointer (some ⟨p1, 0, none⟩)) he3 rfl rfl (wanted_plain rfl _) (rn_faL0 rfl (he3.op rfl) rfl w1) ?_
    intro a4 he4
    clear he3 a3
    refine lV (Value.slice A n cap) he4 rfl rfl (wanted_plain rfl _) (rn_ldS rfl (he4.op rfl) (hH1.at (i := 0) rfl) rfl) ?_
    intro a5 he5
    clear he4 a4
    refine lV (Value.int .i64 (n : Nat)) he5 rfl rfl (wanted_plain rfl _) (rn_lenC rfl (he5.op rfl) w1) ?_
    intro a6 he6
    clear he5 a5
    refine lV (Value.bool true) he6 rfl rfl (wanted_plain rfl _) (rn_leq rfl (he6.op rfl) (he6.op rfl) (decide_eq_true (by omega)) w1) ?_
    intro a7 he7
    clear he6 a6
    refine lV (Value.bool true) he7 rfl rfl (wanted_plain rfl _) (rn_mv rfl (he7.op rfl) w1) ?_
    intro a8 he8
    clear he7 a7
    refine lV (Value.pointer (some ⟨p1, 0, none⟩)) he8 rfl rfl (he8.want rfl rfl rfl rfl rfl) (rn_faL0 rfl (he8.op rfl) rfl w1) ?_
    intro a9 he9
    clear he8 a8
    refine lV (Value.slice A n cap) he9 rfl rfl (he9.want rfl rfl rfl rfl rfl) (rn_ldS rfl (he9.op rfl) (hH1.at (i := 0) rfl) rfl) ?_
    intro a10 he10
    clear he9 a9
    refine lC he10 rfl rfl Tryd.func41 (by kernel_rfl) rfl rfl (he10.want rfl rfl rfl rfl rfl) rfl (hw ▸ CRow_any l n b cap A w1 (hr.new hH1.new) (by omega) (hT.new hH1.new)) ?_
    intro w11 a12 hn he12
    have hH11 := hH1.call hn
    clear he10 a10 hH1 hn
    refine lV (Value.bool v) he12 rfl rfl (wanted_plain rfl _) (rn_pk rfl (he12.op rfl) (he12.op rfl) w11) ?_
    intro a13 he13
    clear he12 a12
    refine lV (Value.bool v) he13 rfl rfl (wanted_plain rfl _) (rn_asg rfl (he13.op rfl) w11) ?_
    intro a14 he14
    clear he13 a13
    refine wpList_nil ?_
    refine then_ok ?_
    refine wp_ret ?_
    try simp only [Exit.then, Exit.inBlock, Exit.noGoto]
    exact ret_env rfl he14 rfl ⟨rfl, hH11.new⟩
  · skip
    have hw : v = false := by rw [← hv, okL, hl, decide_eq_false h1, Bool.false_and]
    subst hw
    refine wp_seq ?_
    refine wp_region_lit ?_
    refine lV (Value.pointer (some ⟨p1, 0, none⟩)) he3 rfl rfl (wanted_plain rfl _) (rn_faL0 rfl (he3.op rfl) rfl w1) ?_
    intro a15 he15
    clear he3 a3
    refine lV (Value.slice A n cap) he15 rfl rfl (wanted_plain rfl _) (rn_ldS rfl (he15.op rfl) (hH1.at (i := 0) rfl) rfl) ?_
    intro a16 he16
    clear he15 a15
    refine lV (Value.int .i64 (n : Nat)) he16 rfl rfl (wanted_plain rfl _) (rn_lenC rfl (he16.op rfl) w1) ?_
    intro a17 he17
    clear he16 a16
    refine lV (Value.bool false) he17 rfl rfl (wanted_plain rfl _) (rn_leq rfl (he17.op rfl) (he17.op rfl) (decide_eq_false (by omega)) w1) ?_
    intro a18 he18
    clear he17 a17
    refine lV (Value.bool false) he18 rfl rfl (wanted_plain rfl _) (rn_mv rfl (he18.op rfl) w1) ?_
    intro a19 he19
    clear he18 a18
    refine lSkip he19 rfl rfl (he19.wantNot rfl rfl rfl rfl rfl rfl) ?_
    intro a20 he20
    clear he19 a19
    refine lSkip he20 rfl rfl (he20.wantNot rfl rfl rfl rfl rfl rfl) ?_
    intro a21 he21
    clear he20 a20
    refine lSkip he21 rfl rfl (he21.wantNot rfl rfl rfl rfl rfl rfl) ?_
    intro a22 he22
    clear he21 a21
    refine lV (Value.bool false) he22 rfl rfl (wanted_plain rfl _) (rn_pk0 rfl (he22.op rfl) (he22.op rfl) w1) ?_
    intro a23 he23
    clear he22 a22
    refine lV (Value.bool false) he23 rfl rfl (wanted_plain rfl _) (rn_asg rfl (he23.op rfl) w1) ?_
    intro a24 he24
    clear he23 a23
    refine wpList_nil ?_
    refine then_ok ?_
    refine wp_ret ?_
    try simp only [Exit.then, Exit.inBlock, Exit.noGoto]
    exact ret_env rfl he24 rfl ⟨rfl, hH1.new⟩

set_option linter.unusedSimpArgs false in
set_option maxRecDepth 100000 in
set_option maxHeartbeats 1600000 in
theorem LUsed_any (l : List Ce) (n b cap : Nat) (A : Option Addr) (so : Bool) (w : World) (hr : RdC w b A n l) (hn : n ≤ 1000000) :
    Calls Tryd.prog 20 #[.agg #[.slice A n cap, .bool so]] w fun e w' => e = .returned (.int .i64 (usedN l : Nat)) ∧ New w w' := by
  have hl := hr.1
  refine calls_args (vl := [Value.agg #[Value.slice A n cap, Value.bool so]]) 20 Tryd.func20 rfl Tryd.ntmps20 (by kernel_rfl) (fun a he => ?_)
  have he0 : Env 20 [(0, Value.agg #[Value.slice A n cap, Value.bool so])] a := he
  clear he
  have hH := Hp.start w
  refine wp_seq ?_
  refine wp_region_lit ?_
  refine lNew (fun p => .pointer (some ⟨p, 0, none⟩)) he0 hH rfl rfl (wanted_plain rfl _) (rn_boxL rfl (he0.op rfl) w) ?_
  intro p1 w1 a2 hn hH1 he2
  clear he0 a hH hn
  refine lV (Value.int .i64 0) he2 rfl rfl (wanted_plain rfl _) (rn_asg rfl (he2.op rfl) w1) ?_
  intro a3 he3
  clear he2 a2
  refine wpList_nil ?_
  refine then_ok ?_
  refine wp_scope_straight ?_
  refine wp_seq ?_
  refine wp_region_lit ?_
  refine lV (Value.pointer (some ⟨p1, 0, none⟩)) he3 rfl rfl (wanted_plain rfl _) (rn_faL0 rfl (he3.op rfl) rfl w1) ?_
  intro a4 he4
  clear he3 a3
  refine lV (Value.slice A n cap) he4 rfl rfl (wanted_plain rfl _) (rn_ldS rfl (he4.op rfl) (hH1.at (i := 0) rfl) rfl) ?_
  intro a5 he5
  clear he4 a4
  refine lV (Value.int .i64 (n : Nat)) he5 rfl rfl (wanted_plain rfl _) (rn_lenC rfl (he5.op rfl) w1) ?_
  intro a6 he6
  clear he5 a5
  refine lV (Value.int .i64 (n : Nat)) he6 rfl rfl (wanted_plain rfl _) (rn_asg rfl (he6.op rfl) w1) ?_
  intro a7 he7
  clear he6 a6
  refine wpList_nil ?_
  refine then_ok ?_
  refine wp_seq ?_
  refine wp_label ?_
  refine then_ok ?_
  refine wp_seq ?_
  refine wp_block ?_
  refine loop_nat (fun q a w' => ∃ (k : Nat), q = k + 1 ∧ k ≤ n ∧ usedN (l.take k) = usedN l ∧ Env 20 [(1, Value.pointer (some ⟨p1, 0, none⟩)), (3, Value.int .i64 (k : Int))] a ∧ Hp w [⟨p1, 27, #[Value.slice A n cap, Value.bool so]⟩] w') _ ⟨n, rfl, Nat.le_refl _, by rw [List.take_of_length_le (by omega)], he7.mem ⟨rfl, rfl, trivial⟩, hH1⟩ ?_
  clear he7 hH1
  rintro q a8 w8 ⟨k, rfl, hk, hu, he8, hH8⟩
  as_aux_lemma =>
    by_cases h0 : 0 < k
    · skip
      refine wp_seq ?_
      refine wp_seq ?_
      refine wp_region_lit ?_
      refine lV (Value.int .i64 (k : Int)) he8 rfl rfl (wanted_plain rfl _) (rn_mv rfl (he8.op rfl) w8) ?_
      intro a9 he9
      clear he8 a8
      refine lV (Value.bool true) he9 rfl rfl (wanted_plain rfl _) (rn_gtr rfl (he9.op rfl) (he9.op rfl) (decide_eq_true (by omega)) w8) ?_
      intro a10 he10
      clear he9 a9
      refine wpList_nil ?_
      refine then_ok ?_
      refine wp_cond_true (he10.op rfl) ?_
      refine wp_skip ?_
      refine then_ok ?_
      obtain ⟨j, rfl⟩ : ∃ j, k = j + 1 := ⟨k - 1, by omega⟩
      obtain ⟨o0, rfl⟩ := hr.base (by omega)
      obtain ⟨c, hc⟩ : ∃ c, l[j]? = some c := ⟨_, List.getElem?_eq_getElem (by have := hr.1; omega)⟩
      have hjn : j < n := by omega
      have hs := used_takeS hc
      rw [hu] at hs
      refine wp_seq ?_
      refine wp_block ?_
      refine wp_seq ?_
      obtain ⟨e, he⟩ : ∃ e, decide (c = blankC zeroP) = e := ⟨_, rfl⟩
      refine wp_region_lit ?_
      refine lV (Value.pointer (some ⟨p1, 0, none⟩)) he10 rfl rfl (wanted_plain rfl _) (rn_faL0 rfl (he10.op rfl) rfl w8) ?_
      intro a11 he11
      clear he10 a10
      refine lV (Value.slice (some ⟨b, o0, none⟩) n cap) he11 rfl rfl (wanted_plain rfl _) (rn_ldS rfl (he11.op rfl) (hH8.at (i := 0) rfl) rfl) ?_
      intro a12 he12
      clear he11 a11
      refine lV (Value.int .i64 ((j + 1 : Nat) : Int)) he12 rfl rfl (wanted_plain rfl _) (rn_mv rfl (he12.op rfl) w8) ?_
      intro a13 he13
      clear he12 a12
      refine lV (Value.int .i64 (j : Int)) he13 rfl rfl (wanted_plain rfl _) (rn_subI rfl (he13.op rfl) (he13.op rfl) (by rw [IntWalk.i64_in _ ⟨by omega, by omega⟩]; omega) w8) ?_
      intro a14 he14
      clear he13 a13
      refine lV (Value.pointer (some ⟨b, o0 + j * 16, none⟩)) he14 rfl rfl (wanted_plain rfl _) (rn_idx (i := j) rfl (he14.op rfl) (he14.op rfl) hjn (by rw [addr_add]) w8) ?_
      intro a15 he15
      clear he14 a14
      refine lV (Ce.v c) he15 rfl rfl (wanted_plain rfl _) (rn_loadM (i := j) rfl (he15.op rfl) (hr.new hH8.new) hjn rfl hc) ?_
      intro a16 he16
      clear he15 a15
      refine lC he16 rfl rfl Tryd.func43 (by kernel_rfl) rfl rfl (wanted_plain rfl _) rfl (EmptyK c e he w8) ?_
      intro w17 a18 hn he18
      have hH17 := hH8.call hn
      clear he16 a16 hH8 hn
      refine lV (Value.bool (!e)) he18 rfl rfl (wanted_plain rfl _) (rn_not rfl (he18.op rfl) w17) ?_
      intro a19 he19
      clear he18 a18
      refine wpList_nil ?_
      refine then_ok ?_
      cases e with
      | true =>
        replace he19 : Env 20 [(18, Value.bool false), (17, Value.bool true), (16, Ce.v c), (15, Value.pointer (some ⟨b, o0 + j * 16, none⟩)), (14, Value.int .i64 (j : Int)), (13, Value.int .i64 ((j + 1 : Nat) : Int)), (12, Value.slice (some ⟨b, o0, none⟩) n cap), (11, Value.pointer (some ⟨p1, 0, none⟩)), (8, Value.bool true), (7, Value.int .i64 ((j + 1 : Nat) : Int)), (1, Value.pointer (some ⟨p1, 0, none⟩)), (3, Value.int .i64 ((j + 1 : Nat) : Int))] a19 := he19
        refine wp_cond_false (he19.op rfl) ?_
        refine wp_skip ?_
        refine block_ok ?_
        refine then_ok ?_
        refine wp_region_lit ?_
        refine lV (Value.int .i64 ((j + 1 : Nat) : Int)) he19 rfl rfl (wanted_plain rfl _) (rn_mv rfl (he19.op rfl) w17) ?_
        intro a20 he20
        clear he19 a19
        refine lV (Value.int .i64 (j : Int)) he20 rfl rfl (wanted_plain rfl _) (rn_subI rfl (he20.op rfl) (he20.op rfl) (by rw [IntWalk.i64_in _ ⟨by omega, by omega⟩]; omega) w17) ?_
        intro a21 he21
        clear he20 a20
        refine lV (Value.int .i64 (j : Int)) he21 rfl rfl (wanted_plain rfl _) (rn_asg rfl (he21.op rfl) w17) ?_
        intro a22 he22
        clear he21 a21
        refine wpList_nil ?_
        refine then_ok ?_
        have hce : c = eC := of_decide_eq_true he
        rw [if_pos hce] at hs
        exact ⟨j + 1, by omega, j, rfl, by omega, hs.symm, he22.mem ⟨rfl, rfl, trivial⟩, hH17⟩
      | false =>
        replace he19 : Env 20 [(18, Value.bool true), (17, Value.bool false), (16, Ce.v c), (15, Value.pointer (some ⟨b, o0 + j * 16, none⟩)), (14, Value.int .i64 (j : Int)), (13, Value.int .i64 ((j + 1 : Nat) : Int)), (12, Value.slice (some ⟨b, o0, none⟩) n cap), (11, Value.pointer (some ⟨p1, 0, none⟩)), (8, Value.bool true), (7, Value.int .i64 ((j + 1 : Nat) : Int)), (1, Value.pointer (some ⟨p1, 0, none⟩)), (3, Value.int .i64 ((j + 1 : Nat) : Int))] a19 := he19
        have hce : ¬ c = eC := of_decide_eq_false he
        rw [if_neg hce] at hs
        refine wp_cond_true (he19.op rfl) ?_
        refine wp_exit ?_
        simp only [Exit.then, Exit.inBlock, if_true, reduceIte, Nat.zero_ne_one, reduceCtorEq]
        have he23 : Env 20 [(3, Value.int .i64 ((j + 1 : Nat) : Int))] a19 := he19.mem ⟨rfl, trivial⟩
        clear he19
        have hH24 := hH17.tail rfl
        clear hH17
        refine wp_seq ?_
        refine wp_region_lit ?_
        refine lV (Value.int .i64 ((j + 1 : Nat) : Int)) he23 rfl rfl (wanted_plain rfl _) (rn_mv rfl (he23.op rfl) w17) ?_
        intro a25 he25
        clear he23 a19
        refine lV (Value.int .i64 ((j + 1 : Nat) : Int)) he25 rfl rfl (wanted_plain rfl _) (rn_asg rfl (he25.op rfl) w17) ?_
        intro a26 he26
        clear he25 a25
        refine wpList_nil ?_
        refine then_ok ?_
        refine wp_ret ?_
        try simp only [Exit.then, Exit.inBlock, Exit.noGoto]
        exact ret_env rfl he26 rfl ⟨by rw [hs], hH24.new⟩
    · skip
      obtain rfl : k = 0 := by omega
      refine wp_seq ?_
      refine wp_seq ?_
      refine wp_region_lit ?_
      refine lV (Value.int .i64 ((0 : Nat) : Int)) he8 rfl rfl (wanted_plain rfl _) (rn_mv rfl (he8.op rfl) w8) ?_
      intro a27 he27
      clear he8 a8
      refine lV (Value.bool false) he27 rfl rfl (wanted_plain rfl _) (rn_gtr rfl (he27.op rfl) (he27.op rfl) (decide_eq_false (by omega)) w8) ?_
      intro a28 he28
      clear he27 a27
      refine wpList_nil ?_
      refine then_ok ?_
      refine wp_cond_false (he28.op rfl) ?_
      refine wp_exit ?_
      simp only [Exit.then, Exit.inBlock, if_true]
      have he29 : Env 20 [(3, Value.int .i64 ((0 : Nat) : Int))] a28 := he28.mem ⟨rfl, trivial⟩
      clear he28
      have hH30 := hH8.tail rfl
      clear hH8
      refine wp_seq ?_
      refine wp_region_lit ?_
      refine lV (Value.int .i64 ((0 : Nat) : Int)) he29 rfl rfl (wanted_plain rfl _) (rn_mv rfl (he29.op rfl) w8) ?_
      intro a31 he31
      clear he29 a28
      refine lV (Value.int .i64 ((0 : Nat) : Int)) he31 rfl rfl (wanted_plain rfl _) (rn_asg rfl (he31.op rfl) w8) ?_
      intro a32 he32
      clear he31 a31
      refine wpList_nil ?_
      refine then_ok ?_
      refine wp_ret ?_
      try simp only [Exit.then, Exit.inBlock, Exit.noGoto]
      exact ret_env rfl he32 rfl ⟨by rw [← hu]; rfl, hH30.new⟩

set_option linter.unusedSimpArgs false in
set_option maxRecDepth 100000 in
set_option maxHeartbeats 1600000 in
theorem LFit_any (l : List Ce) (n b cap : Nat) (A : Option Addr) (so : Bool) (col : Int) (w : World) (hr : RdC w b A n l) (hc : n ≤ cap) (hT : Tab w) :
    Calls Tryd.prog 32 #[.agg #[.slice A n cap, .bool so], .int .i64 col] w (LeSaid (fitR l so col) w) := by
  have hl := hr.1
  refine calls_args (vl := [Value.agg #[Value.slice A n cap, Value.bool so], Value.int .i64 col]) 43 Tryd.func32 rfl Tryd.ntmps32 (by kernel_rfl) (fun a he => ?_)
  have he0 : Env 43 [(0, Value.agg #[Value.slice A n cap, Value.bool so]), (1, Value.int .i64 col)] a := he
  clear he
  have hH := Hp.start w
  refine wp_seq ?_
  refine wp_region_lit ?_
  refine lNew (fun p => .pointer (some ⟨p, 0, none⟩)) he0 hH rfl rfl (wanted_plain rfl _) (rn_boxL rfl (he0.op rfl) w) ?_
  intro p1 w1 a2 hn hH1 he2
  clear he0 a hH hn
  refine lNew (fun p => .pointer (some ⟨p, 0, none⟩)) he2 hH1 rfl rfl (wanted_plain rfl _) (rn_allocL rfl w1) ?_
  intro p3 w3 a4 hn hH3 he4
  clear he2 a2 hH1 hn
  refine lV (Value.int .i64 0) he4 rfl rfl (wanted_plain rfl _) (rn_asg rfl (he4.op rfl) w3) ?_
  intro a5 he5
  clear he4 a4
  refine wpList_nil ?_
  refine then_ok ?_
  by_cases h0 : col < 0
  · skip
    refine wp_seq ?_
    refine wp_seq ?_
    refine wp_region_lit ?_
    refine lV (Value.int .i64 col) he5 rfl rfl (wanted_plain rfl _) (rn_mv rfl (he5.op rfl) w3) ?_
    intro a6 he6
    clear he5 a5
    refine lV (Value.bool true) he6 rfl rfl (wanted_plain rfl _) (rn_lss rfl (he6.op rfl) (he6.op rfl) (decide_eq_true (by omega)) w3) ?_
    intro a7 he7
    clear he6 a6
    refine lV (Value.bool true) he7 rfl rfl (wanted_plain rfl _) (rn_mv rfl (he7.op rfl) w3) ?_
    intro a8 he8
    clear he7 a7
    refine lSkip he8 rfl rfl (he8.wantNot rfl rfl rfl rfl rfl rfl) ?_
    intro a9 he9
    clear he8 a8
    refine lSkip he9 rfl rfl (he9.wantNot rfl rfl rfl rfl rfl rfl) ?_
    intro a10 he10
    clear he9 a9
    refine lV (Value.bool true) he10 rfl rfl (wanted_plain rfl _) (rn_pk rfl (he10.op rfl) (he10.op rfl) w3) ?_
    intro a11 he11
    clear he10 a10
    refine lV (Value.bool true) he11 rfl rfl (wanted_plain rfl _) (rn_mv rfl (he11.op rfl) w3) ?_
    intro a12 he12
    clear he11 a11
    refine lSkip he12 rfl rfl (he12.wantNot rfl rfl rfl rfl rfl rfl) ?_
    intro a13 he13
    clear he12 a12
    refine lSkip he13 rfl rfl (he13.wantNot rfl rfl rfl rfl rfl rfl) ?_
    intro a14 he14
    clear he13 a13
    refine lSkip he14 rfl rfl (he14.wantNot rfl rfl rfl rfl rfl rfl) ?_
    intro a15 he15
    clear he14 a14
    refine lV (Value.bool true) he15 rfl rfl (wanted_plain rfl _) (rn_pk rfl (he15.op rfl) (he15.op rfl) w3) ?_
    intro a16 he16
    clear he15 a15
    refine wpList_nil ?_
    refine then_ok ?_
    refine wp_cond_true (he16.op rfl) ?_
    refine wp_seq ?_
    refine wp_region_lit ?_
    refine lV (Value.agg #[Value.slice none 0 0, Value.bool false]) he16 rfl rfl (wanted_plain rfl _) (rn_bL rfl  w3) ?_
    intro a17 he17
    clear he16 a16
    refine lSetF 0 #[Value.slice none 0 0, Value.bool false] (cs := #[Value.slice none 0 0, Value.bool false]) he17 hH3 rfl (wanted_plain rfl _) rfl rfl rfl rfl rfl (by kernel_rfl) (by kernel_rfl) (by kernel_rfl) rfl ?_
    intro w18 a19 hH18 hf he19
    replace hH18 : Hp w [⟨p3, 27, #[Value.slice none 0 0, Value.bool false]⟩, ⟨p1, 27, #[Value.slice A n cap, Value.bool so]⟩] w18 := hH18
    clear hf
    clear he17 a17 hH3
    refine lV (Value.int .i64 2) he19 rfl rfl (wanted_plain rfl _) (rn_asg rfl (he19.op rfl) w18) ?_
    intro a20 he20
    clear he19 a19
    refine wpList_nil ?_
    refine then_ok ?_
    refine wp_ret ?_
    try simp only [Exit.then, Exit.inBlock]
    exact ret_rowt rfl he20 rfl rfl (hH18.at (i := 0) rfl) undL rfl infoL2 (le_zero (fitR_no (by rw [decide_eq_false (by omega : ¬ 0 ≤ col)]; rfl)) hH18.new)
  by_cases h1 : 1000 < col
  · skip
    refine wp_seq ?_
    refine wp_seq ?_
    refine wp_region_lit ?_
    refine lV (Value.int .i64 col) he5 rfl rfl (wanted_plain rfl _) (rn_mv rfl (he5.op rfl) w3) ?_
    intro a21 he21
    clear he5 a5
    refine lV (Value.bool false) he21 rfl rfl (wanted_plain rfl _) (rn_lss rfl (he21.op rfl) (he21.op rfl) (decide_eq_false (by omega)) w3) ?_
    intro a22 he22
    clear he21 a21
    refine lV (Value.bool false) he22 rfl rfl (wanted_plain rfl _) (rn_mv rfl (he22.op rfl) w3) ?_
    intro a23 he23
    clear he22 a22
    refine lV (Value.int .i64 col) he23 rfl rfl (he23.want rfl rfl rfl rfl rfl) (rn_mv rfl (he23.op rfl) w3) ?_
    intro a24 he24
    clear he23 a23
    refine lV (Value.bool true) he24 rfl rfl (he24.want rfl rfl rfl rfl rfl) (rn_gtr rfl (he24.op rfl) (he24.op rfl) (decide_eq_true (by omega)) w3) ?_
    intro a25 he25
    clear he24 a24
    refine lV (Value.bool true) he25 rfl rfl (wanted_plain rfl _) (rn_pk0 rfl (he25.op rfl) (he25.op rfl) w3) ?_
    intro a26 he26
    clear he25 a25
    refine lV (Value.bool true) he26 rfl rfl (wanted_plain rfl _) (rn_mv rfl (he26.op rfl) w3) ?_
    intro a27 he27
    clear he26 a26
    refine lSkip he27 rfl rfl (he27.wantNot rfl rfl rfl rfl rfl rfl) ?_
    intro a28 he28
    clear he27 a27
    refine lSkip he28 rfl rfl (he28.wantNot rfl rfl rfl rfl rfl rfl) ?_
    intro a29 he29
    clear he28 a28
    refine lSkip he29 rfl rfl (he29.wantNot rfl rfl rfl rfl rfl rfl) ?_
    intro a30 he30
    clear he29 a29
    refine lV (Value.bool true) he30 rfl rfl (wanted_plain rfl _) (rn_pk rfl (he30.op rfl) (he30.op rfl) w3) ?_
    intro a31 he31
    clear he30 a30
    refine wpList_nil ?_
    refine then_ok ?_
    refine wp_cond_true (he31.op rfl) ?_
    refine wp_seq ?_
    refine wp_region_lit ?_
    refine lV (Value.agg #[Value.slice none 0 0, Value.bool false]) he31 rfl rfl (wanted_plain rfl _) (rn_bL rfl  w3) ?_
    intro a32 he32
    clear he31 a31
    refine lSetF 0 #[Value.slice none 0 0, Value.bool false] (cs := #[Value.slice none 0 0, Value.bool false]) he32 hH3 rfl (wanted_plain rfl _) rfl rfl rfl rfl rfl (by kernel_rfl) (by kernel_rfl) (by kernel_rfl) rfl ?_
    intro w33 a34 hH33 hf he34
    replace hH33 : Hp w [⟨p3, 27, #[Value.slice none 0 0, Value.bool false]⟩, ⟨p1, 27, #[Value.slice A n cap, Value.bool so]⟩] w33 := hH33
    clear hf
    clear he32 a32 hH3
    refine lV (Value.int .i64 2) he34 rfl rfl (wanted_plain rfl _) (rn_asg rfl (he34.op rfl) w33) ?_
    intro a35 he35
    clear he34 a34
    refine wpList_nil ?_
    refine then_ok ?_
    refine wp_ret ?_
    try simp only [Exit.then, Exit.inBlock]
    exact ret_rowt rfl he35 rfl rfl (hH33.at (i := 0) rfl) undL rfl infoL2 (le_zero (fitR_no (by rw [decide_eq_false (by omega : ¬ col ≤ 1000), Bool.and_false]; rfl)) hH33.new)
  cases hv : okL l with
  | false =>
    refine wp_seq ?_
    refine wp_seq ?_
    refine wp_region_lit ?_
    refine lV (Value.int .i64 col) he5 rfl rfl (wanted_plain rfl _) (rn_mv rfl (he5.op rfl) w3) ?_
    intro a36 he36
    clear he5 a5
    refine lV (Value.bool false) he36 rfl rfl (wanted_plain rfl _) (rn_lss rfl (he36.op rfl) (he36.op rfl) (decide_eq_false (by omega)) w3) ?_
    intro a37 he37
    clear he36 a36
    refine lV (Value.bool false) he37 rfl rfl (wanted_plain rfl _) (rn_mv rfl (he37.op rfl) w3) ?_
    intro a38 he38
    clear he37 a37
    refine lV (Value.int .i64 col) he38 rfl rfl (he38.want rfl rfl rfl rfl rfl) (rn_mv rfl (he38.op rfl) w3) ?_
    intro a39 he39
    clear he38 a38
    refine lV (Value.bool false) he39 rfl rfl (he39.want rfl rfl rfl rfl rfl) (rn_gtr rfl (he39.op rfl) (he39.op rfl) (decide_eq_false (by omega)) w3) ?_
    intro a40 he40
    clear he39 a39
    refine lV (Value.bool false) he40 rfl rfl (wanted_plain rfl _) (rn_pk0 rfl (he40.op rfl) (he40.op rfl) w3) ?_
    intro a41 he41
    clear he40 a40
    refine lV (Value.bool false) he41 rfl rfl (wanted_plain rfl _) (rn_mv rfl (he41.op rfl) w3) ?_
    intro a42 he42
    clear he41 a41
    refine lV (Value.agg #[Value.slice A n cap, Value.bool so]) he42 rfl rfl (he42.want rfl rfl rfl rfl rfl) (rn_ldp [Value.slice A n cap, Value.bool so] rfl (he42.op rfl) undL rfl infoL2 (hH3.at (i := 1) rfl) rfl) ?_
    intro a43 he43
    clear he42 a42
    refine lC he43 rfl rfl Tryd.func13 (by kernel_rfl) rfl rfl (he43.want rfl rfl rfl rfl rfl) rfl (LValid_b l n b cap A so false hv w3 (hr.new hH3.new) (hT.new hH3.new)) ?_
    intro w44 a45 hn he45
    have hH44 := hH3.call hn
    clear he43 a43 hH3 hn
    refine lV (Value.bool true) he45 rfl rfl (he45.want rfl rfl rfl rfl rfl) (rn_not (b := false) rfl (he45.op rfl) w44) ?_
    intro a46 he46
    clear he45 a45
    refine lV (Value.bool true) he46 rfl rfl (wanted_plain rfl _) (rn_pk0 rfl (he46.op rfl) (he46.op rfl) w44) ?_
    intro a47 he47
    clear he46 a46
    refine wpList_nil ?_
    refine then_ok ?_
    refine wp_cond_true (he47.op rfl) ?_
    refine wp_seq ?_
    refine wp_region_lit ?_
    refine lV (Value.agg #[Value.slice none 0 0, Value.bool false]) he47 rfl rfl (wanted_plain rfl _) (rn_bL rfl  w44) ?_
    intro a48 he48
    clear he47 a47
    refine lSetF 0 #[Value.slice none 0 0, Value.bool false] (cs := #[Value.slice none 0 0, Value.bool false]) he48 hH44 rfl (wanted_plain rfl _) rfl rfl rfl rfl rfl (by kernel_rfl) (by kernel_rfl) (by kernel_rfl) rfl ?_
    intro w49 a50 hH49 hf he50
    replace hH49 : Hp w [⟨p3, 27, #[Value.slice none 0 0, Value.bool false]⟩, ⟨p1, 27, #[Value.slice A n cap, Value.bool so]⟩] w49 := hH49
    clear hf
    clear he48 a48 hH44
    refine lV (Value.int .i64 2) he50 rfl rfl (wanted_plain rfl _) (rn_asg rfl (he50.op rfl) w49) ?_
    intro a51 he51
    clear he50 a50
    refine wpList_nil ?_
    refine then_ok ?_
    refine wp_ret ?_
    try simp only [Exit.then, Exit.inBlock]
    exact ret_rowt rfl he51 rfl rfl (hH49.at (i := 0) rfl) undL rfl infoL2 (le_zero (fitR_no (by rw [hv, Bool.and_false])) hH49.new)
  | true =>
    refine wp_seq ?_
    refine wp_seq ?_
    refine wp_region_lit ?_
    refine lV (Value.int .i64 col) he5 rfl rfl (wanted_plain rfl _) (rn_mv rfl (he5.op rfl) w3) ?_
    intro a52 he52
    clear he5 a5
    refine lV (Value.bool false) he52 rfl rfl (wanted_plain rfl _) (rn_lss rfl (he52.op rfl) (he52.op rfl) (decide_eq_false (by omega)) w3) ?_
    intro a53 he53
    clear he52 a52
    refine lV (Value.bool false) he53 rfl rfl (wanted_plain rfl _) (rn_mv rfl (he53.op rfl) w3) ?_
    intro a54 he54
    clear he53 a53
    refine lV (Value.int .i64 col) he54 rfl rfl (he54.want rfl rfl rfl rfl rfl) (rn_mv rfl (he54.op rfl) w3) ?_
    intro a55 he55
    clear he54 a54
    refine lV (Value.bool false) he55 rfl rfl (he55.want rfl rfl rfl rfl rfl) (rn_gtr rfl (he55.op rfl) (he55.op rfl) (decide_eq_false (by omega)) w3) ?_
    intro a56 he56
    clear he55 a55
    refine lV (Value.bool false) he56 rfl rfl (wanted_plain rfl _) (rn_pk0 rfl (he56.op rfl) (he56.op rfl) w3) ?_
    intro a57 he57
    clear he56 a56
    refine lV (Value.bool false) he57 rfl rfl (wanted_plain rfl _) (rn_mv rfl (he57.op rfl) w3) ?_
    intro a58 he58
    clear he57 a57
    refine lV (Value.agg #[Value.slice A n cap, Value.bool so]) he58 rfl rfl (he58.want rfl rfl rfl rfl rfl) (rn_ldp [Value.slice A n cap, Value.bool so] rfl (he58.op rfl) undL rfl infoL2 (hH3.at (i := 1) rfl) rfl) ?_
    intro a59 he59
    clear he58 a58
    refine lC he59 rfl rfl Tryd.func13 (by kernel_rfl) rfl rfl (he59.want rfl rfl rfl rfl rfl) rfl (LValid_b l n b cap A so true hv w3 (hr.new hH3.new) (hT.new hH3.new)) ?_
    intro w60 a61 hn he61
    have hH60 := hH3.call hn
    clear he59 a59 hH3 hn
    refine lV (Value.bool false) he61 rfl rfl (he61.want rfl rfl rfl rfl rfl) (rn_not (b := true) rfl (he61.op rfl) w60) ?_
    intro a62 he62
    clear he61 a61
    refine lV (Value.bool false) he62 rfl rfl (wanted_plain rfl _) (rn_pk0 rfl (he62.op rfl) (he62.op rfl) w60) ?_
    intro a63 he63
    clear he62 a62
    refine wpList_nil ?_
    refine then_ok ?_
    refine wp_cond_false (he63.op rfl) ?_
    refine wp_skip ?_
    refine then_ok ?_
    obtain ⟨k, rfl⟩ : ∃ k : Nat, col = k := ⟨col.toNat, by omega⟩
    have hfit : fitR l so (k : Int) = ⟨fixL (l.take (min k n)) ++ List.replicate (k - n) eC, so, 0⟩ := by rw [fitR_ok hv (by omega) (by omega), Int.toNat_natCast, fitL_min l k n hl]
    have hln := okL_len hv
    have hkl : (fixL (l.take (min k n))).length = min k n := by rw [fixL_len, List.length_take]; omega
    have he64 : Env 43 [(4, Value.pointer (some ⟨p3, 0, none⟩)), (2, Value.pointer (some ⟨p1, 0, none⟩)), (0, Value.agg #[Value.slice A n cap, Value.bool so]), (1, Value.int .i64 (k : Int))] a63 := he63.mem ⟨rfl, rfl, rfl, rfl, trivial⟩
    clear he63
    refine wp_seq ?_
    refine wp_region_lit ?_
    refine lV (Value.pointer (some ⟨p1, 0, none⟩)) he64 rfl rfl (wanted_plain rfl _) (rn_faL0 rfl (he64.op rfl) rfl w60) ?_
    intro a65 he65
    clear he64 a63
    refine lV (Value.slice A n cap) he65 rfl rfl (wanted_plain rfl _) (rn_ldS rfl (he65.op rfl) (hH60.at (i := 1) rfl) rfl) ?_
    intro a66 he66
    clear he65 a65
    refine lV (Value.int .i64 (k : Int)) he66 rfl rfl (wanted_plain rfl _) (rn_mv rfl (he66.op rfl) w60) ?_
    intro a67 he67
    clear he66 a66
    refine lV (Value.pointer (some ⟨p1, 0, none⟩)) he67 rfl rfl (wanted_plain rfl _) (rn_faL0 rfl (he67.op rfl) rfl w60) ?_
    intro a68 he68
    clear he67 a67
    refine lV (Value.slice A n cap) he68 rfl rfl (wanted_plain rfl _) (rn_ldS rfl (he68.op rfl) (hH60.at (i := 1) rfl) rfl) ?_
    intro a69 he69
    clear he68 a68
    refine lV (Value.int .i64 (n : Nat)) he69 rfl rfl (wanted_plain rfl _) (rn_lenC rfl (he69.op rfl) w60) ?_
    intro a70 he70
    clear he69 a69
    refine lV (Value.int .i64 ((min k n : Nat) : Int)) he70 rfl rfl (wanted_plain rfl _) (rn_min rfl (he70.op rfl) (he70.op rfl) (by split <;> omega) w60) ?_
    intro a71 he71
    clear he70 a70
    obtain ⟨Ac, eAc, rAc⟩ := slh_rd (c := cap) (k := (min k n)) (hr.new hH60.new) (by omega)
    refine lV (Value.slice Ac (min k n) cap) he71 rfl rfl (wanted_plain rfl _) (rn_slh (k := (min k n)) rfl (he71.op rfl) (he71.op rfl) (by omega) eAc w60) ?_
    intro a72 he72
    clear he71 a71
    have hzhof := hH60.new.size
    refine lCx he72 rfl rfl Tryd.func48 (by kernel_rfl) rfl rfl (wanted_plain rfl _) rfl (FixC _ _ _ _ _ w60 rAc (by omega)) ?_
    rintro _ w73 ⟨⟨Af, cf, rfl, hof⟩, hn⟩
    replace hof := own_base hof (fun k_ hk_ => Nat.le_trans hzhof (own_blk hof k_ hk_))
    clear hzhof
    refine ⟨_, rfl, ?_⟩
    intro a74 he74
    have hH73 := hH60.call hn
    replace rAc := rAc.new hn
    clear he72 a72 hH60
    clear hn
    refine lV (Value.slice Af (fixL (l.take (min k n))).length cf) he74 rfl rfl (wanted_plain rfl _) (rn_asg rfl (he74.op rfl) w73) ?_
    intro a75 he75
    clear he74 a74
    refine wpList_nil ?_
    refine then_ok ?_
    clear rAc
    have he76 : Env 43 [(6, Value.slice Af (fixL (l.take (min k n))).length cf), (4, Value.pointer (some ⟨p3, 0, none⟩)), (2, Value.pointer (some ⟨p1, 0, none⟩)), (1, Value.int .i64 (k : Int))] a75 := he75.mem ⟨rfl, rfl, rfl, rfl, trivial⟩
    clear he75
    refine wp_seq ?_
    refine wp_region_lit ?_
    refine lV (Pn.v zeroP) he76 rfl rfl (wanted_plain rfl _) (rn_bP rfl w73) ?_
    intro a77 he77
    clear he76 a75
    refine lC he77 rfl rfl Tryd.func50 (by kernel_rfl) rfl rfl (wanted_plain rfl _) rfl (BlankK zeroP w73) ?_
    intro w78 a79 hn he79
    have hH78 := hH73.call hn
    replace hof := own_fr hof hn (fun _ _ h => h)
    clear he77 a77 hH73 hn
    refine lNew (fun p => .slice (some ⟨p, 0, none⟩) 1 1) he79 hH78 rfl rfl (wanted_plain rfl _) (rn_bs1 rfl (he79.op rfl) w78) ?_
    intro p80 w80 a81 hn hH80 he81
    replace hof := own_fr hof hn (fun _ _ h => h)
    clear he79 a79 hH78 hn
    refine lV (Value.int .i64 (k : Int)) he81 rfl rfl (wanted_plain rfl _) (rn_mv rfl (he81.op rfl) w80) ?_
    intro a82 he82
    clear he81 a81
    refine lV (Value.slice Af (fixL (l.take (min k n))).length cf) he82 rfl rfl (wanted_plain rfl _) (rn_mv rfl (he82.op rfl) w80) ?_
    intro a83 he83
    clear he82 a82
    refine lV (Value.int .i64 ((fixL (l.take (min k n))).length : Nat)) he83 rfl rfl (wanted_plain rfl _) (rn_lenC rfl (he83.op rfl) w80) ?_
    intro a84 he84
    clear he83 a83
    refine lV (Value.int .i64 ((k - n : Nat) : Int)) he84 rfl rfl (wanted_plain rfl _) (rn_subI rfl (he84.op rfl) (he84.op rfl) (by rw [hkl, IntWalk.i64_in _ ⟨by omega, by omega⟩]; omega) w80) ?_
    intro a85 he85
    clear he84 a84
    have hrb := rdg_blk (R := rC) (n := 1) (l := [eC]) (hH80.at (i := 0) rfl) rfl rfl
    have hH86 := hH80.tail rfl
    clear hH80
    have hzhoa := hH86.new.size
    refine lCx he85 rfl rfl Tryd.func49 (by kernel_rfl) rfl rfl (wanted_plain rfl _) rfl (Repeat_one eC (some ⟨p80, 0, none⟩) p80 1 (k - n) (by omega) w80 (rdc_of hrb)) ?_
    rintro _ w87 ⟨⟨Aa, ca, rfl, hoa⟩, hn⟩
    replace hoa := own_base hoa (fun k_ hk_ => Nat.le_trans hzhoa (own_blk hoa k_ hk_))
    clear hzhoa
    refine ⟨_, rfl, ?_⟩
    intro a88 he88
    have hH87 := hH86.call hn
    replace hof := own_fr hof hn (fun _ _ h => h)
    clear he85 a85 hH86
    clear hn
    refine lV (Value.slice Aa (List.replicate (k - n) eC).length ca) he88 rfl rfl (wanted_plain rfl _) (rn_asg rfl (he88.op rfl) w87) ?_
    intro a89 he89
    clear he88 a88
    refine wpList_nil ?_
    refine then_ok ?_
    clear hrb
    have he90 : Env 43 [(7, Value.slice Aa (List.replicate (k - n) eC).length ca), (6, Value.slice Af (fixL (l.take (min k n))).length cf), (4, Value.pointer (some ⟨p3, 0, none⟩)), (2, Value.pointer (some ⟨p1, 0, none⟩))] a89 := he89.mem ⟨rfl, rfl, rfl, rfl, trivial⟩
    clear he89
    have hra : (List.replicate (k - n) eC).length = k - n := List.length_replicate
    obtain ⟨ba, hra2, -⟩ := own_rdK hoa
    clear hoa
    refine wp_seq ?_
    refine wp_region_held_drew (S := Hp w [⟨p1, 27, #[Value.slice A n cap, Value.bool so]⟩]) (by kernel_rfl) ((hH87.drew).drop1 0 rfl) (fun _ => ?_)
    have hn : New w87 (World.drew w87) := (Fr.refl _ _).drew
    replace hof := own_fr hof hn (fun _ _ h => h)
    replace hra2 := hra2.new hn
    clear hn
    have hH91 := hH87.drew
    clear hH87
    generalize World.drew w87 = w91 at *
    refine hV (fuel := 7) (i := 0) (Value.slice Af (fixL (l.take (min k n))).length cf) he90 rfl rfl rfl (by kernel_rfl) (by kernel_rfl) (by kernel_rfl) (fun _ _ _ h => h) (wanted_plain rfl _) (fun w' _ => rn_mv rfl (he90.op rfl) w') (hH91.drop1 0 rfl) ?_
    intro a92 he92
    clear he90 a89
    refine hV (fuel := 6) (i := 1) (Value.slice Aa (List.replicate (k - n) eC).length ca) he92 rfl rfl rfl (by kernel_rfl) (by kernel_rfl) (by kernel_rfl) (fun _ _ _ h => h) (wanted_plain rfl _) (fun w' _ => rn_mv rfl (he92.op rfl) w') (hH91.drop1 0 rfl) ?_
    intro a93 he93
    clear he92 a92
    refine hV (fuel := 5) (i := 3) (Value.pointer (some ⟨p1, 1, none⟩)) he93 rfl rfl rfl (by kernel_rfl) (by kernel_rfl) (by kernel_rfl) (fun _ _ _ h => h) (wanted_plain rfl _) (fun w' _ => rn_faL1 rfl (he93.op rfl) rfl w') (hH91.drop1 0 rfl) ?_
    intro a94 he94
    clear he93 a93
    refine hV (fuel := 4) (i := 4) (Value.bool so) he94 rfl rfl rfl (by kernel_rfl) (by kernel_rfl) (by kernel_rfl) (fun _ _ _ h => h) (wanted_plain rfl _) (fun w' hw' => rn_ldB rfl (he94.op rfl) (hw'.at (i := 0) rfl) rfl) (hH91.drop1 0 rfl) ?_
    intro a95 he95
    clear he94 a94
    have hbs := hH91.new.size
    refine hEx (fuel := 3) (i := 2) he95 (by kernel_rfl) rfl rfl rfl (wanted_plain rfl _) (rx_append hof hra2 rfl (he95.op rfl) (he95.op rfl) (by omega) hH91.new.size) ?_
    rintro vx wx ⟨hox, hgx, horx⟩
    have hHx := hH91.ownC hof hgx (Nat.le_refl _) (by kernel_rfl)
    refine ⟨(hHx.drop1 0 rfl), ?_⟩
    intro a96 he96
    clear he95 a95
    clear hof hgx horx hra2
    have hq_ := own_shape hox
    clear hox
    obtain ⟨Ax, cx, rfl, hox⟩ := hq_
    refine hV (fuel := 2) (i := 5) (Value.agg #[Value.slice Ax (fixL (l.take (min k n)) ++ List.replicate (k - n) eC).length cx, Value.bool so]) he96 rfl rfl rfl (by kernel_rfl) (by kernel_rfl) (by kernel_rfl) (fun _ _ _ h => h) (wanted_plain rfl _) (fun w' _ => rn_bL01 rfl (he96.op rfl) (he96.op rfl) w') (hHx.drop1 0 rfl) ?_
    intro a97 he97
    clear he96 a96
    refine hSetV (fuel := 1) (n := 6) 0 #[Value.slice Ax (fixL (l.take (min k n)) ++ List.replicate (k - n) eC).length cx, Value.bool so] (cs := #[Value.slice Ax (fixL (l.take (min k n)) ++ List.replicate (k - n) eC).length cx, Value.bool so]) he97 hHx (by kernel_rfl) rfl rfl (wanted_plain rfl _) rfl rfl rfl rfl rfl (by kernel_rfl) (by kernel_rfl) (by kernel_rfl) rfl ?_
    intro w98 a99 hH98 hf he99
    replace hox := own_fr hox hf (fun k_ hk_ e_ => own_far hox (hHx.at (i := 0) rfl) (show 60 ≠ 27 from by decide) (hk_.trans (congrArg some e_)))
    replace hH98 : Hp w [⟨p3, 27, #[Value.slice Ax (fixL (l.take (min k n)) ++ List.replicate (k - n) eC).length cx, Value.bool so]⟩, ⟨p1, 27, #[Value.slice A n cap, Value.bool so]⟩] w98 := hH98
    refine ⟨(hH98.drop1 0 rfl), ?_⟩
    clear hf
    clear he97 a97 hHx
    refine hV (fuel := 0) (i := 7) (Value.int .i64 0) he99 rfl rfl rfl (by kernel_rfl) (by kernel_rfl) (by kernel_rfl) (fun _ _ _ h => h) (wanted_plain rfl _) (fun w' _ => rn_asg rfl (he99.op rfl) w') (hH98.drop1 0 rfl) ?_
    intro a100 he100
    clear he99 a99
    refine wpAnyH_done (by kernel_rfl) ?_ _
    refine then_ok ?_
    refine wp_ret ?_
    try simp only [Exit.then, Exit.inBlock]
    exact ret_rowt rfl he100 rfl rfl (hH98.at (i := 0) rfl) undL rfl infoL2 (le_said hox hfit hH98.new)

end Go.Proofs.YtjcpdldaimebbaaDoor
namespace Go.Proofs.YtjcpdldaimebbaaDoor
open Go.RowKit

set_option linter.unusedSimpArgs false in
set_option maxRecDepth 100000 in
set_option maxHeartbeats 1600000 in
theorem LTrim_any (l : List Ce) (n b cap : Nat) (A : Option Addr) (so : Bool) (w : World) (hr : RdC w b A n l) (hc : n ≤ cap) (hn : n ≤ 1000000) (hT : Tab w) :
    Calls Tryd.prog 30 #[.agg #[.slice A n cap, .bool so]] w (LeSaid (trimR l so) w) := by
  refine calls_args (vl := [Value.agg #[Value.slice A n cap, Value.bool so]]) 10 Tryd.func30 rfl Tryd.ntmps30 (by kernel_rfl) (fun a he => ?_)
  have he0 : Env 10 [(0, Value.agg #[Value.slice A n cap, Value.bool so])] a := he
  clear he
  have hH := Hp.start w
  refine wp_seq ?_
  refine wp_region_lit ?_
  refine lNew (fun p => .pointer (some ⟨p, 0, none⟩)) he0 hH rfl rfl (wanted_plain rfl _) (rn_boxL rfl (he0.op rfl) w) ?_
  intro p1 w1 a2 hn hH1 he2
  clear he0 a hH hn
  refine lNew (fun p => .pointer (some ⟨p, 0, none⟩)) he2 hH1 rfl rfl (wanted_plain rfl _) (rn_allocL rfl w1) ?_
  intro p3 w3 a4 hn hH3 he4
  clear he2 a2 hH1 hn
  refine lV (Value.int .i64 0) he4 rfl rfl (wanted_plain rfl _) (rn_asg rfl (he4.op rfl) w3) ?_
  intro a5 he5
  clear he4 a4
  refine wpList_nil ?_
  refine then_ok ?_
  refine wp_seq ?_
  refine wp_region_held_drew (S := Hp w [⟨p1, 27, #[Value.slice A n cap, Value.bool so]⟩]) (by kernel_rfl) ((hH3.drew).drop1 0 rfl) (fun _ => ?_)
  have hn : New w3 (World.drew w3) := (Fr.refl _ _).drew
  clear hn
  have hH6 := hH3.drew
  clear hH3
  generalize World.drew w3 = w6 at *
  refine hV (fuel := 7) (i := 0) (Value.agg #[Value.slice A n cap, Value.bool so]) he5 rfl rfl rfl (by kernel_rfl) (by kernel_rfl) (by kernel_rfl) (fun _ _ _ h => h) (wanted_plain rfl _) (fun w' hw' => rn_ldp [Value.slice A n cap, Value.bool so] rfl (he5.op rfl) undL rfl infoL2 (hw'.at (i := 0) rfl) rfl) (hH6.drop1 0 rfl) ?_
  intro a7 he7
  clear he5 a5
  refine hV (fuel := 6) (i := 1) (Value.agg #[Value.slice A n cap, Value.bool so]) he7 rfl rfl rfl (by kernel_rfl) (by kernel_rfl) (by kernel_rfl) (fun _ _ _ h => h) (wanted_plain rfl _) (fun w' hw' => rn_ldp [Value.slice A n cap, Value.bool so] rfl (he7.op rfl) undL rfl infoL2 (hw'.at (i := 0) rfl) rfl) (hH6.drop1 0 rfl) ?_
  intro a8 he8
  clear he7 a7
  refine hC (fuel := 5) (i := 2) he8 (by kernel_rfl) rfl rfl rfl Tryd.func20 (by kernel_rfl) rfl rfl (wanted_plain rfl _) rfl (LUsed_any l n b cap A so w6 (hr.new hH6.new) hn) ?_
  rintro _ w9 ⟨rfl, hn⟩
  have hH9 := hH6.call hn
  refine ⟨_, rfl, (hH9.drop1 0 rfl), ?_⟩
  intro a10 he10
  clear he8 a8 hH6 hn
  have hzhof := hH9.new.size
  refine hC (fuel := 4) (i := 3) he10 (by kernel_rfl) rfl rfl rfl Tryd.func32 (by kernel_rfl) rfl rfl (wanted_plain rfl _) rfl (LFit_any l n b cap A so (usedN l : Nat) w9 (hr.new hH9.new) hc (hT.new hH9.new)) ?_
  rintro _ w11 ⟨⟨Af, cf, rfl, hof⟩, hn⟩
  replace hof := own_base hof (fun k_ hk_ => Nat.le_trans hzhof (own_blk hof k_ hk_))
  clear hzhof
  have hH11 := hH9.call hn
  refine ⟨_, rfl, (hH11.drop1 0 rfl), ?_⟩
  intro a12 he12
  clear he10 a10 hH9 hn
  refine hV (fuel := 3) (i := 4) (Value.agg #[Value.slice Af ((trimR l so).L).length cf, Value.bool ((trimR l so).s)]) he12 rfl rfl rfl (by kernel_rfl) (by kernel_rfl) (by kernel_rfl) (fun _ _ _ h => h) (wanted_plain rfl _) (fun w' _ => rn_ext rfl (he12.op rfl) rfl w') (hH11.drop1 0 rfl) ?_
  intro a13 he13
  clear he12 a12
  refine hV (fuel := 2) (i := 5) (Value.int .i64 ((trimR l so).e)) he13 rfl rfl rfl (by kernel_rfl) (by kernel_rfl) (by kernel_rfl) (fun _ _ _ h => h) (wanted_plain rfl _) (fun w' _ => rn_ext rfl (he13.op rfl) rfl w') (hH11.drop1 0 rfl) ?_
  intro a14 he14
  clear he13 a13
  refine hSetV (fuel := 1) (n := 6) 0 #[Value.slice Af ((trimR l so).L).length cf, Value.bool ((trimR l so).s)] (cs := #[Value.slice Af ((trimR l so).L).length cf, Value.bool ((trimR l so).s)]) he14 hH11 (by kernel_rfl) rfl rfl (wanted_plain rfl _) rfl rfl rfl rfl rfl (by kernel_rfl) (by kernel_rfl) (by kernel_rfl) rfl ?_
  intro w15 a16 hH15 hf he16
  replace hof := own_fr hof hf (fun k_ hk_ e_ => own_far hof (hH11.at (i := 0) rfl) (show 60 ≠ 27 from by decide) (hk_.trans (congrArg some e_)))
  replace hH15 : Hp w [⟨p3, 27, #[Value.slice Af ((trimR l so).L).length cf, Value.bool ((trimR l so).s)]⟩, ⟨p1, 27, #[Value.slice A n cap, Value.bool so]⟩] w15 := hH15
  refine ⟨(hH15.drop1 0 rfl), ?_⟩
  clear hf
  clear he14 a14 hH11
  refine hV (fuel := 0) (i := 7) (Value.int .i64 ((trimR l so).e)) he16 rfl rfl rfl (by kernel_rfl) (by kernel_rfl) (by kernel_rfl) (fun _ _ _ h => h) (wanted_plain rfl _) (fun w' _ => rn_asg rfl (he16.op rfl) w') (hH15.drop1 0 rfl) ?_
  intro a17 he17
  clear he16 a16
  refine wpAnyH_done (by kernel_rfl) ?_ _
  refine then_ok ?_
  refine wp_ret ?_
  try simp only [Exit.then, Exit.inBlock]
  exact ret_rowt rfl he17 rfl rfl (hH15.at (i := 0) rfl) undL rfl infoL2 (le_said hof rfl hH15.new)

set_option linter.unusedSimpArgs false in
set_option maxRecDepth 100000 in
set_option maxHeartbeats 1600000 in
theorem LNew_any (col : Int) (w : World) (hT : Tab w) :
    Calls Tryd.prog 40 #[.int .i64 col] w (LeSaid (newR col) w) := by
  refine calls_args (vl := [Value.int .i64 col]) 9 Tryd.func40 rfl Tryd.ntmps40 (by kernel_rfl) (fun a he => ?_)
  have he0 : Env 9 [(0, Value.int .i64 col)] a := he
  clear he
  have hH := Hp.start w
  refine wp_seq ?_
  refine wp_region_lit ?_
  refine lNew (fun p => .pointer (some ⟨p, 0, none⟩)) he0 hH rfl rfl (wanted_plain rfl _) (rn_allocL rfl w) ?_
  intro p1 w1 a2 hn hH1 he2
  clear he0 a hH hn
  refine lV (Value.int .i64 0) he2 rfl rfl (wanted_plain rfl _) (rn_asg rfl (he2.op rfl) w1) ?_
  intro a3 he3
  clear he2 a2
  refine wpList_nil ?_
  refine then_ok ?_
  refine wp_seq ?_
  refine wp_region_lit ?_
  refine lV (Value.agg #[Value.slice none 0 0, Value.bool false]) he3 rfl rfl (wanted_plain rfl _) (rn_bL rfl  w1) ?_
  intro a4 he4
  clear he3 a3
  refine lV (Value.int .i64 col) he4 rfl rfl (wanted_plain rfl _) (rn_mv rfl (he4.op rfl) w1) ?_
  intro a5 he5
  clear he4 a4
  have hzhof := hH1.new.size
  refine lCx he5 rfl rfl Tryd.func32 (by kernel_rfl) rfl rfl (wanted_plain rfl _) rfl (LFit_any [] 0 0 0 none false col w1 (RdC.nil _ _ _) (Nat.le_refl _) (hT.new hH1.new)) ?_
  rintro _ w6 ⟨⟨Af, cf, rfl, hof⟩, hn⟩
  replace hof := own_base hof (fun k_ hk_ => Nat.le_trans hzhof (own_blk hof k_ hk_))
  clear hzhof
  refine ⟨_, rfl, ?_⟩
  intro a7 he7
  have hH6 := hH1.call hn
  clear he5 a5 hH1
  clear hn
  refine lV (Value.agg #[Value.slice Af ((newR col).L).length cf, Value.bool ((newR col).s)]) he7 rfl rfl (wanted_plain rfl _) (rn_ext rfl (he7.op rfl) rfl w6) ?_
  intro a8 he8
  clear he7 a7
  refine lV (Value.int .i64 ((newR col).e)) he8 rfl rfl (wanted_plain rfl _) (rn_ext rfl (he8.op rfl) rfl w6) ?_
  intro a9 he9
  clear he8 a8
  refine lSetF 0 #[Value.slice Af ((newR col).L).length cf, Value.bool ((newR col).s)] (cs := #[Value.slice Af ((newR col).L).length cf, Value.bool ((newR col).s)]) he9 hH6 rfl (wanted_plain rfl _) rfl rfl rfl rfl rfl (by kernel_rfl) (by kernel_rfl) (by kernel_rfl) rfl ?_
  intro w10 a11 hH10 hf he11
  replace hof := own_fr hof hf (fun k_ hk_ e_ => own_far hof (hH6.at (i := 0) rfl) (show 60 ≠ 27 from by decide) (hk_.trans (congrArg some e_)))
  replace hH10 : Hp w [⟨p1, 27, #[Value.slice Af ((newR col).L).length cf, Value.bool ((newR col).s)]⟩] w10 := hH10
  clear hf
  clear he9 a9 hH6
  refine lV (Value.int .i64 ((newR col).e)) he11 rfl rfl (wanted_plain rfl _) (rn_asg rfl (he11.op rfl) w10) ?_
  intro a12 he12
  clear he11 a11
  refine wpList_nil ?_
  refine then_ok ?_
  refine wp_ret ?_
  try simp only [Exit.then, Exit.inBlock]
  exact ret_rowt rfl he12 rfl rfl (hH10.at (i := 0) rfl) undL rfl infoL2 (le_said hof rfl hH10.new)

set_option linter.unusedSimpArgs false in
set_option maxRecDepth 100000 in
set_option maxHeartbeats 1600000 in
theorem LCopy_any (l : List Ce) (n b cap : Nat) (A : Option Addr) (so : Bool) (w : World) (hr : RdC w b A n l) (hn : n ≤ 1000000) :
    Calls Tryd.prog 27 #[.agg #[.slice A n cap, .bool so]] w (LnSaid l so w) := by
  refine calls_args (vl := [Value.agg #[Value.slice A n cap, Value.bool so]]) 9 Tryd.func27 rfl Tryd.ntmps27 (by kernel_rfl) (fun a he => ?_)
  have he0 : Env 9 [(0, Value.agg #[Value.slice A n cap, Value.bool so])] a := he
  clear he
  have hH := Hp.start w
  refine wp_seq ?_
  refine wp_region_lit ?_
  refine lNew (fun p => .pointer (some ⟨p, 0, none⟩)) he0 hH rfl rfl (wanted_plain rfl _) (rn_boxL rfl (he0.op rfl) w) ?_
  intro p1 w1 a2 hn hH1 he2
  clear he0 a hH hn
  refine lNew (fun p => .pointer (some ⟨p, 0, none⟩)) he2 hH1 rfl rfl (wanted_plain rfl _) (rn_allocL rfl w1) ?_
  intro p3 w3 a4 hn hH3 he4
  clear he2 a2 hH1 hn
  refine wpList_nil ?_
  refine then_ok ?_
  refine wp_seq ?_
  refine wp_region_held_drew (S := Hp w [⟨p1, 27, #[Value.slice A n cap, Value.bool so]⟩]) (by kernel_rfl) ((hH3.drew).drop1 0 rfl) (fun _ => ?_)
  have hn : New w3 (World.drew w3) := (Fr.refl _ _).drew
  clear hn
  have hH5 := hH3.drew
  clear hH3
  generalize World.drew w3 = w5 at *
  refine hV (fuel := 6) (i := 0) (Value.pointer (some ⟨p1, 0, none⟩)) he4 rfl rfl rfl (by kernel_rfl) (by kernel_rfl) (by kernel_rfl) (fun _ _ _ h => h) (wanted_plain rfl _) (fun w' _ => rn_faL0 rfl (he4.op rfl) rfl w') (hH5.drop1 0 rfl) ?_
  intro a6 he6
  clear he4 a4
  refine hV (fuel := 5) (i := 1) (Value.slice A n cap) he6 rfl rfl rfl (by kernel_rfl) (by kernel_rfl) (by kernel_rfl) (fun _ _ _ h => h) (wanted_plain rfl _) (fun w' hw' => rn_ldS rfl (he6.op rfl) (hw'.at (i := 0) rfl) rfl) (hH5.drop1 0 rfl) ?_
  intro a7 he7
  clear he6 a6
  refine hV (fuel := 4) (i := 3) (Value.pointer (some ⟨p1, 1, none⟩)) he7 rfl rfl rfl (by kernel_rfl) (by kernel_rfl) (by kernel_rfl) (fun _ _ _ h => h) (wanted_plain rfl _) (fun w' _ => rn_faL1 rfl (he7.op rfl) rfl w') (hH5.drop1 0 rfl) ?_
  intro a8 he8
  clear he7 a7
  refine hV (fuel := 3) (i := 4) (Value.bool so) he8 rfl rfl rfl (by kernel_rfl) (by kernel_rfl) (by kernel_rfl) (fun _ _ _ h => h) (wanted_plain rfl _) (fun w' hw' => rn_ldB rfl (he8.op rfl) (hw'.at (i := 0) rfl) rfl) (hH5.drop1 0 rfl) ?_
  intro a9 he9
  clear he8 a8
  have hzhof := hH5.new.size
  refine hC (fuel := 2) (i := 2) he9 (by kernel_rfl) rfl rfl rfl Tryd.func47 (by kernel_rfl) rfl rfl (wanted_plain rfl _) rfl (CloneC_any l n b cap A w5 (hr.new hH5.new) hn) ?_
  rintro _ w10 ⟨⟨Af, cf, rfl, hof⟩, hn⟩
  replace hof := own_base hof (fun k_ hk_ => Nat.le_trans hzhof (own_blk hof k_ hk_))
  clear hzhof
  have hH10 := hH5.call hn
  refine ⟨_, rfl, (hH10.drop1 0 rfl), ?_⟩
  intro a11 he11
  clear he9 a9 hH5 hn
  refine hV (fuel := 1) (i := 5) (Value.agg #[Value.slice Af l.length cf, Value.bool so]) he11 rfl rfl rfl (by kernel_rfl) (by kernel_rfl) (by kernel_rfl) (fun _ _ _ h => h) (wanted_plain rfl _) (fun w' _ => rn_bL01 rfl (he11.op rfl) (he11.op rfl) w') (hH10.drop1 0 rfl) ?_
  intro a12 he12
  clear he11 a11
  refine hSetV (fuel := 0) (n := 6) 0 #[Value.slice Af l.length cf, Value.bool so] (cs := #[Value.slice Af l.length cf, Value.bool so]) he12 hH10 (by kernel_rfl) rfl rfl (wanted_plain rfl _) rfl rfl rfl rfl rfl (by kernel_rfl) (by kernel_rfl) (by kernel_rfl) rfl ?_
  intro w13 a14 hH13 hf he14
  replace hof := own_fr hof hf (fun k_ hk_ e_ => own_far hof (hH10.at (i := 0) rfl) (show 60 ≠ 27 from by decide) (hk_.trans (congrArg some e_)))
  replace hH13 : Hp w [⟨p3, 27, #[Value.slice Af l.length cf, Value.bool so]⟩, ⟨p1, 27, #[Value.slice A n cap, Value.bool so]⟩] w13 := hH13
  refine ⟨(hH13.drop1 0 rfl), ?_⟩
  clear hf
  clear he12 a12 hH10
  refine wpAnyH_done (by kernel_rfl) ?_ _
  refine then_ok ?_
  refine wp_ret ?_
  try simp only [Exit.then, Exit.inBlock]
  exact ret_row rfl he14 rfl (hH13.at (i := 0) rfl) undL rfl infoL2 ⟨⟨_, _, rfl, hof⟩, hH13.new⟩

set_option linter.unusedSimpArgs false in
set_option maxRecDepth 100000 in
set_option maxHeartbeats 1600000 in
theorem LOf_any (l : List Ce) (n b cap : Nat) (A : Option Addr) (so : Bool) (w : World) (hr : RdC w b A n l) (hT : Tab w) :
    Calls Tryd.prog 16 #[.slice A n cap, .bool so] w (LeSaid (ofR l so) w) := by
  have hl := hr.1
  refine calls_args (vl := [Value.slice A n cap, Value.bool so]) 16 Tryd.func16 rfl Tryd.ntmps16 (by kernel_rfl) (fun a he => ?_)
  have he0 : Env 16 [(0, Value.slice A n cap), (1, Value.bool so)] a := he
  clear he
  have hH := Hp.start w
  refine wp_seq ?_
  refine wp_region_lit ?_
  refine lNew (fun p => .pointer (some ⟨p, 0, none⟩)) he0 hH rfl rfl (wanted_plain rfl _) (rn_allocL rfl w) ?_
  intro p1 w1 a2 hn hH1 he2
  clear he0 a hH hn
  refine lV (Value.int .i64 0) he2 rfl rfl (wanted_plain rfl _) (rn_asg rfl (he2.op rfl) w1) ?_
  intro a3 he3
  clear he2 a2
  refine wpList_nil ?_
  refine then_ok ?_
  refine wp_seq ?_
  refine wp_region_lit ?_
  refine lV (Value.slice A n cap) he3 rfl rfl (wanted_plain rfl _) (rn_mv rfl (he3.op rfl) w1) ?_
  intro a4 he4
  clear he3 a3
  refine lV (Value.bool so) he4 rfl rfl (wanted_plain rfl _) (rn_mv rfl (he4.op rfl) w1) ?_
  intro a5 he5
  clear he4 a4
  refine lV (Value.agg #[Value.slice A n cap, Value.bool so]) he5 rfl rfl (wanted_plain rfl _) (rn_bL01 rfl (he5.op rfl) (he5.op rfl) w1) ?_
  intro a6 he6
  clear he5 a5
  refine lNew (fun p => .pointer (some ⟨p, 0, none⟩)) he6 hH1 rfl rfl (wanted_plain rfl _) (rn_allocL rfl w1) ?_
  intro p7 w7 a8 hn hH7 he8
  clear he6 a6 hH1 hn
  refine lSetF 0 #[Value.slice A n cap, Value.bool so] (cs := #[Value.slice A n cap, Value.bool so]) he8 hH7 rfl (wanted_plain rfl _) rfl rfl rfl rfl rfl (by kernel_rfl) (by kernel_rfl) (by kernel_rfl) rfl ?_
  intro w9 a10 hH9 hf he10
  replace hH9 : Hp w [⟨p7, 27, #[Value.slice A n cap, Value.bool so]⟩, ⟨p1, 27, #[Value.slice none 0 0, Value.bool false]⟩] w9 := hH9
  clear hf
  clear he8 a8 hH7
  refine wpList_nil ?_
  refine then_ok ?_
  obtain ⟨v, hv⟩ : ∃ v, okL l = v := ⟨_, rfl⟩
  cases v with
  | false =>
    refine wp_seq ?_
    refine wp_seq ?_
    refine wp_region_lit ?_
    refine lV (Value.agg #[Value.slice A n cap, Value.bool so]) he10 rfl rfl (wanted_plain rfl _) (rn_ldp [Value.slice A n cap, Value.bool so] rfl (he10.op rfl) undL rfl infoL2 (hH9.at (i := 0) rfl) rfl) ?_
    intro a11 he11
    clear he10 a10
    refine lC he11 rfl rfl Tryd.func13 (by kernel_rfl) rfl rfl (wanted_plain rfl _) rfl (LValid_b l n b cap A so false hv w9 (hr.new hH9.new) (hT.new hH9.new)) ?_
    intro w12 a13 hn he13
    have hH12 := hH9.call hn
    clear he11 a11 hH9 hn
    refine lV (Value.bool true) he13 rfl rfl (wanted_plain rfl _) (rn_not (b := false) rfl (he13.op rfl) w12) ?_
    intro a14 he14
    clear he13 a13
    refine wpList_nil ?_
    refine then_ok ?_
    refine wp_cond_true (he14.op rfl) ?_
    refine wp_seq ?_
    refine wp_region_lit ?_
    refine lV (Value.agg #[Value.slice none 0 0, Value.bool false]) he14 rfl rfl (wanted_plain rfl _) (rn_bL rfl  w12) ?_
    intro a15 he15
    clear he14 a14
    refine lSetF 1 #[Value.slice none 0 0, Value.bool false] (cs := #[Value.slice none 0 0, Value.bool false]) he15 hH12 rfl (wanted_plain rfl _) rfl rfl rfl rfl rfl (by kernel_rfl) (by kernel_rfl) (by kernel_rfl) rfl ?_
    intro w16 a17 hH16 hf he17
    replace hH16 : Hp w [⟨p7, 27, #[Value.slice A n cap, Value.bool so]⟩, ⟨p1, 27, #[Value.slice none 0 0, Value.bool false]⟩] w16 := hH16
    clear hf
    clear he15 a15 hH12
    refine lV (Value.int .i64 2) he17 rfl rfl (wanted_plain rfl _) (rn_asg rfl (he17.op rfl) w16) ?_
    intro a18 he18
    clear he17 a17
    refine wpList_nil ?_
    refine then_ok ?_
    refine wp_ret ?_
    try simp only [Exit.then, Exit.inBlock]
    exact ret_rowt rfl he18 rfl rfl (hH16.at (i := 1) rfl) undL rfl infoL2 (le_zero (by rw [ofR, if_neg (by rw [hv]; decide)]) hH16.new)
  | true =>
    refine wp_seq ?_
    refine wp_seq ?_
    refine wp_region_lit ?_
    refine lV (Value.agg #[Value.slice A n cap, Value.bool so]) he10 rfl rfl (wanted_plain rfl _) (rn_ldp [Value.slice A n cap, Value.bool so] rfl (he10.op rfl) undL rfl infoL2 (hH9.at (i := 0) rfl) rfl) ?_
    intro a19 he19
    clear he10 a10
    refine lC he19 rfl rfl Tryd.func13 (by kernel_rfl) rfl rfl (wanted_plain rfl _) rfl (LValid_b l n b cap A so true hv w9 (hr.new hH9.new) (hT.new hH9.new)) ?_
    intro w20 a21 hn he21
    have hH20 := hH9.call hn
    clear he19 a19 hH9 hn
    refine lV (Value.bool false) he21 rfl rfl (wanted_plain rfl _) (rn_not (b := true) rfl (he21.op rfl) w20) ?_
    intro a22 he22
    clear he21 a21
    refine wpList_nil ?_
    refine then_ok ?_
    refine wp_cond_false (he22.op rfl) ?_
    refine wp_skip ?_
    refine then_ok ?_
    refine wp_seq ?_
    refine wp_region_lit ?_
    refine lV (Value.agg #[Value.slice A n cap, Value.bool so]) he22 rfl rfl (wanted_plain rfl _) (rn_ldp [Value.slice A n cap, Value.bool so] rfl (he22.op rfl) undL rfl infoL2 (hH20.at (i := 0) rfl) rfl) ?_
    intro a23 he23
    clear he22 a22
    have hzhof := hH20.new.size
    refine lCx he23 rfl rfl Tryd.func27 (by kernel_rfl) rfl rfl (wanted_plain rfl _) rfl (LCopy_any l n b cap A so w20 (hr.new hH20.new) (by have := okL_len hv; omega)) ?_
    rintro _ w24 ⟨⟨Af, cf, rfl, hof⟩, hn⟩
    replace hof := own_base hof (fun k_ hk_ => Nat.le_trans hzhof (own_blk hof k_ hk_))
    clear hzhof
    refine ⟨_, rfl, ?_⟩
    intro a25 he25
    have hH24 := hH20.call hn
    clear he23 a23 hH20
    clear hn
    refine lSetF 1 #[Value.slice Af l.length cf, Value.bool so] (cs := #[Value.slice Af l.length cf, Value.bool so]) he25 hH24 rfl (wanted_plain rfl _) rfl rfl rfl rfl rfl (by kernel_rfl) (by kernel_rfl) (by kernel_rfl) rfl ?_
    intro w26 a27 hH26 hf he27
    replace hof := own_fr hof hf (fun k_ hk_ e_ => own_far hof (hH24.at (i := 1) rfl) (show 60 ≠ 27 from by decide) (hk_.trans (congrArg some e_)))
    replace hH26 : Hp w [⟨p7, 27, #[Value.slice A n cap, Value.bool so]⟩, ⟨p1, 27, #[Value.slice Af l.length cf, Value.bool so]⟩] w26 := hH26
    clear hf
    clear he25 a25 hH24
    refine lV (Value.int .i64 0) he27 rfl rfl (wanted_plain rfl _) (rn_asg rfl (he27.op rfl) w26) ?_
    intro a28 he28
    clear he27 a27
    refine wpList_nil ?_
    refine then_ok ?_
    refine wp_ret ?_
    try simp only [Exit.then, Exit.inBlock]
    exact ret_rowt rfl he28 rfl rfl (hH26.at (i := 1) rfl) undL rfl infoL2 (le_said hof (by rw [ofR, if_pos hv]) hH26.new)

set_option linter.unusedSimpArgs false in
set_option maxRecDepth 100000 in
set_option maxHeartbeats 1600000 in
theorem LEqual_b (la lb : List Ce) (na nb ba bb ca cb : Nat) (A B : Option Addr) (sa sb v : Bool) (hv : ((sa == sb) && decide (la = lb)) = v) (w : World) (ha : RdC w ba A na la) (hb : RdC w bb B nb lb) (h1 : na ≤ 1000000) (h2 : nb ≤ 1000000) :
    Calls Tryd.prog 24 #[.agg #[.slice A na ca, .bool sa], .agg #[.slice B nb cb, .bool sb]] w fun e w' => e = .returned (.bool v) ∧ New w w' := by
  refine calls_args (vl := [Value.agg #[Value.slice A na ca, Value.bool sa], Value.agg #[Value.slice B nb cb, Value.bool sb]]) 17 Tryd.func24 rfl Tryd.ntmps24 (by kernel_rfl) (fun a he => ?_)
  have he0 : Env 17 [(0, Value.agg #[Value.slice A na ca, Value.bool sa]), (1, Value.agg #[Value.slice B nb cb, Value.bool sb])] a := he
  clear he
  have hH := Hp.start w
  refine wp_seq ?_
  refine wp_region_lit ?_
  refine lNew (fun p => .pointer (some ⟨p, 0, none⟩)) he0 hH rfl rfl (wanted_plain rfl _) (rn_boxL rfl (he0.op rfl) w) ?_
  intro p1 w1 a2 hn hH1 he2
  clear he0 a hH hn
  refine lNew (fun p => .pointer (some ⟨p, 0, none⟩)) he2 hH1 rfl rfl (wanted_plain rfl _) (rn_boxL rfl (he2.op rfl) w1) ?_
  intro p3 w3 a4 hn hH3 he4
  clear he2 a2 hH1 hn
  refine lV (Value.bool false) he4 rfl rfl (wanted_plain rfl _) (rn_asg rfl (he4.op rfl) w3) ?_
  intro a5 he5
  clear he4 a4
  refine wpList_nil ?_
  refine then_ok ?_
  obtain ⟨e, he⟩ : ∃ e, (sa == sb) = e := ⟨_, rfl⟩
  rw [he] at hv
  cases e with
  | false =>
    have hw : v = false := by simpa using hv.symm
    subst hw
    refine wp_seq ?_
    refine wp_region_lit ?_
    refine lV (Value.pointer (some ⟨p1, 1, none⟩)) he5 rfl rfl (wanted_plain rfl _) (rn_faL1 rfl (he5.op rfl) rfl w3) ?_
    intro a6 he6
    clear he5 a5
    refine lV (Value.bool sa) he6 rfl rfl (wanted_plain rfl _) (rn_ldB rfl (he6.op rfl) (hH3.at (i := 1) rfl) rfl) ?_
    intro a7 he7
    clear he6 a6
    refine lV (Value.pointer (some ⟨p3, 1, none⟩)) he7 rfl rfl (wanted_plain rfl _) (rn_faL1 rfl (he7.op rfl) rfl w3) ?_
    intro a8 he8
    clear he7 a7
    refine lV (Value.bool sb) he8 rfl rfl (wanted_plain rfl _) (rn_ldB rfl (he8.op rfl) (hH3.at (i := 0) rfl) rfl) ?_
    intro a9 he9
    clear he8 a8
    refine lV (Value.bool false) he9 rfl rfl (wanted_plain rfl _) (rn_eqB rfl (he9.op rfl) (he9.op rfl) he w3) ?_
    intro a10 he10
    clear he9 a9
    refine lV (Value.bool false) he10 rfl rfl (wanted_plain rfl _) (rn_mv rfl (he10.op rfl) w3) ?_
    intro a11 he11
    clear he10 a10
    refine lSkip he11 rfl rfl (he11.wantNot rfl rfl rfl rfl rfl rfl) ?_
    intro a12 he12
    clear he11 a11
    refine lSkip he12 rfl rfl (he12.wantNot rfl rfl rfl rfl rfl rfl) ?_
    intro a13 he13
    clear he12 a12
    refine lSkip he13 rfl rfl (he13.wantNot rfl rfl rfl rfl rfl rfl) ?_
    intro a14 he14
    clear he13 a13
    refine lSkip he14 rfl rfl (he14.wantNot rfl rfl rfl rfl rfl rfl) ?_
    intro a15 he15
    clear he14 a14
    refine lSkip he15 rfl rfl (he15.wantNot rfl rfl rfl rfl rfl rfl) ?_
    intro a16 he16
    clear he15 a15
    refine lV (Value.bool false) he16 rfl rfl (wanted_plain rfl _) (rn_pk0 rfl (he16.op rfl) (he16.op rfl) w3) ?_
    intro a17 he17
    clear he16 a16
    refine lV (Value.bool false) he17 rfl rfl (wanted_plain rfl _) (rn_asg rfl (he17.op rfl) w3) ?_
    intro a18 he18
    clear he17 a17
    refine wpList_nil ?_
    refine then_ok ?_
    refine wp_ret ?_
    try simp only [Exit.then, Exit.inBlock, Exit.noGoto]
    exact ret_env rfl he18 rfl ⟨rfl, hH3.new⟩
  | true =>
    have hw : decide (la = lb) = v := by simpa using hv
    refine wp_seq ?_
    refine wp_region_lit ?_
    refine lV (Value.pointer (some ⟨p1, 1, none⟩)) he5 rfl rfl (wanted_plain rfl _) (rn_faL1 rfl (he5.op rfl) rfl w3) ?_
    intro a19 he19
    clear he5 a5
    refine lV (Value.bool sa) he19 rfl rfl (wanted_plain rfl _) (rn_ldB rfl (he19.op rfl) (hH3.at (i := 1) rfl) rfl) ?_
    intro a20 he20
    clear he19 a19
    refine lV (Value.pointer (some ⟨p3, 1, none⟩)) he20 rfl rfl (wanted_plain rfl _) (rn_faL1 rfl (he20.op rfl) rfl w3) ?_
    intro a21 he21
    clear he20 a20
    refine lV (Value.bool sb) he21 rfl rfl (wanted_plain rfl _) (rn_ldB rfl (he21.op rfl) (hH3.at (i := 0) rfl) rfl) ?_
    intro a22 he22
    clear he21 a21
    refine lV (Value.bool true) he22 rfl rfl (wanted_plain rfl _) (rn_eqB rfl (he22.op rfl) (he22.op rfl) he w3) ?_
    intro a23 he23
    clear he22 a22
    refine lV (Value.bool true) he23 rfl rfl (wanted_plain rfl _) (rn_mv rfl (he23.op rfl) w3) ?_
    intro a24 he24
    clear he23 a23
    refine lV (Value.pointer (some ⟨p1, 0, none⟩)) he24 rfl rfl (he24.want rfl rfl rfl rfl rfl) (rn_faL0 rfl (he24.op rfl) rfl w3) ?_
    intro a25 he25
    clear he24 a24
    refine lV (Value.slice A na ca) he25 rfl rfl (he25.want rfl rfl rfl rfl rfl) (rn_ldS rfl (he25.op rfl) (hH3.at (i := 1) rfl) rfl) ?_
    intro a26 he26
    clear he25 a25
    refine lV (Value.pointer (some ⟨p3, 0, none⟩)) he26 rfl rfl (he26.want rfl rfl rfl rfl rfl) (rn_faL0 rfl (he26.op rfl) rfl w3) ?_
    intro a27 he27
    clear he26 a26
    refine lV (Value.slice B nb cb) he27 rfl rfl (he27.want rfl rfl rfl rfl rfl) (rn_ldS rfl (he27.op rfl) (hH3.at (i := 0) rfl) rfl) ?_
    intro a28 he28
    clear he27 a27
    refine lC he28 rfl rfl Tryd.func46 (by kernel_rfl) rfl rfl (he28.want rfl rfl rfl rfl rfl) rfl (hw ▸ EqualC_any la lb na nb ba bb ca cb A B w3 (ha.new hH3.new) (hb.new hH3.new) h1 h2) ?_
    intro w29 a30 hn he30
    have hH29 := hH3.call hn
    clear he28 a28 hH3 hn
    refine lV (Value.bool v) he30 rfl rfl (wanted_plain rfl _) (rn_pk rfl (he30.op rfl) (he30.op rfl) w29) ?_
    intro a31 he31
    clear he30 a30
    refine lV (Value.bool v) he31 rfl rfl (wanted_plain rfl _) (rn_asg rfl (he31.op rfl) w29) ?_
    intro a32 he32
    clear he31 a31
    refine wpList_nil ?_
    refine then_ok ?_
    refine wp_ret ?_
    try simp only [Exit.then, Exit.inBlock, Exit.noGoto]
    exact ret_env rfl he32 rfl ⟨rfl, hH29.new⟩

set_option linter.unusedSimpArgs false in
set_option maxRecDepth 100000 in
set_option maxHeartbeats 1600000 in
theorem LText_b (l : List Ce) (n b cap : Nat) (A : Option Addr) (so : Bool) (t : ByteArray) (ht : runesBytes (textsC (l.take (usedN l))) = t) (w : World) (hr : RdC w b A n l) (hc : n ≤ cap) (hn : n ≤ 1000000) :
    Calls Tryd.prog 22 #[.agg #[.slice A n cap, .bool so]] w fun e w' => e = .returned (.string t) ∧ New w w' := by
  have hl := hr.1
  have hu := used_le l
  refine calls_args (vl := [Value.agg #[Value.slice A n cap, Value.bool so]]) 9 Tryd.func22 rfl Tryd.ntmps22 (by kernel_rfl) (fun a he => ?_)
  have he0 : Env 9 [(0, Value.agg #[Value.slice A n cap, Value.bool so])] a := he
  clear he
  have hH := Hp.start w
  refine wp_seq ?_
  refine wp_region_lit ?_
  refine lNew (fun p => .pointer (some ⟨p, 0, none⟩)) he0 hH rfl rfl (wanted_plain rfl _) (rn_boxL rfl (he0.op rfl) w) ?_
  intro p1 w1 a2 hn hH1 he2
  clear he0 a hH hn
  refine lV (Value.string { data := #[] }) he2 rfl rfl (wanted_plain rfl _) (rn_asg rfl (he2.op rfl) w1) ?_
  intro a3 he3
  clear he2 a2
  refine wpList_nil ?_
  refine then_ok ?_
  refine wp_seq ?_
  refine wp_region_held_drew (S := Hp w [⟨p1, 27, #[Value.slice A n cap, Value.bool so]⟩]) (by kernel_rfl) (hH1.drew) (fun _ => ?_)
  have hn : New w1 (World.drew w1) := (Fr.refl _ _).drew
  clear hn
  have hH4 := hH1.drew
  clear hH1
  generalize World.drew w1 = w4 at *
  refine hV (fuel := 6) (i := 0) (Value.pointer (some ⟨p1, 0, none⟩)) he3 rfl rfl rfl (by kernel_rfl) (by kernel_rfl) (by kernel_rfl) (fun _ _ _ h => h) (wanted_plain rfl _) (fun w' _ => rn_faL0 rfl (he3.op rfl) rfl w') hH4 ?_
  intro a5 he5
  clear he3 a3
  refine hV (fuel := 5) (i := 1) (Value.slice A n cap) he5 rfl rfl rfl (by kernel_rfl) (by kernel_rfl) (by kernel_rfl) (fun _ _ _ h => h) (wanted_plain rfl _) (fun w' hw' => rn_ldS rfl (he5.op rfl) (hw'.at (i := 0) rfl) rfl) hH4 ?_
  intro a6 he6
  clear he5 a5
  refine hV (fuel := 4) (i := 2) (Value.agg #[Value.slice A n cap, Value.bool so]) he6 rfl rfl rfl (by kernel_rfl) (by kernel_rfl) (by kernel_rfl) (fun _ _ _ h => h) (wanted_plain rfl _) (fun w' hw' => rn_ldp [Value.slice A n cap, Value.bool so] rfl (he6.op rfl) undL rfl infoL2 (hw'.at (i := 0) rfl) rfl) hH4 ?_
  intro a7 he7
  clear he6 a6
  refine hC (fuel := 3) (i := 3) he7 (by kernel_rfl) rfl rfl rfl Tryd.func20 (by kernel_rfl) rfl rfl (wanted_plain rfl _) rfl (LUsed_any l n b cap A so w4 (hr.new hH4.new) hn) ?_
  rintro _ w8 ⟨rfl, hn⟩
  have hH8 := hH4.call hn
  refine ⟨_, rfl, hH8, ?_⟩
  intro a9 he9
  clear he7 a7 hH4 hn
  obtain ⟨Ac, eAc, rAc⟩ := slh_rd (c := cap) (k := (usedN l)) (hr.new hH8.new) (by omega)
  refine hV (fuel := 2) (i := 4) (Value.slice Ac (usedN l) cap) he9 rfl rfl rfl (by kernel_rfl) (by kernel_rfl) (by kernel_rfl) (fun _ _ _ h => h) (wanted_plain rfl _) (fun w' _ => rn_slh (k := (usedN l)) rfl (he9.op rfl) (he9.op rfl) (by omega) eAc w') hH8 ?_
  intro a10 he10
  clear he9 a9
  refine hC (fuel := 1) (i := 5) he10 (by kernel_rfl) rfl rfl rfl Tryd.func44 (by kernel_rfl) rfl rfl (wanted_plain rfl _) rfl (ht ▸ CTexts_any _ _ _ _ _ w8 rAc (by omega)) ?_
  rintro _ w11 ⟨rfl, hn⟩
  have hH11 := hH8.call hn
  replace rAc := rAc.new hn
  refine ⟨_, rfl, hH11, ?_⟩
  intro a12 he12
  clear he10 a10 hH8 hn
  refine hV (fuel := 0) (i := 6) (Value.string t) he12 rfl rfl rfl (by kernel_rfl) (by kernel_rfl) (by kernel_rfl) (fun _ _ _ h => h) (wanted_plain rfl _) (fun w' _ => rn_asg rfl (he12.op rfl) w') hH11 ?_
  intro a13 he13
  clear he12 a12
  refine wpAnyH_done (by kernel_rfl) ?_ _
  refine then_ok ?_
  refine wp_ret ?_
  try simp only [Exit.then, Exit.inBlock, Exit.noGoto]
  exact ret_env rfl he13 rfl ⟨rfl, hH11.new⟩

set_option linter.unusedSimpArgs false in
set_option maxRecDepth 100000 in
set_option maxHeartbeats 1600000 in
theorem LPut_any (l : List Ce) (n b cap : Nat) (A : Option Addr) (so : Bool) (at_ : Int) (hat0 : -9223372036854775808 ≤ at_) (hat1 : at_ ≤ 9223372036854775807) (d : List Ce) (m bd cd : Nat) (D : Option Addr) (w : World) (hr : RdC w b A n l) (hc : n ≤ cap) (hd : RdC w bd D m d) (hm : m ≤ 100000) (hT : Tab w) :
    Calls Tryd.prog 35 #[.agg #[.slice A n cap, .bool so], .int .i64 at_, .slice D m cd] w (LeSaid (putR l so at_ d) w) := by
  have hl := hr.1
  have hld := hd.1
  refine calls_args (vl := [Value.agg #[Value.slice A n cap, Value.bool so], Value.int .i64 at_, Value.slice D m cd]) 53 Tryd.func35 rfl Tryd.ntmps35 (by kernel_rfl) (fun a he => ?_)
  have he0 : Env 53 [(0, Value.agg #[Value.slice A n cap, Value.bool so]), (1, Value.int .i64 at_), (2, Value.slice D m cd)] a := he
  clear he
  have hH := Hp.start w
  refine wp_seq ?_
  refine wp_region_lit ?_
  refine lNew (fun p => .pointer (some ⟨p, 0, none⟩)) he0 hH rfl rfl (wanted_plain rfl _) (rn_boxL rfl (he0.op rfl) w) ?_
  intro p1 w1 a2 hn hH1 he2
  clear he0 a hH hn
  refine lNew (fun p => .pointer (some ⟨p, 0, none⟩)) he2 hH1 rfl rfl (wanted_plain rfl _) (rn_allocL rfl w1) ?_
  intro p3 w3 a4 hn hH3 he4
  clear he2 a2 hH1 hn
  refine lV (Value.int .i64 0) he4 rfl rfl (wanted_plain rfl _) (rn_asg rfl (he4.op rfl) w3) ?_
  intro a5 he5
  clear he4 a4
  refine wpList_nil ?_
  refine then_ok ?_
  obtain ⟨v, hv⟩ : ∃ v, okL l = v := ⟨_, rfl⟩
  obtain ⟨u, hu⟩ : ∃ u, rowB d = u := ⟨_, rfl⟩
  cases v with
  | false =>
    refine wp_seq ?_
    refine wp_seq ?_
    refine wp_region_lit ?_
    refine lV (Value.agg #[Value.slice A n cap, Value.bool so]) he5 rfl rfl (wanted_plain rfl _) (rn_ldp [Value.slice A n cap, Value.bool so] rfl (he5.op rfl) undL rfl infoL2 (hH3.at (i := 1) rfl) rfl) ?_
    intro a6 he6
    clear he5 a5
    refine lC he6 rfl rfl Tryd.func13 (by kernel_rfl) rfl rfl (wanted_plain rfl _) rfl (LValid_b l n b cap A so false hv w3 (hr.new hH3.new) (hT.new hH3.new)) ?_
    intro w7 a8 hn he8
    have hH7 := hH3.call hn
    clear he6 a6 hH3 hn
    refine lV (Value.bool true) he8 rfl rfl (wanted_plain rfl _) (rn_not (b := false) rfl (he8.op rfl) w7) ?_
    intro a9 he9
    clear he8 a8
    refine lV (Value.bool true) he9 rfl rfl (wanted_plain rfl _) (rn_mv rfl (he9.op rfl) w7) ?_
    intro a10 he10
    clear he9 a9
    refine lSkip he10 rfl rfl (he10.wantNot rfl rfl rfl rfl rfl rfl) ?_
    intro a11 he11
    clear he10 a10
    refine lSkip he11 rfl rfl (he11.wantNot rfl rfl rfl rfl rfl rfl) ?_
    intro a12 he12
    clear he11 a11
    refine lSkip he12 rfl rfl (he12.wantNot rfl rfl rfl rfl rfl rfl) ?_
    intro a13 he13
    clear he12 a12
    refine lV (Value.bool true) he13 rfl rfl (wanted_plain rfl _) (rn_pk rfl (he13.op rfl) (he13.op rfl) w7) ?_
    intro a14 he14
    clear he13 a13
    refine wpList_nil ?_
    refine then_ok ?_
    refine wp_cond_true (he14.op rfl) ?_
    refine wp_seq ?_
    refine wp_region_lit ?_
    refine lV (Value.agg #[Value.slice none 0 0, Value.bool false]) he14 rfl rfl (wanted_plain rfl _) (rn_bL rfl  w7) ?_
    intro a15 he15
    clear he14 a14
    refine lSetF 0 #[Value.slice none 0 0, Value.bool false] (cs := #[Value.slice none 0 0, Value.bool false]) he15 hH7 rfl (wanted_plain rfl _) rfl rfl rfl rfl rfl (by kernel_rfl) (by kernel_rfl) (by kernel_rfl) rfl ?_
    intro w16 a17 hH16 hf he17
    replace hH16 : Hp w [⟨p3, 27, #[Value.slice none 0 0, Value.bool false]⟩, ⟨p1, 27, #[Value.slice A n cap, Value.bool so]⟩] w16 := hH16
    clear hf
    clear he15 a15 hH7
    refine lV (Value.int .i64 2) he17 rfl rfl (wanted_plain rfl _) (rn_asg rfl (he17.op rfl) w16) ?_
    intro a18 he18
    clear he17 a17
    refine wpList_nil ?_
    refine then_ok ?_
    refine wp_ret ?_
    try simp only [Exit.then, Exit.inBlock]
    exact ret_rowt rfl he18 rfl rfl (hH16.at (i := 0) rfl) undL rfl infoL2 (le_zero (by rw [putR, if_pos (by rw [hv]; rfl)]) hH16.new)
  | true =>
    cases u with
    | false =>
      refine wp_seq ?_
      refine wp_seq ?_
      refine wp_region_lit ?_
      refine lV (Value.agg #[Value.slice A n cap, Value.bool so]) he5 rfl rfl (wanted_plain rfl _) (rn_ldp [Value.slice A n cap, Value.bool so] rfl (he5.op rfl) undL rfl infoL2 (hH3.at (i := 1) rfl) rfl) ?_
      intro a19 he19
      clear he5 a5
      refine lC he19 rfl rfl Tryd.func13 (by kernel_rfl) rfl rfl (wanted_plain rfl _) rfl (LValid_b l n b cap A so true hv w3 (hr.new hH3.new) (hT.new hH3.new)) ?_
      intro w20 a21 hn he21
      have hH20 := hH3.call hn
      clear he19 a19 hH3 hn
      refine lV (Value.bool false) he21 rfl rfl (wanted_plain rfl _) (rn_not (b := true) rfl (he21.op rfl) w20) ?_
      intro a22 he22
      clear he21 a21
      refine lV (Value.bool false) he22 rfl rfl (wanted_plain rfl _) (rn_mv rfl (he22.op rfl) w20) ?_
      intro a23 he23
      clear he22 a22
      refine lV (Value.slice D m cd) he23 rfl rfl (he23.want rfl rfl rfl rfl rfl) (rn_mv rfl (he23.op rfl) w20) ?_
      intro a24 he24
      clear he23 a23
      refine lC he24 rfl rfl Tryd.func41 (by kernel_rfl) rfl rfl (he24.want rfl rfl rfl rfl rfl) rfl (hu ▸ CRow_any d m bd cd D w20 (hd.new hH20.new) (by omega) (hT.new hH20.new)) ?_
      intro w25 a26 hn he26
      have hH25 := hH20.call hn
      clear he24 a24 hH20 hn
      refine lV (Value.bool true) he26 rfl rfl (he26.want rfl rfl rfl rfl rfl) (rn_not (b := false) rfl (he26.op rfl) w25) ?_
      intro a27 he27
      clear he26 a26
      refine lV (Value.bool true) he27 rfl rfl (wanted_plain rfl _) (rn_pk0 rfl (he27.op rfl) (he27.op rfl) w25) ?_
      intro a28 he28
      clear he27 a27
      refine wpList_nil ?_
      refine then_ok ?_
      refine wp_cond_true (he28.op rfl) ?_
      refine wp_seq ?_
      refine wp_region_lit ?_
      refine lV (Value.agg #[Value.slice none 0 0, Value.bool false]) he28 rfl rfl (wanted_plain rfl _) (rn_bL rfl  w25) ?_
      intro a29 he29
      clear he28 a28
      refine lSetF 0 #[Value.slice none 0 0, Value.bool false] (cs := #[Value.slice none 0 0, Value.bool false]) he29 hH25 rfl (wanted_plain rfl _) rfl rfl rfl rfl rfl (by kernel_rfl) (by kernel_rfl) (by kernel_rfl) rfl ?_
      intro w30 a31 hH30 hf he31
      replace hH30 : Hp w [⟨p3, 27, #[Value.slice none 0 0, Value.bool false]⟩, ⟨p1, 27, #[Value.slice A n cap, Value.bool so]⟩] w30 := hH30
      clear hf
      clear he29 a29 hH25
      refine lV (Value.int .i64 2) he31 rfl rfl (wanted_plain rfl _) (rn_asg rfl (he31.op rfl) w30) ?_
      intro a32 he32
      clear he31 a31
      refine wpList_nil ?_
      refine then_ok ?_
      refine wp_ret ?_
      try simp only [Exit.then, Exit.inBlock]
      exact ret_rowt rfl he32 rfl rfl (hH30.at (i := 0) rfl) undL rfl infoL2 (le_zero (by rw [putR, if_pos (by rw [hu, Bool.and_false])]) hH30.new)
    | true =>
      refine wp_seq ?_
      refine wp_seq ?_
      refine wp_region_lit ?_
      refine lV (Value.agg #[Value.slice A n cap, Value.bool so]) he5 rfl rfl (wanted_plain rfl _) (rn_ldp [Value.slice A n cap, Value.bool so] rfl (he5.op rfl) undL rfl infoL2 (hH3.at (i := 1) rfl) rfl) ?_
      intro a33 he33
      clear he5 a5
      refine lC he33 rfl rfl Tryd.func13 (by kernel_rfl) rfl rfl (wanted_plain rfl _) rfl (LValid_b l n b cap A so true hv w3 (hr.new hH3.new) (hT.new hH3.new)) ?_
      intro w34 a35 hn he35
      have hH34 := hH3.call hn
      clear he33 a33 hH3 hn
      refine lV (Value.bool false) he35 rfl rfl (wanted_plain rfl _) (rn_not (b := true) rfl (he35.op rfl) w34) ?_
      intro a36 he36
      clear he35 a35
      refine lV (Value.bool false) he36 rfl rfl (wanted_plain rfl _) (rn_mv rfl (he36.op rfl) w34) ?_
      intro a37 he37
      clear he36 a36
      refine lV (Value.slice D m cd) he37 rfl rfl (he37.want rfl rfl rfl rfl rfl) (rn_mv rfl (he37.op rfl) w34) ?_
      intro a38 he38
      clear he37 a37
      refine lC he38 rfl rfl Tryd.func41 (by kernel_rfl) rfl rfl (he38.want rfl rfl rfl rfl rfl) rfl (hu ▸ CRow_any d m bd cd D w34 (hd.new hH34.new) (by omega) (hT.new hH34.new)) ?_
      intro w39 a40 hn he40
      have hH39 := hH34.call hn
      clear he38 a38 hH34 hn
      refine lV (Value.bool false) he40 rfl rfl (he40.want rfl rfl rfl rfl rfl) (rn_not (b := true) rfl (he40.op rfl) w39) ?_
      intro a41 he41
      clear he40 a40
      refine lV (Value.bool false) he41 rfl rfl (wanted_plain rfl _) (rn_pk0 rfl (he41.op rfl) (he41.op rfl) w39) ?_
      intro a42 he42
      clear he41 a41
      refine wpList_nil ?_
      refine then_ok ?_
      refine wp_cond_false (he42.op rfl) ?_
      refine wp_skip ?_
      refine then_ok ?_
      have he43 : Env 53 [(6, Value.pointer (some ⟨p3, 0, none⟩)), (3, Value.pointer (some ⟨p1, 0, none⟩)), (0, Value.agg #[Value.slice A n cap, Value.bool so]), (1, Value.int .i64 at_), (2, Value.slice D m cd)] a42 := he42.mem ⟨rfl, rfl, rfl, rfl, rfl, trivial⟩
      clear he42
      have hln := okL_len hv
      have hvu : ¬ (okL l && rowB d) = false := by rw [hv, hu]; decide
      by_cases h0 : at_ < 0
      · skip
        refine wp_seq ?_
        refine wp_seq ?_
        refine wp_region_lit ?_
        refine lV (Value.int .i64 at_) he43 rfl rfl (wanted_plain rfl _) (rn_mv rfl (he43.op rfl) w39) ?_
        intro a44 he44
        clear he43 a42
        refine lV (Value.bool true) he44 rfl rfl (wanted_plain rfl _) (rn_lss rfl (he44.op rfl) (he44.op rfl) (decide_eq_true (by omega)) w39) ?_
        intro a45 he45
        clear he44 a44
        refine lV (Value.bool true) he45 rfl rfl (wanted_plain rfl _) (rn_mv rfl (he45.op rfl) w39) ?_
        intro a46 he46
        clear he45 a45
        refine lSkip he46 rfl rfl (he46.wantNot rfl rfl rfl rfl rfl rfl) ?_
        intro a47 he47
        clear he46 a46
        refine lSkip he47 rfl rfl (he47.wantNot rfl rfl rfl rfl rfl rfl) ?_
        intro a48 he48
        clear he47 a47
        refine lSkip he48 rfl rfl (he48.wantNot rfl rfl rfl rfl rfl rfl) ?_
        intro a49 he49
        clear he48 a48
        refine lSkip he49 rfl rfl (he49.wantNot rfl rfl rfl rfl rfl rfl) ?_
        intro a50 he50
        clear he49 a49
        refine lSkip he50 rfl rfl (he50.wantNot rfl rfl rfl rfl rfl rfl) ?_
        intro a51 he51
        clear he50 a50
        refine lSkip he51 rfl rfl (he51.wantNot rfl rfl rfl rfl rfl rfl) ?_
        intro a52 he52
        clear he51 a51
        refine lSkip he52 rfl rfl (he52.wantNot rfl rfl rfl rfl rfl rfl) ?_
        intro a53 he53
        clear he52 a52
        refine lSkip he53 rfl rfl (he53.wantNot rfl rfl rfl rfl rfl rfl) ?_
        intro a54 he54
        clear he53 a53
        refine lV (Value.bool true) he54 rfl rfl (wanted_plain rfl _) (rn_pk rfl (he54.op rfl) (he54.op rfl) w39) ?_
        intro a55 he55
        clear he54 a54
        refine wpList_nil ?_
        refine then_ok ?_
        refine wp_cond_true (he55.op rfl) ?_
        refine wp_seq ?_
        refine wp_region_lit ?_
        refine lV (Value.agg #[Value.slice none 0 0, Value.bool false]) he55 rfl rfl (wanted_plain rfl _) (rn_bL rfl  w39) ?_
        intro a56 he56
        clear he55 a55
        refine lSetF 0 #[Value.slice none 0 0, Value.bool false] (cs := #[Value.slice none 0 0, Value.bool false]) he56 hH39 rfl (wanted_plain rfl _) rfl rfl rfl rfl rfl (by kernel_rfl) (by kernel_rfl) (by kernel_rfl) rfl ?_
        intro w57 a58 hH57 hf he58
        replace hH57 : Hp w [⟨p3, 27, #[Value.slice none 0 0, Value.bool false]⟩, ⟨p1, 27, #[Value.slice A n cap, Value.bool so]⟩] w57 := hH57
        clear hf
        clear he56 a56 hH39
        refine lV (Value.int .i64 3) he58 rfl rfl (wanted_plain rfl _) (rn_asg rfl (he58.op rfl) w57) ?_
        intro a59 he59
        clear he58 a58
        refine wpList_nil ?_
        refine then_ok ?_
        refine wp_ret ?_
        try simp only [Exit.then, Exit.inBlock]
        exact ret_rowt rfl he59 rfl rfl (hH57.at (i := 0) rfl) undL rfl infoL2 (le_zero (by rw [putR, if_neg hvu, if_pos (by rw [decide_eq_false (by omega : ¬ 0 ≤ at_)]; rfl)]) hH57.new)
      by_cases h1 : (n : Int) - (m : Int) < at_
      · skip
        refine wp_seq ?_
        refine wp_seq ?_
        refine wp_region_lit ?_
        refine lV (Value.int .i64 at_) he43 rfl rfl (wanted_plain rfl _) (rn_mv rfl (he43.op rfl) w39) ?_
        intro a60 he60
        clear he43 a42
        refine lV (Value.bool false) he60 rfl rfl (wanted_plain rfl _) (rn_lss rfl (he60.op rfl) (he60.op rfl) (decide_eq_false (by omega)) w39) ?_
        intro a61 he61
        clear he60 a60
        refine lV (Value.bool false) he61 rfl rfl (wanted_plain rfl _) (rn_mv rfl (he61.op rfl) w39) ?_
        intro a62 he62
        clear he61 a61
        refine lV (Value.int .i64 at_) he62 rfl rfl (he62.want rfl rfl rfl rfl rfl) (rn_mv rfl (he62.op rfl) w39) ?_
        intro a63 he63
        clear he62 a62
        refine lV (Value.pointer (some ⟨p1, 0, none⟩)) he63 rfl rfl (he63.want rfl rfl rfl rfl rfl) (rn_faL0 rfl (he63.op rfl) rfl w39) ?_
        intro a64 he64
        clear he63 a63
        refine lV (Value.slice A n cap) he64 rfl rfl (he64.want rfl rfl rfl rfl rfl) (rn_ldS rfl (he64.op rfl) (hH39.at (i := 1) rfl) rfl) ?_
        intro a65 he65
        clear he64 a64
        refine lV (Value.int .i64 (n : Nat)) he65 rfl rfl (he65.want rfl rfl rfl rfl rfl) (rn_lenC rfl (he65.op rfl) w39) ?_
        intro a66 he66
        clear he65 a65
        refine lV (Value.slice D m cd) he66 rfl rfl (he66.want rfl rfl rfl rfl rfl) (rn_mv rfl (he66.op rfl) w39) ?_
        intro a67 he67
        clear he66 a66
        refine lV (Value.int .i64 (m : Nat)) he67 rfl rfl (he67.want rfl rfl rfl rfl rfl) (rn_lenC rfl (he67.op rfl) w39) ?_
        intro a68 he68
        clear he67 a67
        refine lV (Value.int .i64 ((n : Int) - (m : Int))) he68 rfl rfl (he68.want rfl rfl rfl rfl rfl) (rn_subI rfl (he68.op rfl) (he68.op rfl) (by rw [IntWalk.i64_in _ ⟨by omega, by omega⟩]) w39) ?_
        intro a69 he69
        clear he68 a68
        refine lV (Value.bool true) he69 rfl rfl (he69.want rfl rfl rfl rfl rfl) (rn_gtr rfl (he69.op rfl) (he69.op rfl) (decide_eq_true (by omega)) w39) ?_
        intro a70 he70
        clear he69 a69
        refine lV (Value.bool true) he70 rfl rfl (wanted_plain rfl _) (rn_pk0 rfl (he70.op rfl) (he70.op rfl) w39) ?_
        intro a71 he71
        clear he70 a70
        refine wpList_nil ?_
        refine then_ok ?_
        refine wp_cond_true (he71.op rfl) ?_
        refine wp_seq ?_
        refine wp_region_lit ?_
        refine lV (Value.agg #[Value.slice none 0 0, Value.bool false]) he71 rfl rfl (wanted_plain rfl _) (rn_bL rfl  w39) ?_
        intro a72 he72
        clear he71 a71
        refine lSetF 0 #[Value.slice none 0 0, Value.bool false] (cs := #[Value.slice none 0 0, Value.bool false]) he72 hH39 rfl (wanted_plain rfl _) rfl rfl rfl rfl rfl (by kernel_rfl) (by kernel_rfl) (by kernel_rfl) rfl ?_
        intro w73 a74 hH73 hf he74
        replace hH73 : Hp w [⟨p3, 27, #[Value.slice none 0 0, Value.bool false]⟩, ⟨p1, 27, #[Value.slice A n cap, Value.bool so]⟩] w73 := hH73
        clear hf
        clear he72 a72 hH39
        refine lV (Value.int .i64 3) he74 rfl rfl (wanted_plain rfl _) (rn_asg rfl (he74.op rfl) w73) ?_
        intro a75 he75
        clear he74 a74
        refine wpList_nil ?_
        refine then_ok ?_
        refine wp_ret ?_
        try simp only [Exit.then, Exit.inBlock]
        exact ret_rowt rfl he75 rfl rfl (hH73.at (i := 0) rfl) undL rfl infoL2 (le_zero (by rw [putR, if_neg hvu, if_pos (by rw [decide_eq_false (by omega : ¬ at_ + (d.length : Int) ≤ (l.length : Int)), Bool.and_false])]) hH73.new)
      · skip
        refine wp_seq ?_
        refine wp_seq ?_
        refine wp_region_lit ?_
        refine lV (Value.int .i64 at_) he43 rfl rfl (wanted_plain rfl _) (rn_mv rfl (he43.op rfl) w39) ?_
        intro a76 he76
        clear he43 a42
        refine lV (Value.bool false) he76 rfl rfl (wanted_plain rfl _) (rn_lss rfl (he76.op rfl) (he76.op rfl) (decide_eq_false (by omega)) w39) ?_
        intro a77 he77
        clear he76 a76
        refine lV (Value.bool false) he77 rfl rfl (wanted_plain rfl _) (rn_mv rfl (he77.op rfl) w39) ?_
        intro a78 he78
        clear he77 a77
        refine lV (Value.int .i64 at_) he78 rfl rfl (he78.want rfl rfl rfl rfl rfl) (rn_mv rfl (he78.op rfl) w39) ?_
        intro a79 he79
        clear he78 a78
        refine lV (Value.pointer (some ⟨p1, 0, none⟩)) he79 rfl rfl (he79.want rfl rfl rfl rfl rfl) (rn_faL0 rfl (he79.op rfl) rfl w39) ?_
        intro a80 he80
        clear he79 a79
        refine lV (Value.slice A n cap) he80 rfl rfl (he80.want rfl rfl rfl rfl rfl) (rn_ldS rfl (he80.op rfl) (hH39.at (i := 1) rfl) rfl) ?_
        intro a81 he81
        clear he80 a80
        refine lV (Value.int .i64 (n : Nat)) he81 rfl rfl (he81.want rfl rfl rfl rfl rfl) (rn_lenC rfl (he81.op rfl) w39) ?_
        intro a82 he82
        clear he81 a81
        refine lV (Value.slice D m cd) he82 rfl rfl (he82.want rfl rfl rfl rfl rfl) (rn_mv rfl (he82.op rfl) w39) ?_
        intro a83 he83
        clear he82 a82
        refine lV (Value.int .i64 (m : Nat)) he83 rfl rfl (he83.want rfl rfl rfl rfl rfl) (rn_lenC rfl (he83.op rfl) w39) ?_
        intro a84 he84
        clear he83 a83
        refine lV (Value.int .i64 ((n : Int) - (m : Int))) he84 rfl rfl (he84.want rfl rfl rfl rfl rfl) (rn_subI rfl (he84.op rfl) (he84.op rfl) (by rw [IntWalk.i64_in _ ⟨by omega, by omega⟩]) w39) ?_
        intro a85 he85
        clear he84 a84
        refine lV (Value.bool false) he85 rfl rfl (he85.want rfl rfl rfl rfl rfl) (rn_gtr rfl (he85.op rfl) (he85.op rfl) (decide_eq_false (by omega)) w39) ?_
        intro a86 he86
        clear he85 a85
        refine lV (Value.bool false) he86 rfl rfl (wanted_plain rfl _) (rn_pk0 rfl (he86.op rfl) (he86.op rfl) w39) ?_
        intro a87 he87
        clear he86 a86
        refine wpList_nil ?_
        refine then_ok ?_
        refine wp_cond_false (he87.op rfl) ?_
        refine wp_skip ?_
        refine then_ok ?_
        obtain ⟨k, rfl⟩ : ∃ k : Nat, at_ = k := ⟨at_.toNat, by omega⟩
        have he88 : Env 53 [(6, Value.pointer (some ⟨p3, 0, none⟩)), (3, Value.pointer (some ⟨p1, 0, none⟩)), (1, Value.int .i64 (k : Int)), (2, Value.slice D m cd)] a87 := he87.mem ⟨rfl, rfl, rfl, rfl, trivial⟩
        clear he87
        have hput : putR l so (k : Int) d = ⟨fixL (l.take k) ++ d ++ fixL (l.drop (k + m)), so, 0⟩ := by rw [putR, if_neg hvu, if_neg (by rw [decide_eq_true (by omega : (0 : Int) ≤ k), decide_eq_true (by omega : (k : Int) + (d.length : Int) ≤ (l.length : Int))]; decide), Int.toNat_natCast, putL, hld]
        refine wp_seq ?_
        refine wp_region_held_drew (S := Hp w [⟨p3, 27, #[Value.slice none 0 0, Value.bool false]⟩, ⟨p1, 27, #[Value.slice A n cap, Value.bool so]⟩]) (by kernel_rfl) (hH39.drew) (fun _ => ?_)
        have hn : New w39 (World.drew w39) := (Fr.refl _ _).drew
        clear hn
        have hH89 := hH39.drew
        clear hH39
        generalize World.drew w39 = w89 at *
        refine hV (fuel := 14) (i := 0) (Value.pointer (some ⟨p1, 0, none⟩)) he88 rfl rfl rfl (by kernel_rfl) (by kernel_rfl) (by kernel_rfl) (fun _ _ _ h => h) (wanted_plain rfl _) (fun w' _ => rn_faL0 rfl (he88.op rfl) rfl w') hH89 ?_
        intro a90 he90
        clear he88 a87
        refine hV (fuel := 13) (i := 1) (Value.slice A n cap) he90 rfl rfl rfl (by kernel_rfl) (by kernel_rfl) (by kernel_rfl) (fun _ _ _ h => h) (wanted_plain rfl _) (fun w' hw' => rn_ldS rfl (he90.op rfl) (hw'.at (i := 1) rfl) rfl) hH89 ?_
        intro a91 he91
        clear he90 a90
        refine hV (fuel := 12) (i := 2) (Value.int .i64 (k : Int)) he91 rfl rfl rfl (by kernel_rfl) (by kernel_rfl) (by kernel_rfl) (fun _ _ _ h => h) (wanted_plain rfl _) (fun w' _ => rn_mv rfl (he91.op rfl) w') hH89 ?_
        intro a92 he92
        clear he91 a91
        refine hV (fuel := 11) (i := 5) (Value.pointer (some ⟨p1, 0, none⟩)) he92 rfl rfl rfl (by kernel_rfl) (by kernel_rfl) (by kernel_rfl) (fun _ _ _ h => h) (wanted_plain rfl _) (fun w' _ => rn_faL0 rfl (he92.op rfl) rfl w') hH89 ?_
        intro a93 he93
        clear he92 a92
        refine hV (fuel := 10) (i := 6) (Value.slice A n cap) he93 rfl rfl rfl (by kernel_rfl) (by kernel_rfl) (by kernel_rfl) (fun _ _ _ h => h) (wanted_plain rfl _) (fun w' hw' => rn_ldS rfl (he93.op rfl) (hw'.at (i := 1) rfl) rfl) hH89 ?_
        intro a94 he94
        clear he93 a93
        refine hV (fuel := 9) (i := 7) (Value.int .i64 (k : Int)) he94 rfl rfl rfl (by kernel_rfl) (by kernel_rfl) (by kernel_rfl) (fun _ _ _ h => h) (wanted_plain rfl _) (fun w' _ => rn_mv rfl (he94.op rfl) w') hH89 ?_
        intro a95 he95
        clear he94 a94
        refine hV (fuel := 8) (i := 8) (Value.slice D m cd) he95 rfl rfl rfl (by kernel_rfl) (by kernel_rfl) (by kernel_rfl) (fun _ _ _ h => h) (wanted_plain rfl _) (fun w' _ => rn_mv rfl (he95.op rfl) w') hH89 ?_
        intro a96 he96
        clear he95 a95
        obtain ⟨Ac, eAc, rAc⟩ := slh_rd (c := cap) (k := k) (hr.new hH89.new) (by omega)
        refine hV (fuel := 7) (i := 3) (Value.slice Ac k cap) he96 rfl rfl rfl (by kernel_rfl) (by kernel_rfl) (by kernel_rfl) (fun _ _ _ h => h) (wanted_plain rfl _) (fun w' _ => rn_slh (k := k) rfl (he96.op rfl) (he96.op rfl) (by omega) eAc w') hH89 ?_
        intro a97 he97
        clear he96 a96
        refine hV (fuel := 6) (i := 9) (Value.int .i64 (m : Int)) he97 rfl rfl rfl (by kernel_rfl) (by kernel_rfl) (by kernel_rfl) (fun _ _ _ h => h) (wanted_plain rfl _) (fun w' _ => rn_lenC rfl (he97.op rfl) w') hH89 ?_
        intro a98 he98
        clear he97 a97
        refine hV (fuel := 5) (i := 10) (Value.int .i64 ((k + m : Nat) : Int)) he98 rfl rfl rfl (by kernel_rfl) (by kernel_rfl) (by kernel_rfl) (fun _ _ _ h => h) (wanted_plain rfl _) (fun w' _ => rn_add1 rfl (he98.op rfl) (he98.op rfl) (by rw [IntWalk.i64_in _ ⟨by omega, by omega⟩]; omega) w') hH89 ?_
        intro a99 he99
        clear he98 a98
        obtain ⟨Ad, eAd, rAd⟩ := sll_rd (c := cap) (k := (k + m)) (hr.new hH89.new) (by omega) (by omega)
        refine hV (fuel := 4) (i := 11) (Value.slice Ad (n - (k + m)) (cap - (k + m))) he99 rfl rfl rfl (by kernel_rfl) (by kernel_rfl) (by kernel_rfl) (fun _ _ _ h => h) (wanted_plain rfl _) (fun w' _ => rn_sll (k := (k + m)) rfl (he99.op rfl) (he99.op rfl) (by omega) eAd w') hH89 ?_
        intro a100 he100
        clear he99 a99
        have hzhoe := hH89.new.size
        refine hC (fuel := 3) (i := 4) he100 (by kernel_rfl) rfl rfl rfl Tryd.func48 (by kernel_rfl) rfl rfl (wanted_plain rfl _) rfl (FixC _ _ _ _ _ w89 rAc (by omega)) ?_
        rintro _ w101 ⟨⟨Ae, ce, rfl, hoe⟩, hn⟩
        replace hoe := own_base hoe (fun k_ hk_ => Nat.le_trans hzhoe (own_blk hoe k_ hk_))
        clear hzhoe
        have hH101 := hH89.call hn
        replace rAc := rAc.new hn
        replace rAd := rAd.new hn
        refine ⟨_, rfl, hH101, ?_⟩
        intro a102 he102
        clear he100 a100 hH89 hn
        have hzhof := hH101.new.size
        refine hC (fuel := 2) (i := 12) he102 (by kernel_rfl) rfl rfl rfl Tryd.func48 (by kernel_rfl) rfl rfl (wanted_plain rfl _) rfl (FixC _ _ _ _ _ w101 rAd (by omega)) ?_
        rintro _ w103 ⟨⟨Af, cf, rfl, hof⟩, hn⟩
        replace hof := own_base hof (fun k_ hk_ => Nat.le_trans hzhof (own_blk hof k_ hk_))
        clear hzhof
        have hH103 := hH101.call hn
        replace rAc := rAc.new hn
        replace rAd := rAd.new hn
        replace hoe := own_fr hoe hn (fun _ _ h => h)
        refine ⟨_, rfl, hH103, ?_⟩
        intro a104 he104
        clear he102 a102 hH101 hn
        refine hV (fuel := 1) (i := 13) (Value.slice Ae (fixL (l.take k)).length ce) he104 rfl rfl rfl (by kernel_rfl) (by kernel_rfl) (by kernel_rfl) (fun _ _ _ h => h) (wanted_plain rfl _) (fun w' _ => rn_asg rfl (he104.op rfl) w') hH103 ?_
        intro a105 he105
        clear he104 a104
        refine hV (fuel := 0) (i := 14) (Value.slice Af (fixL (l.drop (k + m))).length cf) he105 rfl rfl rfl (by kernel_rfl) (by kernel_rfl) (by kernel_rfl) (fun _ _ _ h => h) (wanted_plain rfl _) (fun w' _ => rn_asg rfl (he105.op rfl) w') hH103 ?_
        intro a106 he106
        clear he105 a105
        refine wpAnyH_done (by kernel_rfl) ?_ _
        refine then_ok ?_
        clear rAc rAd
        have he107 : Env 53 [(9, Value.slice Af (fixL (l.drop (k + m))).length cf), (8, Value.slice Ae (fixL (l.take k)).length ce), (6, Value.pointer (some ⟨p3, 0, none⟩)), (3, Value.pointer (some ⟨p1, 0, none⟩)), (2, Value.slice D m cd)] a106 := he106.mem ⟨rfl, rfl, rfl, rfl, rfl, trivial⟩
        clear he106
        have e1 : (fixL (l.take k)).length = k := by rw [fixL_len, List.length_take]; omega
        have e2 : (fixL (l.drop (k + m))).length = n - (k + m) := by rw [fixL_len, List.length_drop, hl]
        obtain ⟨be, hre, -⟩ := own_rdK hoe
        obtain ⟨bf, hrf, -⟩ := own_rdK hof
        clear hoe hof
        refine wp_seq ?_
        refine wp_region_held_drew (S := Hp w [⟨p1, 27, #[Value.slice A n cap, Value.bool so]⟩]) (by kernel_rfl) ((hH103.drew).drop1 0 rfl) (fun _ => ?_)
        have hn : New w103 (World.drew w103) := (Fr.refl _ _).drew
        replace hre := hre.new hn
        replace hrf := hrf.new hn
        clear hn
        have hH108 := hH103.drew
        clear hH103
        generalize World.drew w103 = w108 at *
        refine hV (fuel := 9) (i := 0) (Value.slice Ae (fixL (l.take k)).length ce) he107 rfl rfl rfl (by kernel_rfl) (by kernel_rfl) (by kernel_rfl) (fun _ _ _ h => h) (wanted_plain rfl _) (fun w' _ => rn_mv rfl (he107.op rfl) w') (hH108.drop1 0 rfl) ?_
        intro a109 he109
        clear he107 a106
        refine hV (fuel := 8) (i := 1) (Value.slice D m cd) he109 rfl rfl rfl (by kernel_rfl) (by kernel_rfl) (by kernel_rfl) (fun _ _ _ h => h) (wanted_plain rfl _) (fun w' _ => rn_mv rfl (he109.op rfl) w') (hH108.drop1 0 rfl) ?_
        intro a110 he110
        clear he109 a109
        refine hV (fuel := 7) (i := 2) (Value.slice Af (fixL (l.drop (k + m))).length cf) he110 rfl rfl rfl (by kernel_rfl) (by kernel_rfl) (by kernel_rfl) (fun _ _ _ h => h) (wanted_plain rfl _) (fun w' _ => rn_mv rfl (he110.op rfl) w') (hH108.drop1 0 rfl) ?_
        intro a111 he111
        clear he110 a110
        refine hV (fuel := 6) (i := 5) (Value.pointer (some ⟨p1, 1, none⟩)) he111 rfl rfl rfl (by kernel_rfl) (by kernel_rfl) (by kernel_rfl) (fun _ _ _ h => h) (wanted_plain rfl _) (fun w' _ => rn_faL1 rfl (he111.op rfl) rfl w') (hH108.drop1 0 rfl) ?_
        intro a112 he112
        clear he111 a111
        refine hV (fuel := 5) (i := 6) (Value.bool so) he112 rfl rfl rfl (by kernel_rfl) (by kernel_rfl) (by kernel_rfl) (fun _ _ _ h => h) (wanted_plain rfl _) (fun w' hw' => rn_ldB rfl (he112.op rfl) (hw'.at (i := 0) rfl) rfl) (hH108.drop1 0 rfl) ?_
        intro a113 he113
        clear he112 a112
        refine hNew (fuel := 4) (i := 3) (fun p => .slice (some ⟨p, 0, none⟩) 3 3) he113 hH108 (by kernel_rfl) rfl rfl rfl (wanted_plain rfl _) (rn_bsS3 rfl (he113.op rfl) (he113.op rfl) (he113.op rfl) w108) ?_
        intro ps ws a114 hn hHs he114
        replace hre := hre.new hn
        replace hrf := hrf.new hn
        refine ⟨((hHs.drop1 1 rfl).drop1 0 rfl), ?_⟩
        clear he113 a113 hH108 hn
        have hzhog := hHs.new.size
        refine hC (fuel := 3) (i := 4) he114 (by kernel_rfl) rfl rfl rfl Tryd.func52 (by kernel_rfl) rfl rfl (wanted_plain rfl _) rfl (Concat3 ps _ _ _ _ _ _ _ _ _ _ _ _ _ _ _ ws (hHs.at (i := 0) rfl) hre (hd.new hHs.new) hrf (by omega) hm (by omega)) ?_
        rintro _ w115 ⟨⟨Ag, cg, rfl, hog⟩, hn⟩
        replace hog := own_base hog (fun k_ hk_ => Nat.le_trans hzhog (own_blk hog k_ hk_))
        clear hzhog
        have hH115 := hHs.call hn
        replace hre := hre.new hn
        replace hrf := hrf.new hn
        refine ⟨_, rfl, ((hH115.drop1 1 rfl).drop1 0 rfl), ?_⟩
        intro a116 he116
        clear he114 a114 hHs hn
        refine hV (fuel := 2) (i := 7) (Value.agg #[Value.slice Ag (fixL (l.take k) ++ d ++ fixL (l.drop (k + m))).length cg, Value.bool so]) he116 rfl rfl rfl (by kernel_rfl) (by kernel_rfl) (by kernel_rfl) (fun _ _ _ h => h) (wanted_plain rfl _) (fun w' _ => rn_bL01 rfl (he116.op rfl) (he116.op rfl) w') ((hH115.drop1 1 rfl).drop1 0 rfl) ?_
        intro a117 he117
        clear he116 a116
        refine hSetV (fuel := 1) (n := 8) 1 #[Value.slice Ag (fixL (l.take k) ++ d ++ fixL (l.drop (k + m))).length cg, Value.bool so] (cs := #[Value.slice Ag (fixL (l.take k) ++ d ++ fixL (l.drop (k + m))).length cg, Value.bool so]) he117 hH115 (by kernel_rfl) rfl rfl (wanted_plain rfl _) rfl rfl rfl rfl rfl (by kernel_rfl) (by kernel_rfl) (by kernel_rfl) rfl ?_
        intro w118 a119 hH118 hf he119
        replace hog := own_fr hog hf (fun k_ hk_ e_ => own_far hog (hH115.at (i := 1) rfl) (show 60 ≠ 27 from by decide) (hk_.trans (congrArg some e_)))
        replace hH118 : Hp w [⟨ps, 22, #[Value.slice Ae (fixL (l.take k)).length ce, Value.slice D m cd, Value.slice Af (fixL (l.drop (k + m))).length cf]⟩, ⟨p3, 27, #[Value.slice Ag (fixL (l.take k) ++ d ++ fixL (l.drop (k + m))).length cg, Value.bool so]⟩, ⟨p1, 27, #[Value.slice A n cap, Value.bool so]⟩] w118 := hH118
        refine ⟨((hH118.drop1 1 rfl).drop1 0 rfl), ?_⟩
        clear hf
        clear he117 a117 hH115
        refine hV (fuel := 0) (i := 9) (Value.int .i64 0) he119 rfl rfl rfl (by kernel_rfl) (by kernel_rfl) (by kernel_rfl) (fun _ _ _ h => h) (wanted_plain rfl _) (fun w' _ => rn_asg rfl (he119.op rfl) w') ((hH118.drop1 1 rfl).drop1 0 rfl) ?_
        intro a120 he120
        clear he119 a119
        refine wpAnyH_done (by kernel_rfl) ?_ _
        refine then_ok ?_
        refine wp_ret ?_
        try simp only [Exit.then, Exit.inBlock]
        exact ret_rowt rfl he120 rfl rfl (hH118.at (i := 1) rfl) undL rfl infoL2 (le_said hog hput hH118.new)

end Go.Proofs.YtjcpdldaimebbaaDoor
namespace Go.Proofs.YtjcpdldaimebbaaDoor
open Go.RowKit

theorem FixR (l : List Ce) (n b cap : Nat) (A : Option Addr) (w : World) (hr : RdC w b A n l) (hn : n ≤ 1000000) : Calls Tryd.prog 51 #[.slice A n cap] w (RowSaid (fixL l) w) :=
  (RFix_any l n b cap A w hr hn).mono (fun _ _ ⟨_, h1, h2, h3⟩ => h1 ▸ row_said h2 rfl h3)
set_option linter.unusedSimpArgs false in
set_option maxRecDepth 100000 in
set_option maxHeartbeats 1600000 in
theorem RColumns_b (n : Int) (v : Bool) (hv : (decide (0 ≤ n) && decide (n ≤ 1000)) = v) (w : World) :
    Calls Tryd.prog 10 #[.int .i64 n] w fun e w' => e = .returned (.bool v) ∧ New w w' := by
  refine calls_args (vl := [Value.int .i64 n]) 9 Tryd.func10 rfl Tryd.ntmps10 (by kernel_rfl) (fun a he => ?_)
  have he0 : Env 9 [(0, Value.int .i64 n)] a := he
  clear he
  have hH := Hp.start w
  refine wp_seq ?_
  refine wp_region_lit ?_
  refine lV (Value.bool false) he0 rfl rfl (wanted_plain rfl _) (rn_asg rfl (he0.op rfl) w) ?_
  intro a1 he1
  clear he0 a
  refine wpList_nil ?_
  refine then_ok ?_
  obtain ⟨e, he⟩ : ∃ e, decide (0 ≤ n) = e := ⟨_, rfl⟩
  rw [he] at hv
  cases e with
  | false =>
    have hw : v = false := by simpa using hv.symm
    subst hw
    refine wp_seq ?_
    refine wp_region_lit ?_
    refine lV (Value.int .i64 n) he1 rfl rfl (wanted_plain rfl _) (rn_mv rfl (he1.op rfl) w) ?_
    intro a2 he2
    clear he1 a1
    refine lV (Value.bool false) he2 rfl rfl (wanted_plain rfl _) (rn_geq rfl (he2.op rfl) (he2.op rfl) he w) ?_
    intro a3 he3
    clear he2 a2
    refine lV (Value.bool false) he3 rfl rfl (wanted_plain rfl _) (rn_mv rfl (he3.op rfl) w) ?_
    intro a4 he4
    clear he3 a3
    refine lSkip he4 rfl rfl (he4.wantNot rfl rfl rfl rfl rfl rfl) ?_
    intro a5 he5
    clear he4 a4
    refine lSkip he5 rfl rfl (he5.wantNot rfl rfl rfl rfl rfl rfl) ?_
    intro a6 he6
    clear he5 a5
    refine lV (Value.bool false) he6 rfl rfl (wanted_plain rfl _) (rn_pk0 rfl (he6.op rfl) (he6.op rfl) w) ?_
    intro a7 he7
    clear he6 a6
    refine lV (Value.bool false) he7 rfl rfl (wanted_plain rfl _) (rn_asg rfl (he7.op rfl) w) ?_
    intro a8 he8
    clear he7 a7
    refine wpList_nil ?_
    refine then_ok ?_
    refine wp_ret ?_
    try simp only [Exit.then, Exit.inBlock, Exit.noGoto]
    exact ret_env rfl he8 rfl ⟨rfl, hH.new⟩
  | true =>
    have hw : decide (n ≤ 1000) = v := by simpa using hv
    refine wp_seq ?_
    refine wp_region_lit ?_
    refine lV (Value.int .i64 n) he1 rfl rfl (wanted_plain rfl _) (rn_mv rfl (he1.op rfl) w) ?_
    intro a9 he9
    clear he1 a1
    refine lV (Value.bool true) he9 rfl rfl (wanted_plain rfl _) (rn_geq rfl (he9.op rfl) (he9.op rfl) he w) ?_
    intro a10 he10
    clear he9 a9
    refine lV (Value.bool true) he10 rfl rfl (wanted_plain rfl _) (rn_mv rfl (he10.op rfl) w) ?_
    intro a11 he11
    clear he10 a10
    refine lV (Value.int .i64 n) he11 rfl rfl (he11.want rfl rfl rfl rfl rfl) (rn_mv rfl (he11.op rfl) w) ?_
    intro a12 he12
    clear he11 a11
    refine lV (Value.bool v) he12 rfl rfl (he12.want rfl rfl rfl rfl rfl) (rn_leq rfl (he12.op rfl) (he12.op rfl) hw w) ?_
    intro a13 he13
    clear he12 a12
    refine lV (Value.bool v) he13 rfl rfl (wanted_plain rfl _) (rn_pk rfl (he13.op rfl) (he13.op rfl) w) ?_
    intro a14 he14
    clear he13 a13
    refine lV (Value.bool v) he14 rfl rfl (wanted_plain rfl _) (rn_asg rfl (he14.op rfl) w) ?_
    intro a15 he15
    clear he14 a14
    refine wpList_nil ?_
    refine then_ok ?_
    refine wp_ret ?_
    try simp only [Exit.then, Exit.inBlock, Exit.noGoto]
    exact ret_env rfl he15 rfl ⟨rfl, hH.new⟩

set_option linter.unusedSimpArgs false in
set_option maxRecDepth 100000 in
set_option maxHeartbeats 1600000 in
theorem RLValid_b (l : List Ce) (n b cap : Nat) (A : Option Addr) (so : Bool) (v : Bool) (hv : okL l = v) (w : World) (hr : RdC w b A n l) :
    Calls Tryd.prog 14 #[.agg #[.slice A n cap, .bool so]] w fun e w' => e = .returned (.bool v) ∧ New w w' := by
  have hl := hr.1
  refine calls_args (vl := [Value.agg #[Value.slice A n cap, Value.bool so]]) 12 Tryd.func14 rfl Tryd.ntmps14 (by kernel_rfl) (fun a he => ?_)
  have he0 : Env 12 [(0, Value.agg #[Value.slice A n cap, Value.bool so])] a := he
  clear he
  have hH := Hp.start w
  refine wp_seq ?_
  refine wp_region_lit ?_
  refine lNew (fun p => .pointer (some ⟨p, 0, none⟩)) he0 hH rfl rfl (wanted_plain rfl _) (rn_boxL rfl (he0.op rfl) w) ?_
  intro p1 w1 a2 hn hH1 he2
  clear he0 a hH hn
  refine lV (Value.bool false) he2 rfl rfl (wanted_plain rfl _) (rn_asg rfl (he2.op rfl) w1) ?_
  intro a3 he3
  clear he2 a2
  refine wpList_nil ?_
  refine then_ok ?_
  by_cases h1 : n ≤ 1000
  · skip
    have hw : rowB l = v := by rw [← hv, okL, hl, decide_eq_true h1, Bool.true_and]
    refine wp_seq ?_
    refine wp_region_lit ?_
    refine lV (Value.pointer (some ⟨p1, 0, none⟩)) he3 rfl rfl (wanted_plain rfl _) (rn_faL0 rfl (he3.op rfl) rfl w1) ?_
    intro a4 he4
    clear he3 a3
    refine lV (Value.slice A n cap) he4 rfl rfl (wanted_plain rfl _) (rn_ldS rfl (he4.op rfl) (hH1.at (i := 0) rfl) rfl) ?_
    intro a5 he5
    clear he4 a4
    refine lV (Value.int .i64 (n : Nat)) he5 rfl rfl (wanted_plain rfl _) (rn_lenC rfl (he5.op rfl) w1) ?_
    intro a6 he6
    clear he5 a5
    refine lC he6 rfl rfl Tryd.func10 (by kernel_rfl) rfl rfl (wanted_plain rfl _) rfl (RColumns_b (n : Int) true (by rw [decide_eq_true (by omega : (0 : Int) ≤ n), Bool.true_and]; exact decide_eq_true (by omega)) w1) ?_
    intro w7 a8 hn he8
    have hH7 := hH1.call hn
    clear he6 a6 hH1 hn
    refine lV (Value.bool true) he8 rfl rfl (wanted_plain rfl _) (rn_mv rfl (he8.op rfl) w7) ?_
    intro a9 he9
    clear he8 a8
    refine lV (Value.pointer (some ⟨p1, 0, none⟩)) he9 rfl rfl (he9.want rfl rfl rfl rfl rfl) (rn_faL0 rfl (he9.op rfl) rfl w7) ?_
    intro a10 he10
    clear he9 a9
    refine lV (Value.slice A n cap) he10 rfl rfl (he10.want rfl rfl rfl rfl rfl) (rn_ldS rfl (he10.op rfl) (hH7.at (i := 0) rfl) rfl) ?_
    intro a11 he11
    clear he10 a10
    refine lC he11 rfl rfl Tryd.func42 (by kernel_rfl) rfl rfl (he11.want rfl rfl rfl rfl rfl) rfl (hw ▸ RRow_any l n b cap A w7 (hr.new hH7.new) (by omega)) ?_
    intro w12 a13 hn he13
    have hH12 := hH7.call hn
    clear he11 a11 hH7 hn
    refine lV (Value.bool v) he13 rfl rfl (wanted_plain rfl _) (rn_pk rfl (he13.op rfl) (he13.op rfl) w12) ?_
    intro a14 he14
    clear he13 a13
    refine lV (Value.bool v) he14 rfl rfl (wanted_plain rfl _) (rn_asg rfl (he14.op rfl) w12) ?_
    intro a15 he15
    clear he14 a14
    refine wpList_nil ?_
    refine then_ok ?_
    refine wp_ret ?_
    try simp only [Exit.then, Exit.inBlock, Exit.noGoto]
    exact ret_env rfl he15 rfl ⟨rfl, hH12.new⟩
  · skip
    have hw : v = false := by rw [← hv, okL, hl, decide_eq_false h1, Bool.false_and]
    subst hw
    refine wp_seq ?_
    refine wp_region_lit ?_
    refine lV (Value.pointer (some ⟨p1, 0, none⟩)) he3 rfl rfl (wanted_plain rfl _) (rn_faL0 rfl (he3.op rfl) rfl w1) ?_
    intro a16 he16
    clear he3 a3
    refine lV (Value.slice A n cap) he16 rfl rfl (wanted_plain rfl _) (rn_ldS rfl (he16.op rfl) (hH1.at (i := 0) rfl) rfl) ?_
    intro a17 he17
    clear he16 a16
    refine lV (Value.int .i64 (n : Nat)) he17 rfl rfl (wanted_plain rfl _) (rn_lenC rfl (he17.op rfl) w1) ?_
    intro a18 he18
    clear he17 a17
    refine lC he18 rfl rfl Tryd.func10 (by kernel_rfl) rfl rfl (wanted_plain rfl _) rfl (RColumns_b (n : Int) false (by rw [decide_eq_true (by omega : (0 : Int) ≤ n), Bool.true_and]; exact decide_eq_false (by omega)) w1) ?_
    intro w19 a20 hn he20
    have hH19 := hH1.call hn
    clear he18 a18 hH1 hn
    refine lV (Value.bool false) he20 rfl rfl (wanted_plain rfl _) (rn_mv rfl (he20.op rfl) w19) ?_
    intro a21 he21
    clear he20 a20
    refine lSkip he21 rfl rfl (he21.wantNot rfl rfl rfl rfl rfl rfl) ?_
    intro a22 he22
    clear he21 a21
    refine lSkip he22 rfl rfl (he22.wantNot rfl rfl rfl rfl rfl rfl) ?_
    intro a23 he23
    clear he22 a22
    refine lSkip he23 rfl rfl (he23.wantNot rfl rfl rfl rfl rfl rfl) ?_
    intro a24 he24
    clear he23 a23
    refine lV (Value.bool false) he24 rfl rfl (wanted_plain rfl _) (rn_pk0 rfl (he24.op rfl) (he24.op rfl) w19) ?_
    intro a25 he25
    clear he24 a24
    refine lV (Value.bool false) he25 rfl rfl (wanted_plain rfl _) (rn_asg rfl (he25.op rfl) w19) ?_
    intro a26 he26
    clear he25 a25
    refine wpList_nil ?_
    refine then_ok ?_
    refine wp_ret ?_
    try simp only [Exit.then, Exit.inBlock, Exit.noGoto]
    exact ret_env rfl he26 rfl ⟨rfl, hH19.new⟩

set_option linter.unusedSimpArgs false in
set_option maxRecDepth 100000 in
set_option maxHeartbeats 1600000 in
theorem RLUsed_any (l : List Ce) (n b cap : Nat) (A : Option Addr) (so : Bool) (w : World) (hr : RdC w b A n l) (hn : n ≤ 1000000) :
    Calls Tryd.prog 21 #[.agg #[.slice A n cap, .bool so]] w fun e w' => e = .returned (.int .i64 (usedN l : Nat)) ∧ New w w' := by
  have hl := hr.1
  refine calls_args (vl := [Value.agg #[Value.slice A n cap, Value.bool so]]) 22 Tryd.func21 rfl Tryd.ntmps21 (by kernel_rfl) (fun a he => ?_)
  have he0 : Env 22 [(0, Value.agg #[Value.slice A n cap, Value.bool so])] a := he
  clear he
  have hH := Hp.start w
  refine wp_seq ?_
  refine wp_region_lit ?_
  refine lNew (fun p => .pointer (some ⟨p, 0, none⟩)) he0 hH rfl rfl (wanted_plain rfl _) (rn_boxL rfl (he0.op rfl) w) ?_
  intro p1 w1 a2 hn hH1 he2
  clear he0 a hH hn
  refine lV (Value.int .i64 0) he2 rfl rfl (wanted_plain rfl _) (rn_asg rfl (he2.op rfl) w1) ?_
  intro a3 he3
  clear he2 a2
  refine wpList_nil ?_
  refine then_ok ?_
  refine wp_seq ?_
  refine wp_region_lit ?_
  refine lV (Value.int .i64 0) he3 rfl rfl (wanted_plain rfl _) (rn_asg rfl (he3.op rfl) w1) ?_
  intro a4 he4
  clear he3 a3
  refine wpList_nil ?_
  refine then_ok ?_
  refine wp_seq ?_
  refine wp_seq ?_
  refine wp_region_lit ?_
  refine lV (Value.int .i64 0) he4 rfl rfl (wanted_plain rfl _) (rn_asg rfl (he4.op rfl) w1) ?_
  intro a5 he5
  clear he4 a4
  refine wpList_nil ?_
  refine then_ok ?_
  refine wp_block ?_
  refine loop_nat (fun q a w' => ∃ (k : Nat), q = n - k ∧ k ≤ n ∧ Env 22 [(1, Value.pointer (some ⟨p1, 0, none⟩)), (3, Value.int .i64 (usedN (l.take k) : Nat)), (4, Value.int .i64 (k : Int))] a ∧ Hp w [⟨p1, 27, #[Value.slice A n cap, Value.bool so]⟩] w') n ⟨0, by omega, by omega, he5.mem ⟨rfl, rfl, rfl, trivial⟩, hH1⟩ ?_
  clear he5 hH1
  rintro q a6 w6 ⟨k, rfl, hk, he6, hH6⟩
  as_aux_lemma =>
    by_cases hkn : k < n
    · skip
      refine wp_seq ?_
      refine wp_seq ?_
      refine wp_region_lit ?_
      refine lV (Value.int .i64 (k : Int)) he6 rfl rfl (wanted_plain rfl _) (rn_mv rfl (he6.op rfl) w6) ?_
      intro a7 he7
      clear he6 a6
      refine lV (Value.pointer (some ⟨p1, 0, none⟩)) he7 rfl rfl (wanted_plain rfl _) (rn_faL0 rfl (he7.op rfl) rfl w6) ?_
      intro a8 he8
      clear he7 a7
      refine lV (Value.slice A n cap) he8 rfl rfl (wanted_plain rfl _) (rn_ldS rfl (he8.op rfl) (hH6.at (i := 0) rfl) rfl) ?_
      intro a9 he9
      clear he8 a8
      refine lV (Value.int .i64 (n : Nat)) he9 rfl rfl (wanted_plain rfl _) (rn_lenC rfl (he9.op rfl) w6) ?_
      intro a10 he10
      clear he9 a9
      refine lV (Value.bool true) he10 rfl rfl (wanted_plain rfl _) (rn_lss rfl (he10.op rfl) (he10.op rfl) (decide_eq_true (by omega)) w6) ?_
      intro a11 he11
      clear he10 a10
      refine wpList_nil ?_
      refine then_ok ?_
      refine wp_cond_true (he11.op rfl) ?_
      refine wp_skip ?_
      refine then_ok ?_
      obtain ⟨o0, rfl⟩ := hr.base (by omega)
      obtain ⟨c, hc⟩ : ∃ c, l[k]? = some c := ⟨_, List.getElem?_eq_getElem (by have := hr.1; omega)⟩
      have hs := used_takeS hc
      obtain ⟨e, he⟩ : ∃ e, (!decide (c = eC)) = e := ⟨_, rfl⟩
      refine wp_seq ?_
      refine wp_block ?_
      refine wp_seq ?_
      refine wp_region_lit ?_
      refine lV (Value.pointer (some ⟨p1, 0, none⟩)) he11 rfl rfl (wanted_plain rfl _) (rn_faL0 rfl (he11.op rfl) rfl w6) ?_
      intro a12 he12
      clear he11 a11
      refine lV (Value.slice (some ⟨b, o0, none⟩) n cap) he12 rfl rfl (wanted_plain rfl _) (rn_ldS rfl (he12.op rfl) (hH6.at (i := 0) rfl) rfl) ?_
      intro a13 he13
      clear he12 a12
      refine lV (Value.int .i64 (k : Int)) he13 rfl rfl (wanted_plain rfl _) (rn_mv rfl (he13.op rfl) w6) ?_
      intro a14 he14
      clear he13 a13
      refine lV (Value.pointer (some ⟨b, o0 + k * 16, none⟩)) he14 rfl rfl (wanted_plain rfl _) (rn_idx (i := k) rfl (he14.op rfl) (he14.op rfl) hkn (by rw [addr_add]) w6) ?_
      intro a15 he15
      clear he14 a14
      refine lV (Ce.v c) he15 rfl rfl (wanted_plain rfl _) (rn_loadM (i := k) rfl (he15.op rfl) (hr.new hH6.new) hkn rfl hc) ?_
      intro a16 he16
      clear he15 a15
      refine lV (Ce.v (⟨0, 0, 0, 0, 1, zeroP⟩ : Ce)) he16 rfl rfl (wanted_plain rfl _) (rn_bC2 rfl (he16.op rfl) w6) ?_
      intro a17 he17
      clear he16 a16
      refine lV (Value.bool e) he17 rfl rfl (wanted_plain rfl _) (rn_neC rfl (he17.op rfl) (he17.op rfl) he w6) ?_
      intro a18 he18
      clear he17 a17
      refine wpList_nil ?_
      refine then_ok ?_
      cases e with
      | true =>
        have hce : ¬ c = eC := by simpa using he
        rw [if_neg hce] at hs
        refine wp_cond_true (he18.op rfl) ?_
        refine wp_region_lit ?_
        refine lV (Value.int .i64 (k : Int)) he18 rfl rfl (wanted_plain rfl _) (rn_mv rfl (he18.op rfl) w6) ?_
        intro a19 he19
        clear he18 a18
        refine lV (Value.int .i64 ((k + 1 : Nat) : Int)) he19 rfl rfl (wanted_plain rfl _) (rn_add1 rfl (he19.op rfl) (he19.op rfl) (by rw [IntWalk.i64_in _ ⟨by omega, by omega⟩]; rfl) w6) ?_
        intro a20 he20
        clear he19 a19
        refine lV (Value.int .i64 ((k + 1 : Nat) : Int)) he20 rfl rfl (wanted_plain rfl _) (rn_asg rfl (he20.op rfl) w6) ?_
        intro a21 he21
        clear he20 a20
        refine wpList_nil ?_
        refine block_ok ?_
        refine then_ok ?_
        refine wp_region_lit ?_
        refine lV (Value.int .i64 (k : Int)) he21 rfl rfl (wanted_plain rfl _) (rn_mv rfl (he21.op rfl) w6) ?_
        intro a22 he22
        clear he21 a21
        refine lV (Value.int .i64 ((k + 1 : Nat) : Int)) he22 rfl rfl (wanted_plain rfl _) (rn_add1 rfl (he22.op rfl) (he22.op rfl) (by rw [IntWalk.i64_in _ ⟨by omega, by omega⟩]; rfl) w6) ?_
        intro a23 he23
        clear he22 a22
        refine lV (Value.int .i64 ((k + 1 : Nat) : Int)) he23 rfl rfl (wanted_plain rfl _) (rn_asg rfl (he23.op rfl) w6) ?_
        intro a24 he24
        clear he23 a23
        refine wpList_nil ?_
        refine then_ok ?_
        have hq25 : Env 22 [(1, Value.pointer (some ⟨p1, 0, none⟩)), (3, Value.int .i64 (usedN (l.take (k + 1)) : Nat)), (4, Value.int .i64 ((k + 1 : Nat) : Int))] a24 := by rw [hs]; exact he24.mem ⟨rfl, rfl, rfl, trivial⟩
        exact ⟨n - (k + 1), by omega, k + 1, rfl, by omega, hq25, hH6⟩
      | false =>
        have hce : c = eC := by simpa using he
        rw [if_pos hce] at hs
        refine wp_cond_false (he18.op rfl) ?_
        refine wp_skip ?_
        refine block_ok ?_
        refine then_ok ?_
        refine wp_region_lit ?_
        refine lV (Value.int .i64 (k : Int)) he18 rfl rfl (wanted_plain rfl _) (rn_mv rfl (he18.op rfl) w6) ?_
        intro a26 he26
        clear he18 a18
        refine lV (Value.int .i64 ((k + 1 : Nat) : Int)) he26 rfl rfl (wanted_plain rfl _) (rn_add1 rfl (he26.op rfl) (he26.op rfl) (by rw [IntWalk.i64_in _ ⟨by omega, by omega⟩]; rfl) w6) ?_
        intro a27 he27
        clear he26 a26
        refine lV (Value.int .i64 ((k + 1 : Nat) : Int)) he27 rfl rfl (wanted_plain rfl _) (rn_asg rfl (he27.op rfl) w6) ?_
        intro a28 he28
        clear he27 a27
        refine wpList_nil ?_
        refine then_ok ?_
        have hq29 : Env 22 [(1, Value.pointer (some ⟨p1, 0, none⟩)), (3, Value.int .i64 (usedN (l.take (k + 1)) : Nat)), (4, Value.int .i64 ((k + 1 : Nat) : Int))] a28 := by rw [hs]; exact he28.mem ⟨rfl, rfl, rfl, trivial⟩
        exact ⟨n - (k + 1), by omega, k + 1, rfl, by omega, hq29, hH6⟩
    · skip
      refine wp_seq ?_
      refine wp_seq ?_
      refine wp_region_lit ?_
      refine lV (Value.int .i64 (k : Int)) he6 rfl rfl (wanted_plain rfl _) (rn_mv rfl (he6.op rfl) w6) ?_
      intro a30 he30
      clear he6 a6
      refine lV (Value.pointer (some ⟨p1, 0, none⟩)) he30 rfl rfl (wanted_plain rfl _) (rn_faL0 rfl (he30.op rfl) rfl w6) ?_
      intro a31 he31
      clear he30 a30
      refine lV (Value.slice A n cap) he31 rfl rfl (wanted_plain rfl _) (rn_ldS rfl (he31.op rfl) (hH6.at (i := 0) rfl) rfl) ?_
      intro a32 he32
      clear he31 a31
      refine lV (Value.int .i64 (n : Nat)) he32 rfl rfl (wanted_plain rfl _) (rn_lenC rfl (he32.op rfl) w6) ?_
      intro a33 he33
      clear he32 a32
      refine lV (Value.bool false) he33 rfl rfl (wanted_plain rfl _) (rn_lss rfl (he33.op rfl) (he33.op rfl) (decide_eq_false (by omega)) w6) ?_
      intro a34 he34
      clear he33 a33
      refine wpList_nil ?_
      refine then_ok ?_
      refine wp_cond_false (he34.op rfl) ?_
      refine wp_exit ?_
      simp only [Exit.then, Exit.inBlock, if_true]
      have he35 : Env 22 [(3, Value.int .i64 (usedN (l.take k) : Nat))] a34 := he34.mem ⟨rfl, trivial⟩
      clear he34
      have hH36 := hH6.tail rfl
      clear hH6
      refine wp_seq ?_
      refine wp_region_lit ?_
      refine lV (Value.int .i64 (usedN (l.take k) : Nat)) he35 rfl rfl (wanted_plain rfl _) (rn_mv rfl (he35.op rfl) w6) ?_
      intro a37 he37
      clear he35 a34
      refine lV (Value.int .i64 (usedN (l.take k) : Nat)) he37 rfl rfl (wanted_plain rfl _) (rn_asg rfl (he37.op rfl) w6) ?_
      intro a38 he38
      clear he37 a37
      refine wpList_nil ?_
      refine then_ok ?_
      refine wp_ret ?_
      try simp only [Exit.then, Exit.inBlock, Exit.noGoto]
      exact ret_env rfl he38 rfl ⟨by rw [List.take_of_length_le (by omega)], hH36.new⟩

theorem rep_len (k : Nat) (c : Ce) : (List.replicate k c).length = k := List.length_replicate
set_option linter.unusedSimpArgs false in
set_option maxRecDepth 100000 in
set_option maxHeartbeats 1600000 in
theorem RNew_any (n : Int) (hn : n ≤ 1000000) (w : World) :
    Calls Tryd.prog 12 #[.int .i64 n] w (LnSaid (List.replicate n.toNat eC) false w) := by
  refine calls_args (vl := [Value.int .i64 n]) 17 Tryd.func12 rfl Tryd.ntmps12 (by kernel_rfl) (fun a he => ?_)
  have he0 : Env 17 [(0, Value.int .i64 n)] a := he
  clear he
  have hH := Hp.start w
  refine wp_seq ?_
  refine wp_region_lit ?_
  refine lNew (fun p => .pointer (some ⟨p, 0, none⟩)) he0 hH rfl rfl (wanted_plain rfl _) (rn_allocL rfl w) ?_
  intro p1 w1 a2 hn hH1 he2
  clear he0 a hH hn
  refine wpList_nil ?_
  refine then_ok ?_
  refine wp_seq ?_
  refine wp_region_lit ?_
  refine lNew (fun p => .pointer (some ⟨p, 0, none⟩)) he2 hH1 rfl rfl (wanted_plain rfl _) (rn_allocL rfl w1) ?_
  intro p3 w3 a4 hn hH3 he4
  clear he2 a2 hH1 hn
  refine wpList_nil ?_
  refine then_ok ?_
  refine wp_seq ?_
  refine wp_seq ?_
  refine wp_region_lit ?_
  refine lV (Value.int .i64 0) he4 rfl rfl (wanted_plain rfl _) (rn_asg rfl (he4.op rfl) w3) ?_
  intro a5 he5
  clear he4 a4
  refine wpList_nil ?_
  refine then_ok ?_
  refine wp_block ?_
  refine loop_nat (fun q a w' => ∃ (k : Nat) (Ar : Option Addr) (cr : Nat), q = n.toNat - k ∧ k ≤ n.toNat ∧ Env 17 [(0, Value.int .i64 n), (2, Value.pointer (some ⟨p1, 0, none⟩)), (3, Value.pointer (some ⟨p3, 0, none⟩)), (4, Value.int .i64 (k : Int))] a ∧ Hp w [⟨p3, 27, #[Value.slice Ar (List.replicate k eC).length cr, Value.bool false]⟩, ⟨p1, 27, #[Value.slice none 0 0, Value.bool false]⟩] w' ∧ OwnC w' w.heap.size (.slice Ar (List.replicate k eC).length cr) (List.replicate k eC).length (List.replicate k eC)) n.toNat ⟨0, none, 0, by omega, by omega, he5.mem ⟨rfl, rfl, rfl, rfl, trivial⟩, hH3, own_nil _ _⟩ ?_
  clear he5 hH3
  rintro q a6 w6 ⟨k, Ar, cr, rfl, hk, he6, hH6, hown⟩
  as_aux_lemma =>
    by_cases hkn : (k : Int) < n
    · skip
      refine wp_seq ?_
      refine wp_seq ?_
      refine wp_region_lit ?_
      refine lV (Value.int .i64 (k : Int)) he6 rfl rfl (wanted_plain rfl _) (rn_mv rfl (he6.op rfl) w6) ?_
      intro a7 he7
      clear he6 a6
      refine lV (Value.int .i64 n) he7 rfl rfl (wanted_plain rfl _) (rn_mv rfl (he7.op rfl) w6) ?_
      intro a8 he8
      clear he7 a7
      refine lV (Value.bool true) he8 rfl rfl (wanted_plain rfl _) (rn_lss rfl (he8.op rfl) (he8.op rfl) (decide_eq_true (by omega)) w6) ?_
      intro a9 he9
      clear he8 a8
      refine wpList_nil ?_
      refine then_ok ?_
      refine wp_cond_true (he9.op rfl) ?_
      refine wp_skip ?_
      refine then_ok ?_
      refine wp_seq ?_
      refine wp_block ?_
      have hrl := rep_len k eC
      refine wp_region_lit ?_
      refine lV (Value.pointer (some ⟨p3, 0, none⟩)) he9 rfl rfl (wanted_plain rfl _) (rn_faL0 rfl (he9.op rfl) rfl w6) ?_
      intro a10 he10
      clear he9 a9
      refine lV (Value.slice Ar (List.replicate k eC).length cr) he10 rfl rfl (wanted_plain rfl _) (rn_ldS rfl (he10.op rfl) (hH6.at (i := 0) rfl) rfl) ?_
      intro a11 he11
      clear he10 a10
      refine lV (Ce.v (⟨0, 0, 0, 0, 1, zeroP⟩ : Ce)) he11 rfl rfl (wanted_plain rfl _) (rn_bC2 rfl (he11.op rfl) w6) ?_
      intro a12 he12
      clear he11 a11
      refine lNew (fun p => .slice (some ⟨p, 0, none⟩) 1 1) he12 hH6 rfl rfl (wanted_plain rfl _) (rn_bs1 rfl (he12.op rfl) w6) ?_
      intro p13 w13 a14 hn hH13 he14
      replace hown := own_fr hown hn (fun _ _ h => h)
      clear he12 a12 hH6 hn
      have hnew := rdg_blk (R := rC) (n := 1) (l := [eC]) (hH13.at (i := 0) rfl) rfl rfl
      have hH15 := hH13.tail rfl
      clear hH13
      refine lEx he14 rfl rfl (wanted_plain rfl _) (rx_append hown (rdc_of hnew) rfl (he14.op rfl) (he14.op rfl) (by omega) hH15.new.size) ?_
      rintro vx wx ⟨hox, hgx, horx⟩
      have hHx := hH15.ownC hown hgx (Nat.le_refl _) (by kernel_rfl)
      intro a16 he16
      clear he14 a14
      clear hnew hgx horx hown
      rw [← List.replicate_succ'] at hox
      have hq_ := own_shape hox
      clear hox
      obtain ⟨Ax, cx, rfl, hox⟩ := hq_
      refine lV (Value.pointer (some ⟨p3, 0, none⟩)) he16 rfl rfl (wanted_plain rfl _) (rn_faL0 rfl (he16.op rfl) rfl wx) ?_
      intro a17 he17
      clear he16 a16
      refine lSetF 0 #[Value.slice Ax (List.replicate (k + 1) eC).length cx] (cs := #[Value.slice Ax (List.replicate (k + 1) eC).length cx, Value.bool false]) he17 hHx rfl (wanted_plain rfl _) rfl rfl rfl rfl rfl (by kernel_rfl) (by kernel_rfl) (by kernel_rfl) rfl ?_
      intro w18 a19 hH18 hf he19
      replace hox := own_fr hox hf (fun k_ hk_ e_ => own_far hox (hHx.at (i := 0) rfl) (show 60 ≠ 27 from by decide) (hk_.trans (congrArg some e_)))
      replace hH18 : Hp w [⟨p3, 27, #[Value.slice Ax (List.replicate (k + 1) eC).length cx, Value.bool false]⟩, ⟨p1, 27, #[Value.slice none 0 0, Value.bool false]⟩] w18 := hH18
      clear hf
      clear he17 a17 hHx
      refine wpList_nil ?_
      refine block_ok ?_
      refine then_ok ?_
      refine wp_region_lit ?_
      refine lV (Value.int .i64 (k : Int)) he19 rfl rfl (wanted_plain rfl _) (rn_mv rfl (he19.op rfl) w18) ?_
      intro a20 he20
      clear he19 a19
      refine lV (Value.int .i64 ((k + 1 : Nat) : Int)) he20 rfl rfl (wanted_plain rfl _) (rn_add1 rfl (he20.op rfl) (he20.op rfl) (by rw [IntWalk.i64_in _ ⟨by omega, by omega⟩]; rfl) w18) ?_
      intro a21 he21
      clear he20 a20
      refine lV (Value.int .i64 ((k + 1 : Nat) : Int)) he21 rfl rfl (wanted_plain rfl _) (rn_asg rfl (he21.op rfl) w18) ?_
      intro a22 he22
      clear he21 a21
      refine wpList_nil ?_
      refine then_ok ?_
      exact ⟨n.toNat - (k + 1), by omega, k + 1, Ax, cx, rfl, by omega, he22.mem ⟨rfl, rfl, rfl, rfl, trivial⟩, hH18, hox⟩
    · skip
      refine wp_seq ?_
      refine wp_seq ?_
      refine wp_region_lit ?_
      refine lV (Value.int .i64 (k : Int)) he6 rfl rfl (wanted_plain rfl _) (rn_mv rfl (he6.op rfl) w6) ?_
      intro a23 he23
      clear he6 a6
      refine lV (Value.int .i64 n) he23 rfl rfl (wanted_plain rfl _) (rn_mv rfl (he23.op rfl) w6) ?_
      intro a24 he24
      clear he23 a23
      refine lV (Value.bool false) he24 rfl rfl (wanted_plain rfl _) (rn_lss rfl (he24.op rfl) (he24.op rfl) (decide_eq_false (by omega)) w6) ?_
      intro a25 he25
      clear he24 a24
      refine wpList_nil ?_
      refine then_ok ?_
      refine wp_cond_false (he25.op rfl) ?_
      refine wp_exit ?_
      simp only [Exit.then, Exit.inBlock, if_true]
      obtain rfl : k = n.toNat := by omega
      have he26 : Env 17 [(2, Value.pointer (some ⟨p1, 0, none⟩)), (3, Value.pointer (some ⟨p3, 0, none⟩))] a25 := he25.mem ⟨rfl, rfl, trivial⟩
      clear he25
      refine wp_seq ?_
      refine wp_region_lit ?_
      refine lV (Value.agg #[Value.slice Ar (List.replicate n.toNat eC).length cr, Value.bool false]) he26 rfl rfl (wanted_plain rfl _) (rn_ldp [Value.slice Ar (List.replicate n.toNat eC).length cr, Value.bool false] rfl (he26.op rfl) undL rfl infoL2 (hH6.at (i := 0) rfl) rfl) ?_
      intro a27 he27
      clear he26 a25
      refine lSetF 1 #[Value.slice Ar (List.replicate n.toNat eC).length cr, Value.bool false] (cs := #[Value.slice Ar (List.replicate n.toNat eC).length cr, Value.bool false]) he27 hH6 rfl (wanted_plain rfl _) rfl rfl rfl rfl rfl (by kernel_rfl) (by kernel_rfl) (by kernel_rfl) rfl ?_
      intro w28 a29 hH28 hf he29
      replace hown := own_fr hown hf (fun k_ hk_ e_ => own_far hown (hH6.at (i := 1) rfl) (show 60 ≠ 27 from by decide) (hk_.trans (congrArg some e_)))
      replace hH28 : Hp w [⟨p3, 27, #[Value.slice Ar (List.replicate n.toNat eC).length cr, Value.bool false]⟩, ⟨p1, 27, #[Value.slice Ar (List.replicate n.toNat eC).length cr, Value.bool false]⟩] w28 := hH28
      clear hf
      clear he27 a27 hH6
      refine wpList_nil ?_
      refine then_ok ?_
      refine wp_ret ?_
      try simp only [Exit.then, Exit.inBlock]
      exact ret_row rfl he29 rfl (hH28.at (i := 1) rfl) undL rfl infoL2 ⟨⟨_, _, rfl, hown⟩, hH28.new⟩

set_option linter.unusedSimpArgs false in
set_option maxRecDepth 100000 in
set_option maxHeartbeats 1600000 in
theorem RTrim_any (l : List Ce) (n b cap : Nat) (A : Option Addr) (so : Bool) (w : World) (hr : RdC w b A n l) (hc : n ≤ cap) (hn : n ≤ 1000000) :
    Calls Tryd.prog 31 #[.agg #[.slice A n cap, .bool so]] w (LnSaid (l.take (usedN l)) so w) := by
  have hl := hr.1
  have hu := used_le l
  refine calls_args (vl := [Value.agg #[Value.slice A n cap, Value.bool so]]) 12 Tryd.func31 rfl Tryd.ntmps31 (by kernel_rfl) (fun a he => ?_)
  have he0 : Env 12 [(0, Value.agg #[Value.slice A n cap, Value.bool so])] a := he
  clear he
  have hH := Hp.start w
  refine wp_seq ?_
  refine wp_region_lit ?_
  refine lNew (fun p => .pointer (some ⟨p, 0, none⟩)) he0 hH rfl rfl (wanted_plain rfl _) (rn_boxL rfl (he0.op rfl) w) ?_
  intro p1 w1 a2 hn hH1 he2
  clear he0 a hH hn
  refine lNew (fun p => .pointer (some ⟨p, 0, none⟩)) he2 hH1 rfl rfl (wanted_plain rfl _) (rn_allocL rfl w1) ?_
  intro p3 w3 a4 hn hH3 he4
  clear he2 a2 hH1 hn
  refine wpList_nil ?_
  refine then_ok ?_
  refine wp_seq ?_
  refine wp_region_held_drew (S := Hp w [⟨p1, 27, #[Value.slice A n cap, Value.bool so]⟩]) (by kernel_rfl) ((hH3.drew).drop1 0 rfl) (fun _ => ?_)
  have hn : New w3 (World.drew w3) := (Fr.refl _ _).drew
  clear hn
  have hH5 := hH3.drew
  clear hH3
  generalize World.drew w3 = w5 at *
  refine hV (fuel := 9) (i := 0) (Value.pointer (some ⟨p1, 0, none⟩)) he4 rfl rfl rfl (by kernel_rfl) (by kernel_rfl) (by kernel_rfl) (fun _ _ _ h => h) (wanted_plain rfl _) (fun w' _ => rn_faL0 rfl (he4.op rfl) rfl w') (hH5.drop1 0 rfl) ?_
  intro a6 he6
  clear he4 a4
  refine hV (fuel := 8) (i := 1) (Value.slice A n cap) he6 rfl rfl rfl (by kernel_rfl) (by kernel_rfl) (by kernel_rfl) (fun _ _ _ h => h) (wanted_plain rfl _) (fun w' hw' => rn_ldS rfl (he6.op rfl) (hw'.at (i := 0) rfl) rfl) (hH5.drop1 0 rfl) ?_
  intro a7 he7
  clear he6 a6
  refine hV (fuel := 7) (i := 2) (Value.agg #[Value.slice A n cap, Value.bool so]) he7 rfl rfl rfl (by kernel_rfl) (by kernel_rfl) (by kernel_rfl) (fun _ _ _ h => h) (wanted_plain rfl _) (fun w' hw' => rn_ldp [Value.slice A n cap, Value.bool so] rfl (he7.op rfl) undL rfl infoL2 (hw'.at (i := 0) rfl) rfl) (hH5.drop1 0 rfl) ?_
  intro a8 he8
  clear he7 a7
  refine hV (fuel := 6) (i := 6) (Value.pointer (some ⟨p1, 1, none⟩)) he8 rfl rfl rfl (by kernel_rfl) (by kernel_rfl) (by kernel_rfl) (fun _ _ _ h => h) (wanted_plain rfl _) (fun w' _ => rn_faL1 rfl (he8.op rfl) rfl w') (hH5.drop1 0 rfl) ?_
  intro a9 he9
  clear he8 a8
  refine hV (fuel := 5) (i := 7) (Value.bool so) he9 rfl rfl rfl (by kernel_rfl) (by kernel_rfl) (by kernel_rfl) (fun _ _ _ h => h) (wanted_plain rfl _) (fun w' hw' => rn_ldB rfl (he9.op rfl) (hw'.at (i := 0) rfl) rfl) (hH5.drop1 0 rfl) ?_
  intro a10 he10
  clear he9 a9
  refine hC (fuel := 4) (i := 3) he10 (by kernel_rfl) rfl rfl rfl Tryd.func21 (by kernel_rfl) rfl rfl (wanted_plain rfl _) rfl (RLUsed_any l n b cap A so w5 (hr.new hH5.new) hn) ?_
  rintro _ w11 ⟨rfl, hn⟩
  have hH11 := hH5.call hn
  refine ⟨_, rfl, (hH11.drop1 0 rfl), ?_⟩
  intro a12 he12
  clear he10 a10 hH5 hn
  obtain ⟨Ac, eAc, rAc⟩ := slh_rd (c := cap) (k := (usedN l)) (hr.new hH11.new) (by omega)
  refine hV (fuel := 3) (i := 4) (Value.slice Ac (usedN l) cap) he12 rfl rfl rfl (by kernel_rfl) (by kernel_rfl) (by kernel_rfl) (fun _ _ _ h => h) (wanted_plain rfl _) (fun w' _ => rn_slh (k := (usedN l)) rfl (he12.op rfl) (he12.op rfl) (by omega) eAc w') (hH11.drop1 0 rfl) ?_
  intro a13 he13
  clear he12 a12
  refine hEx (fuel := 2) (i := 5) he13 (by kernel_rfl) rfl rfl rfl (wanted_plain rfl _) (rx_append (own_nil w11 w.heap.size) rAc rfl (he13.op rfl) (he13.op rfl) (by omega) hH11.new.size) ?_
  rintro vx wx ⟨hox, hgx, horx⟩
  have hHx := hH11.ownC (own_nil w11 w.heap.size) hgx (Nat.le_refl _) (by kernel_rfl)
  refine ⟨(hHx.drop1 0 rfl), ?_⟩
  intro a14 he14
  clear he13 a13
  clear hgx horx rAc
  rw [List.nil_append] at hox
  have hq_ := own_shape hox
  clear hox
  obtain ⟨Ax, cx, rfl, hox⟩ := hq_
  refine hV (fuel := 1) (i := 8) (Value.agg #[Value.slice Ax (l.take (usedN l)).length cx, Value.bool so]) he14 rfl rfl rfl (by kernel_rfl) (by kernel_rfl) (by kernel_rfl) (fun _ _ _ h => h) (wanted_plain rfl _) (fun w' _ => rn_bL01 rfl (he14.op rfl) (he14.op rfl) w') (hHx.drop1 0 rfl) ?_
  intro a15 he15
  clear he14 a14
  refine hSetV (fuel := 0) (n := 9) 0 #[Value.slice Ax (l.take (usedN l)).length cx, Value.bool so] (cs := #[Value.slice Ax (l.take (usedN l)).length cx, Value.bool so]) he15 hHx (by kernel_rfl) rfl rfl (wanted_plain rfl _) rfl rfl rfl rfl rfl (by kernel_rfl) (by kernel_rfl) (by kernel_rfl) rfl ?_
  intro w16 a17 hH16 hf he17
  replace hox := own_fr hox hf (fun k_ hk_ e_ => own_far hox (hHx.at (i := 0) rfl) (show 60 ≠ 27 from by decide) (hk_.trans (congrArg some e_)))
  replace hH16 : Hp w [⟨p3, 27, #[Value.slice Ax (l.take (usedN l)).length cx, Value.bool so]⟩, ⟨p1, 27, #[Value.slice A n cap, Value.bool so]⟩] w16 := hH16
  refine ⟨(hH16.drop1 0 rfl), ?_⟩
  clear hf
  clear he15 a15 hHx
  refine wpAnyH_done (by kernel_rfl) ?_ _
  refine then_ok ?_
  refine wp_ret ?_
  try simp only [Exit.then, Exit.inBlock]
  exact ret_row rfl he17 rfl (hH16.at (i := 0) rfl) undL rfl infoL2 ⟨⟨_, _, rfl, hox⟩, hH16.new⟩

set_option linter.unusedSimpArgs false in
set_option maxRecDepth 100000 in
set_option maxHeartbeats 1600000 in
theorem RCopy_any (l : List Ce) (n b cap : Nat) (A : Option Addr) (so : Bool) (w : World) (hr : RdC w b A n l) (hn : n ≤ 1000000) :
    Calls Tryd.prog 26 #[.agg #[.slice A n cap, .bool so]] w (LnSaid l so w) := by
  refine calls_args (vl := [Value.agg #[Value.slice A n cap, Value.bool so]]) 9 Tryd.func26 rfl Tryd.ntmps26 (by kernel_rfl) (fun a he => ?_)
  have he0 : Env 9 [(0, Value.agg #[Value.slice A n cap, Value.bool so])] a := he
  clear he
  have hH := Hp.start w
  refine wp_seq ?_
  refine wp_region_lit ?_
  refine lNew (fun p => .pointer (some ⟨p, 0, none⟩)) he0 hH rfl rfl (wanted_plain rfl _) (rn_boxL rfl (he0.op rfl) w) ?_
  intro p1 w1 a2 hn hH1 he2
  clear he0 a hH hn
  refine lNew (fun p => .pointer (some ⟨p, 0, none⟩)) he2 hH1 rfl rfl (wanted_plain rfl _) (rn_allocL rfl w1) ?_
  intro p3 w3 a4 hn hH3 he4
  clear he2 a2 hH1 hn
  refine wpList_nil ?_
  refine then_ok ?_
  refine wp_seq ?_
  refine wp_region_held_drew (S := Hp w [⟨p1, 27, #[Value.slice A n cap, Value.bool so]⟩]) (by kernel_rfl) ((hH3.drew).drop1 0 rfl) (fun _ => ?_)
  have hn : New w3 (World.drew w3) := (Fr.refl _ _).drew
  clear hn
  have hH5 := hH3.drew
  clear hH3
  generalize World.drew w3 = w5 at *
  refine hV (fuel := 6) (i := 0) (Value.pointer (some ⟨p1, 0, none⟩)) he4 rfl rfl rfl (by kernel_rfl) (by kernel_rfl) (by kernel_rfl) (fun _ _ _ h => h) (wanted_plain rfl _) (fun w' _ => rn_faL0 rfl (he4.op rfl) rfl w') (hH5.drop1 0 rfl) ?_
  intro a6 he6
  clear he4 a4
  refine hV (fuel := 5) (i := 1) (Value.slice A n cap) he6 rfl rfl rfl (by kernel_rfl) (by kernel_rfl) (by kernel_rfl) (fun _ _ _ h => h) (wanted_plain rfl _) (fun w' hw' => rn_ldS rfl (he6.op rfl) (hw'.at (i := 0) rfl) rfl) (hH5.drop1 0 rfl) ?_
  intro a7 he7
  clear he6 a6
  refine hV (fuel := 4) (i := 3) (Value.pointer (some ⟨p1, 1, none⟩)) he7 rfl rfl rfl (by kernel_rfl) (by kernel_rfl) (by kernel_rfl) (fun _ _ _ h => h) (wanted_plain rfl _) (fun w' _ => rn_faL1 rfl (he7.op rfl) rfl w') (hH5.drop1 0 rfl) ?_
  intro a8 he8
  clear he7 a7
  refine hV (fuel := 3) (i := 4) (Value.bool so) he8 rfl rfl rfl (by kernel_rfl) (by kernel_rfl) (by kernel_rfl) (fun _ _ _ h => h) (wanted_plain rfl _) (fun w' hw' => rn_ldB rfl (he8.op rfl) (hw'.at (i := 0) rfl) rfl) (hH5.drop1 0 rfl) ?_
  intro a9 he9
  clear he8 a8
  refine hEx (fuel := 2) (i := 2) he9 (by kernel_rfl) rfl rfl rfl (wanted_plain rfl _) (rx_append (own_nil w5 w.heap.size) (hr.new hH5.new) rfl (he9.op rfl) (he9.op rfl) (by omega) hH5.new.size) ?_
  rintro vx wx ⟨hox, hgx, horx⟩
  have hHx := hH5.ownC (own_nil w5 w.heap.size) hgx (Nat.le_refl _) (by kernel_rfl)
  refine ⟨(hHx.drop1 0 rfl), ?_⟩
  intro a10 he10
  clear he9 a9
  clear hgx horx
  rw [List.nil_append] at hox
  have hq_ := own_shape hox
  clear hox
  obtain ⟨Ax, cx, rfl, hox⟩ := hq_
  refine hV (fuel := 1) (i := 5) (Value.agg #[Value.slice Ax l.length cx, Value.bool so]) he10 rfl rfl rfl (by kernel_rfl) (by kernel_rfl) (by kernel_rfl) (fun _ _ _ h => h) (wanted_plain rfl _) (fun w' _ => rn_bL01 rfl (he10.op rfl) (he10.op rfl) w') (hHx.drop1 0 rfl) ?_
  intro a11 he11
  clear he10 a10
  refine hSetV (fuel := 0) (n := 6) 0 #[Value.slice Ax l.length cx, Value.bool so] (cs := #[Value.slice Ax l.length cx, Value.bool so]) he11 hHx (by kernel_rfl) rfl rfl (wanted_plain rfl _) rfl rfl rfl rfl rfl (by kernel_rfl) (by kernel_rfl) (by kernel_rfl) rfl ?_
  intro w12 a13 hH12 hf he13
  replace hox := own_fr hox hf (fun k_ hk_ e_ => own_far hox (hHx.at (i := 0) rfl) (show 60 ≠ 27 from by decide) (hk_.trans (congrArg some e_)))
  replace hH12 : Hp w [⟨p3, 27, #[Value.slice Ax l.length cx, Value.bool so]⟩, ⟨p1, 27, #[Value.slice A n cap, Value.bool so]⟩] w12 := hH12
  refine ⟨(hH12.drop1 0 rfl), ?_⟩
  clear hf
  clear he11 a11 hHx
  refine wpAnyH_done (by kernel_rfl) ?_ _
  refine then_ok ?_
  refine wp_ret ?_
  try simp only [Exit.then, Exit.inBlock]
  exact ret_row rfl he13 rfl (hH12.at (i := 0) rfl) undL rfl infoL2 ⟨⟨_, _, rfl, hox⟩, hH12.new⟩

set_option linter.unusedSimpArgs false in
set_option maxRecDepth 100000 in
set_option maxHeartbeats 1600000 in
theorem RFit_any (l : List Ce) (n b cap : Nat) (A : Option Addr) (so : Bool) (k : Nat) (hk : k ≤ 1000000) (w : World) (hr : RdC w b A n l) (hc : n ≤ cap) (hn : n ≤ 1000000) :
    Calls Tryd.prog 33 #[.agg #[.slice A n cap, .bool so], .int .i64 k] w (LnSaid (fitL l k) so w) := by
  have hl := hr.1
  have hkl : (fixL (l.take (min k n))).length = min k n := by rw [fixL_len, List.length_take]; omega
  refine calls_args (vl := [Value.agg #[Value.slice A n cap, Value.bool so], Value.int .i64 (k : Int)]) 31 Tryd.func33 rfl Tryd.ntmps33 (by kernel_rfl) (fun a he => ?_)
  have he0 : Env 31 [(0, Value.agg #[Value.slice A n cap, Value.bool so]), (1, Value.int .i64 (k : Int))] a := he
  clear he
  have hH := Hp.start w
  refine wp_seq ?_
  refine wp_region_lit ?_
  refine lNew (fun p => .pointer (some ⟨p, 0, none⟩)) he0 hH rfl rfl (wanted_plain rfl _) (rn_boxL rfl (he0.op rfl) w) ?_
  intro p1 w1 a2 hn hH1 he2
  clear he0 a hH hn
  refine lNew (fun p => .pointer (some ⟨p, 0, none⟩)) he2 hH1 rfl rfl (wanted_plain rfl _) (rn_allocL rfl w1) ?_
  intro p3 w3 a4 hn hH3 he4
  clear he2 a2 hH1 hn
  refine wpList_nil ?_
  refine then_ok ?_
  refine wp_seq ?_
  refine wp_region_lit ?_
  refine lV (Value.pointer (some ⟨p1, 1, none⟩)) he4 rfl rfl (wanted_plain rfl _) (rn_faL1 rfl (he4.op rfl) rfl w3) ?_
  intro a5 he5
  clear he4 a4
  refine lV (Value.bool so) he5 rfl rfl (wanted_plain rfl _) (rn_ldB rfl (he5.op rfl) (hH3.at (i := 1) rfl) rfl) ?_
  intro a6 he6
  clear he5 a5
  refine lV (Value.agg #[Value.slice none 0 0, Value.bool so]) he6 rfl rfl (wanted_plain rfl _) (rn_bL1 rfl (he6.op rfl) w3) ?_
  intro a7 he7
  clear he6 a6
  refine lNew (fun p => .pointer (some ⟨p, 0, none⟩)) he7 hH3 rfl rfl (wanted_plain rfl _) (rn_allocL rfl w3) ?_
  intro p8 w8 a9 hn hH8 he9
  clear he7 a7 hH3 hn
  refine lSetF 0 #[Value.slice none 0 0, Value.bool so] (cs := #[Value.slice none 0 0, Value.bool so]) he9 hH8 rfl (wanted_plain rfl _) rfl rfl rfl rfl rfl (by kernel_rfl) (by kernel_rfl) (by kernel_rfl) rfl ?_
  intro w10 a11 hH10 hf he11
  replace hH10 : Hp w [⟨p8, 27, #[Value.slice none 0 0, Value.bool so]⟩, ⟨p3, 27, #[Value.slice none 0 0, Value.bool false]⟩, ⟨p1, 27, #[Value.slice A n cap, Value.bool so]⟩] w10 := hH10
  clear hf
  clear he9 a9 hH8
  refine wpList_nil ?_
  refine then_ok ?_
  refine wp_seq ?_
  refine wp_region_lit ?_
  refine lV (Value.pointer (some ⟨p1, 0, none⟩)) he11 rfl rfl (wanted_plain rfl _) (rn_faL0 rfl (he11.op rfl) rfl w10) ?_
  intro a12 he12
  clear he11 a11
  refine lV (Value.slice A n cap) he12 rfl rfl (wanted_plain rfl _) (rn_ldS rfl (he12.op rfl) (hH10.at (i := 2) rfl) rfl) ?_
  intro a13 he13
  clear he12 a12
  refine lV (Value.int .i64 (k : Int)) he13 rfl rfl (wanted_plain rfl _) (rn_mv rfl (he13.op rfl) w10) ?_
  intro a14 he14
  clear he13 a13
  refine lV (Value.pointer (some ⟨p1, 0, none⟩)) he14 rfl rfl (wanted_plain rfl _) (rn_faL0 rfl (he14.op rfl) rfl w10) ?_
  intro a15 he15
  clear he14 a14
  refine lV (Value.slice A n cap) he15 rfl rfl (wanted_plain rfl _) (rn_ldS rfl (he15.op rfl) (hH10.at (i := 2) rfl) rfl) ?_
  intro a16 he16
  clear he15 a15
  refine lV (Value.int .i64 (n : Nat)) he16 rfl rfl (wanted_plain rfl _) (rn_lenC rfl (he16.op rfl) w10) ?_
  intro a17 he17
  clear he16 a16
  refine lV (Value.int .i64 ((min k n : Nat) : Int)) he17 rfl rfl (wanted_plain rfl _) (rn_min rfl (he17.op rfl) (he17.op rfl) (by split <;> omega) w10) ?_
  intro a18 he18
  clear he17 a17
  obtain ⟨Ac, eAc, rAc⟩ := slh_rd (c := cap) (k := (min k n)) (hr.new hH10.new) (by omega)
  refine lV (Value.slice Ac (min k n) cap) he18 rfl rfl (wanted_plain rfl _) (rn_slh (k := (min k n)) rfl (he18.op rfl) (he18.op rfl) (by omega) eAc w10) ?_
  intro a19 he19
  clear he18 a18
  have hzhof := hH10.new.size
  refine lCx he19 rfl rfl Tryd.func51 (by kernel_rfl) rfl rfl (wanted_plain rfl _) rfl (FixR _ _ _ _ _ w10 rAc (by omega)) ?_
  rintro _ w20 ⟨⟨Af, cf, rfl, hof⟩, hn⟩
  replace hof := own_base hof (fun k_ hk_ => Nat.le_trans hzhof (own_blk hof k_ hk_))
  clear hzhof
  refine ⟨_, rfl, ?_⟩
  intro a21 he21
  have hH20 := hH10.call hn
  replace rAc := rAc.new hn
  clear he19 a19 hH10
  clear hn
  clear rAc
  refine lV (Value.pointer (some ⟨p8, 0, none⟩)) he21 rfl rfl (wanted_plain rfl _) (rn_faL0 rfl (he21.op rfl) rfl w20) ?_
  intro a22 he22
  clear he21 a21
  refine lSetF 0 #[Value.slice Af (fixL (l.take (min k n))).length cf] (cs := #[Value.slice Af (fixL (l.take (min k n))).length cf, Value.bool so]) he22 hH20 rfl (wanted_plain rfl _) rfl rfl rfl rfl rfl (by kernel_rfl) (by kernel_rfl) (by kernel_rfl) rfl ?_
  intro w23 a24 hH23 hf he24
  replace hof := own_fr hof hf (fun k_ hk_ e_ => own_far hof (hH20.at (i := 0) rfl) (show 60 ≠ 27 from by decide) (hk_.trans (congrArg some e_)))
  replace hH23 : Hp w [⟨p8, 27, #[Value.slice Af (fixL (l.take (min k n))).length cf, Value.bool so]⟩, ⟨p3, 27, #[Value.slice none 0 0, Value.bool false]⟩, ⟨p1, 27, #[Value.slice A n cap, Value.bool so]⟩] w23 := hH23
  clear hf
  clear he22 a22 hH20
  refine wpList_nil ?_
  refine then_ok ?_
  have hof0 : OwnC w23 w.heap.size (.slice Af (fixL (l.take (min k n)) ++ List.replicate 0 eC).length cf) (fixL (l.take (min k n)) ++ List.replicate 0 eC).length (fixL (l.take (min k n)) ++ List.replicate 0 eC) := by rw [List.replicate_zero, List.append_nil]; exact hof
  have hHq : Hp w [⟨p8, 27, #[Value.slice Af (fixL (l.take (min k n)) ++ List.replicate 0 eC).length cf, Value.bool so]⟩, ⟨p3, 27, #[Value.slice none 0 0, Value.bool false]⟩, ⟨p1, 27, #[Value.slice A n cap, Value.bool so]⟩] w23 := by rw [List.replicate_zero, List.append_nil]; exact hH23
  clear hH23 hof
  refine wp_seq ?_
  refine wp_block ?_
  refine loop_nat (fun q a w' => ∃ (j : Nat) (Ar : Option Addr) (cr : Nat), q = k - n - j ∧ j ≤ k - n ∧ Env 31 [(1, Value.int .i64 (k : Int)), (4, Value.pointer (some ⟨p3, 0, none⟩)), (5, Value.pointer (some ⟨p8, 0, none⟩))] a ∧ Hp w [⟨p8, 27, #[Value.slice Ar (fixL (l.take (min k n)) ++ List.replicate j eC).length cr, Value.bool so]⟩, ⟨p3, 27, #[Value.slice none 0 0, Value.bool false]⟩, ⟨p1, 27, #[Value.slice A n cap, Value.bool so]⟩] w' ∧ OwnC w' w.heap.size (.slice Ar (fixL (l.take (min k n)) ++ List.replicate j eC).length cr) (fixL (l.take (min k n)) ++ List.replicate j eC).length (fixL (l.take (min k n)) ++ List.replicate j eC)) (k - n) ⟨0, Af, cf, by omega, by omega, he24.mem ⟨rfl, rfl, rfl, trivial⟩, hHq, hof0⟩ ?_
  clear he24 hHq
  rintro q a26 w26 ⟨j, Ar, cr, rfl, hj, he26, hH26, hown⟩
  as_aux_lemma =>
    have hyl : (fixL (l.take (min k n)) ++ List.replicate j eC).length = min k n + j := by rw [List.length_append, hkl, List.length_replicate]
    by_cases hjn : j < k - n
    · skip
      refine wp_seq ?_
      refine wp_seq ?_
      refine wp_region_lit ?_
      refine lV (Value.pointer (some ⟨p8, 0, none⟩)) he26 rfl rfl (wanted_plain rfl _) (rn_faL0 rfl (he26.op rfl) rfl w26) ?_
      intro a27 he27
      clear he26 a26
      refine lV (Value.slice Ar (fixL (l.take (min k n)) ++ List.replicate j eC).length cr) he27 rfl rfl (wanted_plain rfl _) (rn_ldS rfl (he27.op rfl) (hH26.at (i := 0) rfl) rfl) ?_
      intro a28 he28
      clear he27 a27
      refine lV (Value.int .i64 ((min k n + j : Nat) : Int)) he28 rfl rfl (wanted_plain rfl _) ((by rw [← hyl]; exact rn_lenC rfl (he28.op rfl) w26)) ?_
      intro a29 he29
      clear he28 a28
      refine lV (Value.int .i64 (k : Int)) he29 rfl rfl (wanted_plain rfl _) (rn_mv rfl (he29.op rfl) w26) ?_
      intro a30 he30
      clear he29 a29
      refine lV (Value.bool true) he30 rfl rfl (wanted_plain rfl _) (rn_lss rfl (he30.op rfl) (he30.op rfl) (decide_eq_true (by omega)) w26) ?_
      intro a31 he31
      clear he30 a30
      refine wpList_nil ?_
      refine then_ok ?_
      refine wp_cond_true (he31.op rfl) ?_
      refine wp_skip ?_
      refine then_ok ?_
      refine wp_block ?_
      refine wp_region_lit ?_
      refine lV (Value.pointer (some ⟨p8, 0, none⟩)) he31 rfl rfl (wanted_plain rfl _) (rn_faL0 rfl (he31.op rfl) rfl w26) ?_
      intro a32 he32
      clear he31 a31
      refine lV (Value.slice Ar (fixL (l.take (min k n)) ++ List.replicate j eC).length cr) he32 rfl rfl (wanted_plain rfl _) (rn_ldS rfl (he32.op rfl) (hH26.at (i := 0) rfl) rfl) ?_
      intro a33 he33
      clear he32 a32
      refine lV (Ce.v (⟨0, 0, 0, 0, 1, zeroP⟩ : Ce)) he33 rfl rfl (wanted_plain rfl _) (rn_bC2 rfl (he33.op rfl) w26) ?_
      intro a34 he34
      clear he33 a33
      refine lNew (fun p => .slice (some ⟨p, 0, none⟩) 1 1) he34 hH26 rfl rfl (wanted_plain rfl _) (rn_bs1 rfl (he34.op rfl) w26) ?_
      intro p35 w35 a36 hn hH35 he36
      replace hown := own_fr hown hn (fun _ _ h => h)
      clear he34 a34 hH26 hn
      have hnew := rdg_blk (R := rC) (n := 1) (l := [eC]) (hH35.at (i := 0) rfl) rfl rfl
      have hH37 := hH35.tail rfl
      clear hH35
      refine lEx he36 rfl rfl (wanted_plain rfl _) (rx_append hown (rdc_of hnew) rfl (he36.op rfl) (he36.op rfl) (by omega) hH37.new.size) ?_
      rintro vx wx ⟨hox, hgx, horx⟩
      have hHx := hH37.ownC hown hgx (Nat.le_refl _) (by kernel_rfl)
      intro a38 he38
      clear he36 a36
      clear hnew hgx horx hown
      rw [List.append_assoc, ← List.replicate_succ'] at hox
      have hq_ := own_shape hox
      clear hox
      obtain ⟨Ax, cx, rfl, hox⟩ := hq_
      refine lV (Value.pointer (some ⟨p8, 0, none⟩)) he38 rfl rfl (wanted_plain rfl _) (rn_faL0 rfl (he38.op rfl) rfl wx) ?_
      intro a39 he39
      clear he38 a38
      refine lSetF 0 #[Value.slice Ax (fixL (l.take (min k n)) ++ List.replicate (j + 1) eC).length cx] (cs := #[Value.slice Ax (fixL (l.take (min k n)) ++ List.replicate (j + 1) eC).length cx, Value.bool so]) he39 hHx rfl (wanted_plain rfl _) rfl rfl rfl rfl rfl (by kernel_rfl) (by kernel_rfl) (by kernel_rfl) rfl ?_
      intro w40 a41 hH40 hf he41
      replace hox := own_fr hox hf (fun k_ hk_ e_ => own_far hox (hHx.at (i := 0) rfl) (show 60 ≠ 27 from by decide) (hk_.trans (congrArg some e_)))
      replace hH40 : Hp w [⟨p8, 27, #[Value.slice Ax (fixL (l.take (min k n)) ++ List.replicate (j + 1) eC).length cx, Value.bool so]⟩, ⟨p3, 27, #[Value.slice none 0 0, Value.bool false]⟩, ⟨p1, 27, #[Value.slice A n cap, Value.bool so]⟩] w40 := hH40
      clear hf
      clear he39 a39 hHx
      refine wpList_nil ?_
      exact ⟨k - n - (j + 1), by omega, j + 1, Ax, cx, rfl, by omega, he41.mem ⟨rfl, rfl, rfl, trivial⟩, hH40, hox⟩
    · skip
      refine wp_seq ?_
      refine wp_seq ?_
      refine wp_region_lit ?_
      refine lV (Value.pointer (some ⟨p8, 0, none⟩)) he26 rfl rfl (wanted_plain rfl _) (rn_faL0 rfl (he26.op rfl) rfl w26) ?_
      intro a42 he42
      clear he26 a26
      refine lV (Value.slice Ar (fixL (l.take (min k n)) ++ List.replicate j eC).length cr) he42 rfl rfl (wanted_plain rfl _) (rn_ldS rfl (he42.op rfl) (hH26.at (i := 0) rfl) rfl) ?_
      intro a43 he43
      clear he42 a42
      refine lV (Value.int .i64 ((min k n + j : Nat) : Int)) he43 rfl rfl (wanted_plain rfl _) ((by rw [← hyl]; exact rn_lenC rfl (he43.op rfl) w26)) ?_
      intro a44 he44
      clear he43 a43
      refine lV (Value.int .i64 (k : Int)) he44 rfl rfl (wanted_plain rfl _) (rn_mv rfl (he44.op rfl) w26) ?_
      intro a45 he45
      clear he44 a44
      refine lV (Value.bool false) he45 rfl rfl (wanted_plain rfl _) (rn_lss rfl (he45.op rfl) (he45.op rfl) (decide_eq_false (by omega)) w26) ?_
      intro a46 he46
      clear he45 a45
      refine wpList_nil ?_
      refine then_ok ?_
      refine wp_cond_false (he46.op rfl) ?_
      refine wp_exit ?_
      simp only [Exit.then, Exit.inBlock, if_true]
      obtain rfl : j = k - n := by omega
      have he47 : Env 31 [(4, Value.pointer (some ⟨p3, 0, none⟩)), (5, Value.pointer (some ⟨p8, 0, none⟩))] a46 := he46.mem ⟨rfl, rfl, trivial⟩
      clear he46
      have hfl := fitL_min l k n hl
      refine wp_seq ?_
      refine wp_region_lit ?_
      refine lV (Value.agg #[Value.slice Ar (fixL (l.take (min k n)) ++ List.replicate (k - n) eC).length cr, Value.bool so]) he47 rfl rfl (wanted_plain rfl _) (rn_ldp [Value.slice Ar (fixL (l.take (min k n)) ++ List.replicate (k - n) eC).length cr, Value.bool so] rfl (he47.op rfl) undL rfl infoL2 (hH26.at (i := 0) rfl) rfl) ?_
      intro a48 he48
      clear he47 a46
      refine lSetF 1 #[Value.slice Ar (fixL (l.take (min k n)) ++ List.replicate (k - n) eC).length cr, Value.bool so] (cs := #[Value.slice Ar (fixL (l.take (min k n)) ++ List.replicate (k - n) eC).length cr, Value.bool so]) he48 hH26 rfl (wanted_plain rfl _) rfl rfl rfl rfl rfl (by kernel_rfl) (by kernel_rfl) (by kernel_rfl) rfl ?_
      intro w49 a50 hH49 hf he50
      replace hown := own_fr hown hf (fun k_ hk_ e_ => own_far hown (hH26.at (i := 1) rfl) (show 60 ≠ 27 from by decide) (hk_.trans (congrArg some e_)))
      replace hH49 : Hp w [⟨p8, 27, #[Value.slice Ar (fixL (l.take (min k n)) ++ List.replicate (k - n) eC).length cr, Value.bool so]⟩, ⟨p3, 27, #[Value.slice Ar (fixL (l.take (min k n)) ++ List.replicate (k - n) eC).length cr, Value.bool so]⟩, ⟨p1, 27, #[Value.slice A n cap, Value.bool so]⟩] w49 := hH49
      clear hf
      clear he48 a48 hH26
      refine wpList_nil ?_
      refine then_ok ?_
      refine wp_ret ?_
      try simp only [Exit.then, Exit.inBlock]
      exact ret_row rfl he50 rfl (hH49.at (i := 1) rfl) undL rfl infoL2 ⟨⟨_, _, by rw [hfl], by rw [hfl]; exact hown⟩, hH49.new⟩

set_option linter.unusedSimpArgs false in
set_option maxRecDepth 100000 in
set_option maxHeartbeats 1600000 in
theorem RLSame_b (la lb : List Ce) (na nb ba bb ca cb : Nat) (A B : Option Addr) (sa sb v : Bool) (hv : ((sa == sb) && decide (la = lb)) = v) (w : World) (ha : RdC w ba A na la) (hb : RdC w bb B nb lb) (h1 : na ≤ 1000000) (h2 : nb ≤ 1000000) :
    Calls Tryd.prog 25 #[.agg #[.slice A na ca, .bool sa], .agg #[.slice B nb cb, .bool sb]] w fun e w' => e = .returned (.bool v) ∧ New w w' := by
  refine calls_args (vl := [Value.agg #[Value.slice A na ca, Value.bool sa], Value.agg #[Value.slice B nb cb, Value.bool sb]]) 17 Tryd.func25 rfl Tryd.ntmps25 (by kernel_rfl) (fun a he => ?_)
  have he0 : Env 17 [(0, Value.agg #[Value.slice A na ca, Value.bool sa]), (1, Value.agg #[Value.slice B nb cb, Value.bool sb])] a := he
  clear he
  have hH := Hp.start w
  refine wp_seq ?_
  refine wp_region_lit ?_
  refine lNew (fun p => .pointer (some ⟨p, 0, none⟩)) he0 hH rfl rfl (wanted_plain rfl _) (rn_boxL rfl (he0.op rfl) w) ?_
  intro p1 w1 a2 hn hH1 he2
  clear he0 a hH hn
  refine lNew (fun p => .pointer (some ⟨p, 0, none⟩)) he2 hH1 rfl rfl (wanted_plain rfl _) (rn_boxL rfl (he2.op rfl) w1) ?_
  intro p3 w3 a4 hn hH3 he4
  clear he2 a2 hH1 hn
  refine lV (Value.bool false) he4 rfl rfl (wanted_plain rfl _) (rn_asg rfl (he4.op rfl) w3) ?_
  intro a5 he5
  clear he4 a4
  refine wpList_nil ?_
  refine then_ok ?_
  obtain ⟨e, he⟩ : ∃ e, (sa == sb) = e := ⟨_, rfl⟩
  rw [he] at hv
  cases e with
  | false =>
    have hw : v = false := by simpa using hv.symm
    subst hw
    refine wp_seq ?_
    refine wp_region_lit ?_
    refine lV (Value.pointer (some ⟨p1, 1, none⟩)) he5 rfl rfl (wanted_plain rfl _) (rn_faL1 rfl (he5.op rfl) rfl w3) ?_
    intro a6 he6
    clear he5 a5
    refine lV (Value.bool sa) he6 rfl rfl (wanted_plain rfl _) (rn_ldB rfl (he6.op rfl) (hH3.at (i := 1) rfl) rfl) ?_
    intro a7 he7
    clear he6 a6
    refine lV (Value.pointer (some ⟨p3, 1, none⟩)) he7 rfl rfl (wanted_plain rfl _) (rn_faL1 rfl (he7.op rfl) rfl w3) ?_
    intro a8 he8
    clear he7 a7
    refine lV (Value.bool sb) he8 rfl rfl (wanted_plain rfl _) (rn_ldB rfl (he8.op rfl) (hH3.at (i := 0) rfl) rfl) ?_
    intro a9 he9
    clear he8 a8
    refine lV (Value.bool false) he9 rfl rfl (wanted_plain rfl _) (rn_eqB rfl (he9.op rfl) (he9.op rfl) he w3) ?_
    intro a10 he10
    clear he9 a9
    refine lV (Value.bool false) he10 rfl rfl (wanted_plain rfl _) (rn_mv rfl (he10.op rfl) w3) ?_
    intro a11 he11
    clear he10 a10
    refine lSkip he11 rfl rfl (he11.wantNot rfl rfl rfl rfl rfl rfl) ?_
    intro a12 he12
    clear he11 a11
    refine lSkip he12 rfl rfl (he12.wantNot rfl rfl rfl rfl rfl rfl) ?_
    intro a13 he13
    clear he12 a12
    refine lSkip he13 rfl rfl (he13.wantNot rfl rfl rfl rfl rfl rfl) ?_
    intro a14 he14
    clear he13 a13
    refine lSkip he14 rfl rfl (he14.wantNot rfl rfl rfl rfl rfl rfl) ?_
    intro a15 he15
    clear he14 a14
    refine lSkip he15 rfl rfl (he15.wantNot rfl rfl rfl rfl rfl rfl) ?_
    intro a16 he16
    clear he15 a15
    refine lV (Value.bool false) he16 rfl rfl (wanted_plain rfl _) (rn_pk0 rfl (he16.op rfl) (he16.op rfl) w3) ?_
    intro a17 he17
    clear he16 a16
    refine lV (Value.bool false) he17 rfl rfl (wanted_plain rfl _) (rn_asg rfl (he17.op rfl) w3) ?_
    intro a18 he18
    clear he17 a17
    refine wpList_nil ?_
    refine then_ok ?_
    refine wp_ret ?_
    try simp only [Exit.then, Exit.inBlock, Exit.noGoto]
    exact ret_env rfl he18 rfl ⟨rfl, hH3.new⟩
  | true =>
    have hw : decide (la = lb) = v := by simpa using hv
    refine wp_seq ?_
    refine wp_region_lit ?_
    refine lV (Value.pointer (some ⟨p1, 1, none⟩)) he5 rfl rfl (wanted_plain rfl _) (rn_faL1 rfl (he5.op rfl) rfl w3) ?_
    intro a19 he19
    clear he5 a5
    refine lV (Value.bool sa) he19 rfl rfl (wanted_plain rfl _) (rn_ldB rfl (he19.op rfl) (hH3.at (i := 1) rfl) rfl) ?_
    intro a20 he20
    clear he19 a19
    refine lV (Value.pointer (some ⟨p3, 1, none⟩)) he20 rfl rfl (wanted_plain rfl _) (rn_faL1 rfl (he20.op rfl) rfl w3) ?_
    intro a21 he21
    clear he20 a20
    refine lV (Value.bool sb) he21 rfl rfl (wanted_plain rfl _) (rn_ldB rfl (he21.op rfl) (hH3.at (i := 0) rfl) rfl) ?_
    intro a22 he22
    clear he21 a21
    refine lV (Value.bool true) he22 rfl rfl (wanted_plain rfl _) (rn_eqB rfl (he22.op rfl) (he22.op rfl) he w3) ?_
    intro a23 he23
    clear he22 a22
    refine lV (Value.bool true) he23 rfl rfl (wanted_plain rfl _) (rn_mv rfl (he23.op rfl) w3) ?_
    intro a24 he24
    clear he23 a23
    refine lV (Value.pointer (some ⟨p1, 0, none⟩)) he24 rfl rfl (he24.want rfl rfl rfl rfl rfl) (rn_faL0 rfl (he24.op rfl) rfl w3) ?_
    intro a25 he25
    clear he24 a24
    refine lV (Value.slice A na ca) he25 rfl rfl (he25.want rfl rfl rfl rfl rfl) (rn_ldS rfl (he25.op rfl) (hH3.at (i := 1) rfl) rfl) ?_
    intro a26 he26
    clear he25 a25
    refine lV (Value.pointer (some ⟨p3, 0, none⟩)) he26 rfl rfl (he26.want rfl rfl rfl rfl rfl) (rn_faL0 rfl (he26.op rfl) rfl w3) ?_
    intro a27 he27
    clear he26 a26
    refine lV (Value.slice B nb cb) he27 rfl rfl (he27.want rfl rfl rfl rfl rfl) (rn_ldS rfl (he27.op rfl) (hH3.at (i := 0) rfl) rfl) ?_
    intro a28 he28
    clear he27 a27
    refine lC he28 rfl rfl Tryd.func36 (by kernel_rfl) rfl rfl (he28.want rfl rfl rfl rfl rfl) rfl (hw ▸ RSame_any la lb na nb ba bb ca cb A B w3 (ha.new hH3.new) (hb.new hH3.new) h1 h2) ?_
    intro w29 a30 hn he30
    have hH29 := hH3.call hn
    clear he28 a28 hH3 hn
    refine lV (Value.bool v) he30 rfl rfl (wanted_plain rfl _) (rn_pk rfl (he30.op rfl) (he30.op rfl) w29) ?_
    intro a31 he31
    clear he30 a30
    refine lV (Value.bool v) he31 rfl rfl (wanted_plain rfl _) (rn_asg rfl (he31.op rfl) w29) ?_
    intro a32 he32
    clear he31 a31
    refine wpList_nil ?_
    refine then_ok ?_
    refine wp_ret ?_
    try simp only [Exit.then, Exit.inBlock, Exit.noGoto]
    exact ret_env rfl he32 rfl ⟨rfl, hH29.new⟩

set_option linter.unusedSimpArgs false in
set_option maxRecDepth 100000 in
set_option maxHeartbeats 1600000 in
theorem RLText_b (l : List Ce) (n b cap : Nat) (A : Option Addr) (so : Bool) (t : ByteArray) (ht : runesBytes (textsC (l.take (usedN l))) = t) (w : World) (hr : RdC w b A n l) (hc : n ≤ cap) (hn : n ≤ 1000000) :
    Calls Tryd.prog 23 #[.agg #[.slice A n cap, .bool so]] w fun e w' => e = .returned (.string t) ∧ New w w' := by
  have hl := hr.1
  have hu := used_le l
  refine calls_args (vl := [Value.agg #[Value.slice A n cap, Value.bool so]]) 9 Tryd.func23 rfl Tryd.ntmps23 (by kernel_rfl) (fun a he => ?_)
  have he0 : Env 9 [(0, Value.agg #[Value.slice A n cap, Value.bool so])] a := he
  clear he
  have hH := Hp.start w
  refine wp_seq ?_
  refine wp_region_lit ?_
  refine lNew (fun p => .pointer (some ⟨p, 0, none⟩)) he0 hH rfl rfl (wanted_plain rfl _) (rn_boxL rfl (he0.op rfl) w) ?_
  intro p1 w1 a2 hn hH1 he2
  clear he0 a hH hn
  refine lV (Value.string { data := #[] }) he2 rfl rfl (wanted_plain rfl _) (rn_asg rfl (he2.op rfl) w1) ?_
  intro a3 he3
  clear he2 a2
  refine wpList_nil ?_
  refine then_ok ?_
  refine wp_seq ?_
  refine wp_region_held_drew (S := Hp w [⟨p1, 27, #[Value.slice A n cap, Value.bool so]⟩]) (by kernel_rfl) (hH1.drew) (fun _ => ?_)
  have hn : New w1 (World.drew w1) := (Fr.refl _ _).drew
  clear hn
  have hH4 := hH1.drew
  clear hH1
  generalize World.drew w1 = w4 at *
  refine hV (fuel := 6) (i := 0) (Value.pointer (some ⟨p1, 0, none⟩)) he3 rfl rfl rfl (by kernel_rfl) (by kernel_rfl) (by kernel_rfl) (fun _ _ _ h => h) (wanted_plain rfl _) (fun w' _ => rn_faL0 rfl (he3.op rfl) rfl w') hH4 ?_
  intro a5 he5
  clear he3 a3
  refine hV (fuel := 5) (i := 1) (Value.slice A n cap) he5 rfl rfl rfl (by kernel_rfl) (by kernel_rfl) (by kernel_rfl) (fun _ _ _ h => h) (wanted_plain rfl _) (fun w' hw' => rn_ldS rfl (he5.op rfl) (hw'.at (i := 0) rfl) rfl) hH4 ?_
  intro a6 he6
  clear he5 a5
  refine hV (fuel := 4) (i := 2) (Value.agg #[Value.slice A n cap, Value.bool so]) he6 rfl rfl rfl (by kernel_rfl) (by kernel_rfl) (by kernel_rfl) (fun _ _ _ h => h) (wanted_plain rfl _) (fun w' hw' => rn_ldp [Value.slice A n cap, Value.bool so] rfl (he6.op rfl) undL rfl infoL2 (hw'.at (i := 0) rfl) rfl) hH4 ?_
  intro a7 he7
  clear he6 a6
  refine hC (fuel := 3) (i := 3) he7 (by kernel_rfl) rfl rfl rfl Tryd.func21 (by kernel_rfl) rfl rfl (wanted_plain rfl _) rfl (RLUsed_any l n b cap A so w4 (hr.new hH4.new) hn) ?_
  rintro _ w8 ⟨rfl, hn⟩
  have hH8 := hH4.call hn
  refine ⟨_, rfl, hH8, ?_⟩
  intro a9 he9
  clear he7 a7 hH4 hn
  obtain ⟨Ac, eAc, rAc⟩ := slh_rd (c := cap) (k := (usedN l)) (hr.new hH8.new) (by omega)
  refine hV (fuel := 2) (i := 4) (Value.slice Ac (usedN l) cap) he9 rfl rfl rfl (by kernel_rfl) (by kernel_rfl) (by kernel_rfl) (fun _ _ _ h => h) (wanted_plain rfl _) (fun w' _ => rn_slh (k := (usedN l)) rfl (he9.op rfl) (he9.op rfl) (by omega) eAc w') hH8 ?_
  intro a10 he10
  clear he9 a9
  refine hC (fuel := 1) (i := 5) he10 (by kernel_rfl) rfl rfl rfl Tryd.func45 (by kernel_rfl) rfl rfl (wanted_plain rfl _) rfl (ht ▸ RTexts_any _ _ _ _ _ w8 rAc (by omega)) ?_
  rintro _ w11 ⟨rfl, hn⟩
  have hH11 := hH8.call hn
  replace rAc := rAc.new hn
  refine ⟨_, rfl, hH11, ?_⟩
  intro a12 he12
  clear he10 a10 hH8 hn
  refine hV (fuel := 0) (i := 6) (Value.string t) he12 rfl rfl rfl (by kernel_rfl) (by kernel_rfl) (by kernel_rfl) (fun _ _ _ h => h) (wanted_plain rfl _) (fun w' _ => rn_asg rfl (he12.op rfl) w') hH11 ?_
  intro a13 he13
  clear he12 a12
  refine wpAnyH_done (by kernel_rfl) ?_ _
  refine then_ok ?_
  refine wp_ret ?_
  try simp only [Exit.then, Exit.inBlock, Exit.noGoto]
  exact ret_env rfl he13 rfl ⟨rfl, hH11.new⟩

set_option linter.unusedSimpArgs false in
set_option maxRecDepth 100000 in
set_option maxHeartbeats 1600000 in
theorem RPut_any (l : List Ce) (n b cap : Nat) (A : Option Addr) (so : Bool) (at_ : Int) (hat0 : -9223372036854775808 ≤ at_) (hat1 : at_ ≤ 9223372036854775807) (d : List Ce) (m bd cd : Nat) (D : Option Addr) (w : World) (hr : RdC w b A n l) (hc : n ≤ cap) (hd : RdC w bd D m d) (hm : m ≤ 100000) :
    Calls Tryd.prog 34 #[.agg #[.slice A n cap, .bool so], .int .i64 at_, .slice D m cd] w (LeSaid (putR l so at_ d) w) := by
  have hl := hr.1
  have hld := hd.1
  refine calls_args (vl := [Value.agg #[Value.slice A n cap, Value.bool so], Value.int .i64 at_, Value.slice D m cd]) 59 Tryd.func34 rfl Tryd.ntmps34 (by kernel_rfl) (fun a he => ?_)
  have he0 : Env 59 [(0, Value.agg #[Value.slice A n cap, Value.bool so]), (1, Value.int .i64 at_), (2, Value.slice D m cd)] a := he
  clear he
  have hH := Hp.start w
  refine wp_seq ?_
  refine wp_region_lit ?_
  refine lNew (fun p => .pointer (some ⟨p, 0, none⟩)) he0 hH rfl rfl (wanted_plain rfl _) (rn_boxL rfl (he0.op rfl) w) ?_
  intro p1 w1 a2 hn hH1 he2
  clear he0 a hH hn
  refine lNew (fun p => .pointer (some ⟨p, 0, none⟩)) he2 hH1 rfl rfl (wanted_plain rfl _) (rn_allocL rfl w1) ?_
  intro p3 w3 a4 hn hH3 he4
  clear he2 a2 hH1 hn
  refine lV (Value.int .i64 0) he4 rfl rfl (wanted_plain rfl _) (rn_asg rfl (he4.op rfl) w3) ?_
  intro a5 he5
  clear he4 a4
  refine wpList_nil ?_
  refine then_ok ?_
  obtain ⟨v, hv⟩ : ∃ v, okL l = v := ⟨_, rfl⟩
  obtain ⟨u, hu⟩ : ∃ u, rowB d = u := ⟨_, rfl⟩
  cases v with
  | false =>
    refine wp_seq ?_
    refine wp_seq ?_
    refine wp_region_lit ?_
    refine lV (Value.agg #[Value.slice A n cap, Value.bool so]) he5 rfl rfl (wanted_plain rfl _) (rn_ldp [Value.slice A n cap, Value.bool so] rfl (he5.op rfl) undL rfl infoL2 (hH3.at (i := 1) rfl) rfl) ?_
    intro a6 he6
    clear he5 a5
    refine lC he6 rfl rfl Tryd.func14 (by kernel_rfl) rfl rfl (wanted_plain rfl _) rfl (RLValid_b l n b cap A so false hv w3 (hr.new hH3.new)) ?_
    intro w7 a8 hn he8
    have hH7 := hH3.call hn
    clear he6 a6 hH3 hn
    refine lV (Value.bool true) he8 rfl rfl (wanted_plain rfl _) (rn_not (b := false) rfl (he8.op rfl) w7) ?_
    intro a9 he9
    clear he8 a8
    refine lV (Value.bool true) he9 rfl rfl (wanted_plain rfl _) (rn_mv rfl (he9.op rfl) w7) ?_
    intro a10 he10
    clear he9 a9
    refine lSkip he10 rfl rfl (he10.wantNot rfl rfl rfl rfl rfl rfl) ?_
    intro a11 he11
    clear he10 a10
    refine lSkip he11 rfl rfl (he11.wantNot rfl rfl rfl rfl rfl rfl) ?_
    intro a12 he12
    clear he11 a11
    refine lSkip he12 rfl rfl (he12.wantNot rfl rfl rfl rfl rfl rfl) ?_
    intro a13 he13
    clear he12 a12
    refine lV (Value.bool true) he13 rfl rfl (wanted_plain rfl _) (rn_pk rfl (he13.op rfl) (he13.op rfl) w7) ?_
    intro a14 he14
    clear he13 a13
    refine wpList_nil ?_
    refine then_ok ?_
    refine wp_cond_true (he14.op rfl) ?_
    refine wp_seq ?_
    refine wp_region_lit ?_
    refine lV (Value.agg #[Value.slice none 0 0, Value.bool false]) he14 rfl rfl (wanted_plain rfl _) (rn_bL rfl  w7) ?_
    intro a15 he15
    clear he14 a14
    refine lSetF 0 #[Value.slice none 0 0, Value.bool false] (cs := #[Value.slice none 0 0, Value.bool false]) he15 hH7 rfl (wanted_plain rfl _) rfl rfl rfl rfl rfl (by kernel_rfl) (by kernel_rfl) (by kernel_rfl) rfl ?_
    intro w16 a17 hH16 hf he17
    replace hH16 : Hp w [⟨p3, 27, #[Value.slice none 0 0, Value.bool false]⟩, ⟨p1, 27, #[Value.slice A n cap, Value.bool so]⟩] w16 := hH16
    clear hf
    clear he15 a15 hH7
    refine lV (Value.int .i64 2) he17 rfl rfl (wanted_plain rfl _) (rn_asg rfl (he17.op rfl) w16) ?_
    intro a18 he18
    clear he17 a17
    refine wpList_nil ?_
    refine then_ok ?_
    refine wp_ret ?_
    try simp only [Exit.then, Exit.inBlock]
    exact ret_rowt rfl he18 rfl rfl (hH16.at (i := 0) rfl) undL rfl infoL2 (le_zero (by rw [putR, if_pos (by rw [hv]; rfl)]) hH16.new)
  | true =>
    cases u with
    | false =>
      refine wp_seq ?_
      refine wp_seq ?_
      refine wp_region_lit ?_
      refine lV (Value.agg #[Value.slice A n cap, Value.bool so]) he5 rfl rfl (wanted_plain rfl _) (rn_ldp [Value.slice A n cap, Value.bool so] rfl (he5.op rfl) undL rfl infoL2 (hH3.at (i := 1) rfl) rfl) ?_
      intro a19 he19
      clear he5 a5
      refine lC he19 rfl rfl Tryd.func14 (by kernel_rfl) rfl rfl (wanted_plain rfl _) rfl (RLValid_b l n b cap A so true hv w3 (hr.new hH3.new)) ?_
      intro w20 a21 hn he21
      have hH20 := hH3.call hn
      clear he19 a19 hH3 hn
      refine lV (Value.bool false) he21 rfl rfl (wanted_plain rfl _) (rn_not (b := true) rfl (he21.op rfl) w20) ?_
      intro a22 he22
      clear he21 a21
      refine lV (Value.bool false) he22 rfl rfl (wanted_plain rfl _) (rn_mv rfl (he22.op rfl) w20) ?_
      intro a23 he23
      clear he22 a22
      refine lV (Value.slice D m cd) he23 rfl rfl (he23.want rfl rfl rfl rfl rfl) (rn_mv rfl (he23.op rfl) w20) ?_
      intro a24 he24
      clear he23 a23
      refine lC he24 rfl rfl Tryd.func42 (by kernel_rfl) rfl rfl (he24.want rfl rfl rfl rfl rfl) rfl (hu ▸ RRow_any d m bd cd D w20 (hd.new hH20.new) (by omega)) ?_
      intro w25 a26 hn he26
      have hH25 := hH20.call hn
      clear he24 a24 hH20 hn
      refine lV (Value.bool true) he26 rfl rfl (he26.want rfl rfl rfl rfl rfl) (rn_not (b := false) rfl (he26.op rfl) w25) ?_
      intro a27 he27
      clear he26 a26
      refine lV (Value.bool true) he27 rfl rfl (wanted_plain rfl _) (rn_pk0 rfl (he27.op rfl) (he27.op rfl) w25) ?_
      intro a28 he28
      clear he27 a27
      refine wpList_nil ?_
      refine then_ok ?_
      refine wp_cond_true (he28.op rfl) ?_
      refine wp_seq ?_
      refine wp_region_lit ?_
      refine lV (Value.agg #[Value.slice none 0 0, Value.bool false]) he28 rfl rfl (wanted_plain rfl _) (rn_bL rfl  w25) ?_
      intro a29 he29
      clear he28 a28
      refine lSetF 0 #[Value.slice none 0 0, Value.bool false] (cs := #[Value.slice none 0 0, Value.bool false]) he29 hH25 rfl (wanted_plain rfl _) rfl rfl rfl rfl rfl (by kernel_rfl) (by kernel_rfl) (by kernel_rfl) rfl ?_
      intro w30 a31 hH30 hf he31
      replace hH30 : Hp w [⟨p3, 27, #[Value.slice none 0 0, Value.bool false]⟩, ⟨p1, 27, #[Value.slice A n cap, Value.bool so]⟩] w30 := hH30
      clear hf
      clear he29 a29 hH25
      refine lV (Value.int .i64 2) he31 rfl rfl (wanted_plain rfl _) (rn_asg rfl (he31.op rfl) w30) ?_
      intro a32 he32
      clear he31 a31
      refine wpList_nil ?_
      refine then_ok ?_
      refine wp_ret ?_
      try simp only [Exit.then, Exit.inBlock]
      exact ret_rowt rfl he32 rfl rfl (hH30.at (i := 0) rfl) undL rfl infoL2 (le_zero (by rw [putR, if_pos (by rw [hu, Bool.and_false])]) hH30.new)
    | true =>
      refine wp_seq ?_
      refine wp_seq ?_
      refine wp_region_lit ?_
      refine lV (Value.agg #[Value.slice A n cap, Value.bool so]) he5 rfl rfl (wanted_plain rfl _) (rn_ldp [Value.slice A n cap, Value.bool so] rfl (he5.op rfl) undL rfl infoL2 (hH3.at (i := 1) rfl) rfl) ?_
      intro a33 he33
      clear he5 a5
      refine lC he33 rfl rfl Tryd.func14 (by kernel_rfl) rfl rfl (wanted_plain rfl _) rfl (RLValid_b l n b cap A so true hv w3 (hr.new hH3.new)) ?_
      intro w34 a35 hn he35
      have hH34 := hH3.call hn
      clear he33 a33 hH3 hn
      refine lV (Value.bool false) he35 rfl rfl (wanted_plain rfl _) (rn_not (b := true) rfl (he35.op rfl) w34) ?_
      intro a36 he36
      clear he35 a35
      refine lV (Value.bool false) he36 rfl rfl (wanted_plain rfl _) (rn_mv rfl (he36.op rfl) w34) ?_
      intro a37 he37
      clear he36 a36
      refine lV (Value.slice D m cd) he37 rfl rfl (he37.want rfl rfl rfl rfl rfl) (rn_mv rfl (he37.op rfl) w34) ?_
      intro a38 he38
      clear he37 a37
      refine lC he38 rfl rfl Tryd.func42 (by kernel_rfl) rfl rfl (he38.want rfl rfl rfl rfl rfl) rfl (hu ▸ RRow_any d m bd cd D w34 (hd.new hH34.new) (by omega)) ?_
      intro w39 a40 hn he40
      have hH39 := hH34.call hn
      clear he38 a38 hH34 hn
      refine lV (Value.bool false) he40 rfl rfl (he40.want rfl rfl rfl rfl rfl) (rn_not (b := true) rfl (he40.op rfl) w39) ?_
      intro a41 he41
      clear he40 a40
      refine lV (Value.bool false) he41 rfl rfl (wanted_plain rfl _) (rn_pk0 rfl (he41.op rfl) (he41.op rfl) w39) ?_
      intro a42 he42
      clear he41 a41
      refine wpList_nil ?_
      refine then_ok ?_
      refine wp_cond_false (he42.op rfl) ?_
      refine wp_skip ?_
      refine then_ok ?_
      have he43 : Env 59 [(6, Value.pointer (some ⟨p3, 0, none⟩)), (3, Value.pointer (some ⟨p1, 0, none⟩)), (0, Value.agg #[Value.slice A n cap, Value.bool so]), (1, Value.int .i64 at_), (2, Value.slice D m cd)] a42 := he42.mem ⟨rfl, rfl, rfl, rfl, rfl, trivial⟩
      clear he42
      have hln := okL_len hv
      have hvu : ¬ (okL l && rowB d) = false := by rw [hv, hu]; decide
      by_cases h0 : at_ < 0
      · skip
        refine wp_seq ?_
        refine wp_seq ?_
        refine wp_region_lit ?_
        refine lV (Value.int .i64 at_) he43 rfl rfl (wanted_plain rfl _) (rn_mv rfl (he43.op rfl) w39) ?_
        intro a44 he44
        clear he43 a42
        refine lV (Value.bool true) he44 rfl rfl (wanted_plain rfl _) (rn_lss rfl (he44.op rfl) (he44.op rfl) (decide_eq_true (by omega)) w39) ?_
        intro a45 he45
        clear he44 a44
        refine lV (Value.bool true) he45 rfl rfl (wanted_plain rfl _) (rn_mv rfl (he45.op rfl) w39) ?_
        intro a46 he46
        clear he45 a45
        refine lSkip he46 rfl rfl (he46.wantNot rfl rfl rfl rfl rfl rfl) ?_
        intro a47 he47
        clear he46 a46
        refine lSkip he47 rfl rfl (he47.wantNot rfl rfl rfl rfl rfl rfl) ?_
        intro a48 he48
        clear he47 a47
        refine lSkip he48 rfl rfl (he48.wantNot rfl rfl rfl rfl rfl rfl) ?_
        intro a49 he49
        clear he48 a48
        refine lSkip he49 rfl rfl (he49.wantNot rfl rfl rfl rfl rfl rfl) ?_
        intro a50 he50
        clear he49 a49
        refine lSkip he50 rfl rfl (he50.wantNot rfl rfl rfl rfl rfl rfl) ?_
        intro a51 he51
        clear he50 a50
        refine lV (Value.bool true) he51 rfl rfl (wanted_plain rfl _) (rn_pk rfl (he51.op rfl) (he51.op rfl) w39) ?_
        intro a52 he52
        clear he51 a51
        refine lV (Value.bool true) he52 rfl rfl (wanted_plain rfl _) (rn_mv rfl (he52.op rfl) w39) ?_
        intro a53 he53
        clear he52 a52
        refine lSkip he53 rfl rfl (he53.wantNot rfl rfl rfl rfl rfl rfl) ?_
        intro a54 he54
        clear he53 a53
        refine lSkip he54 rfl rfl (he54.wantNot rfl rfl rfl rfl rfl rfl) ?_
        intro a55 he55
        clear he54 a54
        refine lSkip he55 rfl rfl (he55.wantNot rfl rfl rfl rfl rfl rfl) ?_
        intro a56 he56
        clear he55 a55
        refine lSkip he56 rfl rfl (he56.wantNot rfl rfl rfl rfl rfl rfl) ?_
        intro a57 he57
        clear he56 a56
        refine lSkip he57 rfl rfl (he57.wantNot rfl rfl rfl rfl rfl rfl) ?_
        intro a58 he58
        clear he57 a57
        refine lSkip he58 rfl rfl (he58.wantNot rfl rfl rfl rfl rfl rfl) ?_
        intro a59 he59
        clear he58 a58
        refine lSkip he59 rfl rfl (he59.wantNot rfl rfl rfl rfl rfl rfl) ?_
        intro a60 he60
        clear he59 a59
        refine lSkip he60 rfl rfl (he60.wantNot rfl rfl rfl rfl rfl rfl) ?_
        intro a61 he61
        clear he60 a60
        refine lV (Value.bool true) he61 rfl rfl (wanted_plain rfl _) (rn_pk rfl (he61.op rfl) (he61.op rfl) w39) ?_
        intro a62 he62
        clear he61 a61
        refine wpList_nil ?_
        refine then_ok ?_
        refine wp_cond_true (he62.op rfl) ?_
        refine wp_seq ?_
        refine wp_region_lit ?_
        refine lV (Value.agg #[Value.slice none 0 0, Value.bool false]) he62 rfl rfl (wanted_plain rfl _) (rn_bL rfl  w39) ?_
        intro a63 he63
        clear he62 a62
        refine lSetF 0 #[Value.slice none 0 0, Value.bool false] (cs := #[Value.slice none 0 0, Value.bool false]) he63 hH39 rfl (wanted_plain rfl _) rfl rfl rfl rfl rfl (by kernel_rfl) (by kernel_rfl) (by kernel_rfl) rfl ?_
        intro w64 a65 hH64 hf he65
        replace hH64 : Hp w [⟨p3, 27, #[Value.slice none 0 0, Value.bool false]⟩, ⟨p1, 27, #[Value.slice A n cap, Value.bool so]⟩] w64 := hH64
        clear hf
        clear he63 a63 hH39
        refine lV (Value.int .i64 3) he65 rfl rfl (wanted_plain rfl _) (rn_asg rfl (he65.op rfl) w64) ?_
        intro a66 he66
        clear he65 a65
        refine wpList_nil ?_
        refine then_ok ?_
        refine wp_ret ?_
        try simp only [Exit.then, Exit.inBlock]
        exact ret_rowt rfl he66 rfl rfl (hH64.at (i := 0) rfl) undL rfl infoL2 (le_zero (by rw [putR, if_neg hvu, if_pos (by rw [decide_eq_false (by omega : ¬ 0 ≤ at_)]; rfl)]) hH64.new)
      by_cases h1 : (n : Int) < at_
      · skip
        refine wp_seq ?_
        refine wp_seq ?_
        refine wp_region_lit ?_
        refine lV (Value.int .i64 at_) he43 rfl rfl (wanted_plain rfl _) (rn_mv rfl (he43.op rfl) w39) ?_
        intro a67 he67
        clear he43 a42
        refine lV (Value.bool false) he67 rfl rfl (wanted_plain rfl _) (rn_lss rfl (he67.op rfl) (he67.op rfl) (decide_eq_false (by omega)) w39) ?_
        intro a68 he68
        clear he67 a67
        refine lV (Value.bool false) he68 rfl rfl (wanted_plain rfl _) (rn_mv rfl (he68.op rfl) w39) ?_
        intro a69 he69
        clear he68 a68
        refine lV (Value.int .i64 at_) he69 rfl rfl (he69.want rfl rfl rfl rfl rfl) (rn_mv rfl (he69.op rfl) w39) ?_
        intro a70 he70
        clear he69 a69
        refine lV (Value.pointer (some ⟨p1, 0, none⟩)) he70 rfl rfl (he70.want rfl rfl rfl rfl rfl) (rn_faL0 rfl (he70.op rfl) rfl w39) ?_
        intro a71 he71
        clear he70 a70
        refine lV (Value.slice A n cap) he71 rfl rfl (he71.want rfl rfl rfl rfl rfl) (rn_ldS rfl (he71.op rfl) (hH39.at (i := 1) rfl) rfl) ?_
        intro a72 he72
        clear he71 a71
        refine lV (Value.int .i64 (n : Nat)) he72 rfl rfl (he72.want rfl rfl rfl rfl rfl) (rn_lenC rfl (he72.op rfl) w39) ?_
        intro a73 he73
        clear he72 a72
        refine lV (Value.bool true) he73 rfl rfl (he73.want rfl rfl rfl rfl rfl) (rn_gtr rfl (he73.op rfl) (he73.op rfl) (decide_eq_true (by omega)) w39) ?_
        intro a74 he74
        clear he73 a73
        refine lV (Value.bool true) he74 rfl rfl (wanted_plain rfl _) (rn_pk0 rfl (he74.op rfl) (he74.op rfl) w39) ?_
        intro a75 he75
        clear he74 a74
        refine lV (Value.bool true) he75 rfl rfl (wanted_plain rfl _) (rn_mv rfl (he75.op rfl) w39) ?_
        intro a76 he76
        clear he75 a75
        refine lSkip he76 rfl rfl (he76.wantNot rfl rfl rfl rfl rfl rfl) ?_
        intro a77 he77
        clear he76 a76
        refine lSkip he77 rfl rfl (he77.wantNot rfl rfl rfl rfl rfl rfl) ?_
        intro a78 he78
        clear he77 a77
        refine lSkip he78 rfl rfl (he78.wantNot rfl rfl rfl rfl rfl rfl) ?_
        intro a79 he79
        clear he78 a78
        refine lSkip he79 rfl rfl (he79.wantNot rfl rfl rfl rfl rfl rfl) ?_
        intro a80 he80
        clear he79 a79
        refine lSkip he80 rfl rfl (he80.wantNot rfl rfl rfl rfl rfl rfl) ?_
        intro a81 he81
        clear he80 a80
        refine lSkip he81 rfl rfl (he81.wantNot rfl rfl rfl rfl rfl rfl) ?_
        intro a82 he82
        clear he81 a81
        refine lSkip he82 rfl rfl (he82.wantNot rfl rfl rfl rfl rfl rfl) ?_
        intro a83 he83
        clear he82 a82
        refine lSkip he83 rfl rfl (he83.wantNot rfl rfl rfl rfl rfl rfl) ?_
        intro a84 he84
        clear he83 a83
        refine lV (Value.bool true) he84 rfl rfl (wanted_plain rfl _) (rn_pk rfl (he84.op rfl) (he84.op rfl) w39) ?_
        intro a85 he85
        clear he84 a84
        refine wpList_nil ?_
        refine then_ok ?_
        refine wp_cond_true (he85.op rfl) ?_
        refine wp_seq ?_
        refine wp_region_lit ?_
        refine lV (Value.agg #[Value.slice none 0 0, Value.bool false]) he85 rfl rfl (wanted_plain rfl _) (rn_bL rfl  w39) ?_
        intro a86 he86
        clear he85 a85
        refine lSetF 0 #[Value.slice none 0 0, Value.bool false] (cs := #[Value.slice none 0 0, Value.bool false]) he86 hH39 rfl (wanted_plain rfl _) rfl rfl rfl rfl rfl (by kernel_rfl) (by kernel_rfl) (by kernel_rfl) rfl ?_
        intro w87 a88 hH87 hf he88
        replace hH87 : Hp w [⟨p3, 27, #[Value.slice none 0 0, Value.bool false]⟩, ⟨p1, 27, #[Value.slice A n cap, Value.bool so]⟩] w87 := hH87
        clear hf
        clear he86 a86 hH39
        refine lV (Value.int .i64 3) he88 rfl rfl (wanted_plain rfl _) (rn_asg rfl (he88.op rfl) w87) ?_
        intro a89 he89
        clear he88 a88
        refine wpList_nil ?_
        refine then_ok ?_
        refine wp_ret ?_
        try simp only [Exit.then, Exit.inBlock]
        exact ret_rowt rfl he89 rfl rfl (hH87.at (i := 0) rfl) undL rfl infoL2 (le_zero (by rw [putR, if_neg hvu, if_pos (by rw [decide_eq_false (by omega : ¬ at_ + (d.length : Int) ≤ (l.length : Int)), Bool.and_false])]) hH87.new)
      by_cases h2 : (n : Int) < at_ + (m : Int)
      · skip
        refine wp_seq ?_
        refine wp_seq ?_
        refine wp_region_lit ?_
        refine lV (Value.int .i64 at_) he43 rfl rfl (wanted_plain rfl _) (rn_mv rfl (he43.op rfl) w39) ?_
        intro a90 he90
        clear he43 a42
        refine lV (Value.bool false) he90 rfl rfl (wanted_plain rfl _) (rn_lss rfl (he90.op rfl) (he90.op rfl) (decide_eq_false (by omega)) w39) ?_
        intro a91 he91
        clear he90 a90
        refine lV (Value.bool false) he91 rfl rfl (wanted_plain rfl _) (rn_mv rfl (he91.op rfl) w39) ?_
        intro a92 he92
        clear he91 a91
        refine lV (Value.int .i64 at_) he92 rfl rfl (he92.want rfl rfl rfl rfl rfl) (rn_mv rfl (he92.op rfl) w39) ?_
        intro a93 he93
        clear he92 a92
        refine lV (Value.pointer (some ⟨p1, 0, none⟩)) he93 rfl rfl (he93.want rfl rfl rfl rfl rfl) (rn_faL0 rfl (he93.op rfl) rfl w39) ?_
        intro a94 he94
        clear he93 a93
        refine lV (Value.slice A n cap) he94 rfl rfl (he94.want rfl rfl rfl rfl rfl) (rn_ldS rfl (he94.op rfl) (hH39.at (i := 1) rfl) rfl) ?_
        intro a95 he95
        clear he94 a94
        refine lV (Value.int .i64 (n : Nat)) he95 rfl rfl (he95.want rfl rfl rfl rfl rfl) (rn_lenC rfl (he95.op rfl) w39) ?_
        intro a96 he96
        clear he95 a95
        refine lV (Value.bool false) he96 rfl rfl (he96.want rfl rfl rfl rfl rfl) (rn_gtr rfl (he96.op rfl) (he96.op rfl) (decide_eq_false (by omega)) w39) ?_
        intro a97 he97
        clear he96 a96
        refine lV (Value.bool false) he97 rfl rfl (wanted_plain rfl _) (rn_pk0 rfl (he97.op rfl) (he97.op rfl) w39) ?_
        intro a98 he98
        clear he97 a97
        refine lV (Value.bool false) he98 rfl rfl (wanted_plain rfl _) (rn_mv rfl (he98.op rfl) w39) ?_
        intro a99 he99
        clear he98 a98
        refine lV (Value.int .i64 at_) he99 rfl rfl (he99.want rfl rfl rfl rfl rfl) (rn_mv rfl (he99.op rfl) w39) ?_
        intro a100 he100
        clear he99 a99
        refine lV (Value.slice D m cd) he100 rfl rfl (he100.want rfl rfl rfl rfl rfl) (rn_mv rfl (he100.op rfl) w39) ?_
        intro a101 he101
        clear he100 a100
        refine lV (Value.int .i64 (m : Nat)) he101 rfl rfl (he101.want rfl rfl rfl rfl rfl) (rn_lenC rfl (he101.op rfl) w39) ?_
        intro a102 he102
        clear he101 a101
        refine lV (Value.int .i64 (at_ + (m : Int))) he102 rfl rfl (he102.want rfl rfl rfl rfl rfl) (rn_add1 rfl (he102.op rfl) (he102.op rfl) (by rw [IntWalk.i64_in _ ⟨by omega, by omega⟩]) w39) ?_
        intro a103 he103
        clear he102 a102
        refine lV (Value.pointer (some ⟨p1, 0, none⟩)) he103 rfl rfl (he103.want rfl rfl rfl rfl rfl) (rn_faL0 rfl (he103.op rfl) rfl w39) ?_
        intro a104 he104
        clear he103 a103
        refine lV (Value.slice A n cap) he104 rfl rfl (he104.want rfl rfl rfl rfl rfl) (rn_ldS rfl (he104.op rfl) (hH39.at (i := 1) rfl) rfl) ?_
        intro a105 he105
        clear he104 a104
        refine lV (Value.int .i64 (n : Nat)) he105 rfl rfl (he105.want rfl rfl rfl rfl rfl) (rn_lenC rfl (he105.op rfl) w39) ?_
        intro a106 he106
        clear he105 a105
        refine lV (Value.bool true) he106 rfl rfl (he106.want rfl rfl rfl rfl rfl) (rn_gtr rfl (he106.op rfl) (he106.op rfl) (decide_eq_true (by omega)) w39) ?_
        intro a107 he107
        clear he106 a106
        refine lV (Value.bool true) he107 rfl rfl (wanted_plain rfl _) (rn_pk0 rfl (he107.op rfl) (he107.op rfl) w39) ?_
        intro a108 he108
        clear he107 a107
        refine wpList_nil ?_
        refine then_ok ?_
        refine wp_cond_true (he108.op rfl) ?_
        refine wp_seq ?_
        refine wp_region_lit ?_
        refine lV (Value.agg #[Value.slice none 0 0, Value.bool false]) he108 rfl rfl (wanted_plain rfl _) (rn_bL rfl  w39) ?_
        intro a109 he109
        clear he108 a108
        refine lSetF 0 #[Value.slice none 0 0, Value.bool false] (cs := #[Value.slice none 0 0, Value.bool false]) he109 hH39 rfl (wanted_plain rfl _) rfl rfl rfl rfl rfl (by kernel_rfl) (by kernel_rfl) (by kernel_rfl) rfl ?_
        intro w110 a111 hH110 hf he111
        replace hH110 : Hp w [⟨p3, 27, #[Value.slice none 0 0, Value.bool false]⟩, ⟨p1, 27, #[Value.slice A n cap, Value.bool so]⟩] w110 := hH110
        clear hf
        clear he109 a109 hH39
        refine lV (Value.int .i64 3) he111 rfl rfl (wanted_plain rfl _) (rn_asg rfl (he111.op rfl) w110) ?_
        intro a112 he112
        clear he111 a111
        refine wpList_nil ?_
        refine then_ok ?_
        refine wp_ret ?_
        try simp only [Exit.then, Exit.inBlock]
        exact ret_rowt rfl he112 rfl rfl (hH110.at (i := 0) rfl) undL rfl infoL2 (le_zero (by rw [putR, if_neg hvu, if_pos (by rw [decide_eq_false (by omega : ¬ at_ + (d.length : Int) ≤ (l.length : Int)), Bool.and_false])]) hH110.new)
      · skip
        refine wp_seq ?_
        refine wp_seq ?_
        refine wp_region_lit ?_
        refine lV (Value.int .i64 at_) he43 rfl rfl (wanted_plain rfl _) (rn_mv rfl (he43.op rfl) w39) ?_
        intro a113 he113
        clear he43 a42
        refine lV (Value.bool false) he113 rfl rfl (wanted_plain rfl _) (rn_lss rfl (he113.op rfl) (he113.op rfl) (decide_eq_false (by omega)) w39) ?_
        intro a114 he114
        clear he113 a113
        refine lV (Value.bool false) he114 rfl rfl (wanted_plain rfl _) (rn_mv rfl (he114.op rfl) w39) ?_
        intro a115 he115
        clear he114 a114
        refine lV (Value.int .i64 at_) he115 rfl rfl (he115.want rfl rfl rfl rfl rfl) (rn_mv rfl (he115.op rfl) w39) ?_
        intro a116 he116
        clear he115 a115
        refine lV (Value.pointer (some ⟨p1, 0, none⟩)) he116 rfl rfl (he116.want rfl rfl rfl rfl rfl) (rn_faL0 rfl (he116.op rfl) rfl w39) ?_
        intro a117 he117
        clear he116 a116
        refine lV (Value.slice A n cap) he117 rfl rfl (he117.want rfl rfl rfl rfl rfl) (rn_ldS rfl (he117.op rfl) (hH39.at (i := 1) rfl) rfl) ?_
        intro a118 he118
        clear he117 a117
        refine lV (Value.int .i64 (n : Nat)) he118 rfl rfl (he118.want rfl rfl rfl rfl rfl) (rn_lenC rfl (he118.op rfl) w39) ?_
        intro a119 he119
        clear he118 a118
        refine lV (Value.bool false) he119 rfl rfl (he119.want rfl rfl rfl rfl rfl) (rn_gtr rfl (he119.op rfl) (he119.op rfl) (decide_eq_false (by omega)) w39) ?_
        intro a120 he120
        clear he119 a119
        refine lV (Value.bool false) he120 rfl rfl (wanted_plain rfl _) (rn_pk0 rfl (he120.op rfl) (he120.op rfl) w39) ?_
        intro a121 he121
        clear he120 a120
        refine lV (Value.bool false) he121 rfl rfl (wanted_plain rfl _) (rn_mv rfl (he121.op rfl) w39) ?_
        intro a122 he122
        clear he121 a121
        refine lV (Value.int .i64 at_) he122 rfl rfl (he122.want rfl rfl rfl rfl rfl) (rn_mv rfl (he122.op rfl) w39) ?_
        intro a123 he123
        clear he122 a122
        refine lV (Value.slice D m cd) he123 rfl rfl (he123.want rfl rfl rfl rfl rfl) (rn_mv rfl (he123.op rfl) w39) ?_
        intro a124 he124
        clear he123 a123
        refine lV (Value.int .i64 (m : Nat)) he124 rfl rfl (he124.want rfl rfl rfl rfl rfl) (rn_lenC rfl (he124.op rfl) w39) ?_
        intro a125 he125
        clear he124 a124
        refine lV (Value.int .i64 (at_ + (m : Int))) he125 rfl rfl (he125.want rfl rfl rfl rfl rfl) (rn_add1 rfl (he125.op rfl) (he125.op rfl) (by rw [IntWalk.i64_in _ ⟨by omega, by omega⟩]) w39) ?_
        intro a126 he126
        clear he125 a125
        refine lV (Value.pointer (some ⟨p1, 0, none⟩)) he126 rfl rfl (he126.want rfl rfl rfl rfl rfl) (rn_faL0 rfl (he126.op rfl) rfl w39) ?_
        intro a127 he127
        clear he126 a126
        refine lV (Value.slice A n cap) he127 rfl rfl (he127.want rfl rfl rfl rfl rfl) (rn_ldS rfl (he127.op rfl) (hH39.at (i := 1) rfl) rfl) ?_
        intro a128 he128
        clear he127 a127
        refine lV (Value.int .i64 (n : Nat)) he128 rfl rfl (he128.want rfl rfl rfl rfl rfl) (rn_lenC rfl (he128.op rfl) w39) ?_
        intro a129 he129
        clear he128 a128
        refine lV (Value.bool false) he129 rfl rfl (he129.want rfl rfl rfl rfl rfl) (rn_gtr rfl (he129.op rfl) (he129.op rfl) (decide_eq_false (by omega)) w39) ?_
        intro a130 he130
        clear he129 a129
        refine lV (Value.bool false) he130 rfl rfl (wanted_plain rfl _) (rn_pk0 rfl (he130.op rfl) (he130.op rfl) w39) ?_
        intro a131 he131
        clear he130 a130
        refine wpList_nil ?_
        refine then_ok ?_
        refine wp_cond_false (he131.op rfl) ?_
        refine wp_skip ?_
        refine then_ok ?_
        obtain ⟨k, rfl⟩ : ∃ k : Nat, at_ = k := ⟨at_.toNat, by omega⟩
        have he132 : Env 59 [(6, Value.pointer (some ⟨p3, 0, none⟩)), (3, Value.pointer (some ⟨p1, 0, none⟩)), (1, Value.int .i64 (k : Int)), (2, Value.slice D m cd)] a131 := he131.mem ⟨rfl, rfl, rfl, rfl, trivial⟩
        clear he131
        have hput : putR l so (k : Int) d = ⟨fixL (l.take k) ++ d ++ fixL (l.drop (k + m)), so, 0⟩ := by rw [putR, if_neg hvu, if_neg (by rw [decide_eq_true (by omega : (0 : Int) ≤ k), decide_eq_true (by omega : (k : Int) + (d.length : Int) ≤ (l.length : Int))]; decide), Int.toNat_natCast, putL, hld]
        have e1 : (fixL (l.take k)).length = k := by rw [fixL_len, List.length_take]; omega
        have e2 : (fixL (l.drop (k + m))).length = n - (k + m) := by rw [fixL_len, List.length_drop, hl]
        refine wp_seq ?_
        refine wp_region_lit ?_
        refine lV (Value.pointer (some ⟨p1, 0, none⟩)) he132 rfl rfl (wanted_plain rfl _) (rn_faL0 rfl (he132.op rfl) rfl w39) ?_
        intro a133 he133
        clear he132 a131
        refine lV (Value.slice A n cap) he133 rfl rfl (wanted_plain rfl _) (rn_ldS rfl (he133.op rfl) (hH39.at (i := 1) rfl) rfl) ?_
        intro a134 he134
        clear he133 a133
        refine lV (Value.int .i64 (k : Int)) he134 rfl rfl (wanted_plain rfl _) (rn_mv rfl (he134.op rfl) w39) ?_
        intro a135 he135
        clear he134 a134
        obtain ⟨Ac, eAc, rAc⟩ := slh_rd (c := cap) (k := k) (hr.new hH39.new) (by omega)
        refine lV (Value.slice Ac k cap) he135 rfl rfl (wanted_plain rfl _) (rn_slh (k := k) rfl (he135.op rfl) (he135.op rfl) (by omega) eAc w39) ?_
        intro a136 he136
        clear he135 a135
        have hzhoe := hH39.new.size
        refine lCx he136 rfl rfl Tryd.func51 (by kernel_rfl) rfl rfl (wanted_plain rfl _) rfl (FixR _ _ _ _ _ w39 rAc (by omega)) ?_
        rintro _ w137 ⟨⟨Ae, ce, rfl, hoe⟩, hn⟩
        replace hoe := own_base hoe (fun k_ hk_ => Nat.le_trans hzhoe (own_blk hoe k_ hk_))
        clear hzhoe
        refine ⟨_, rfl, ?_⟩
        intro a138 he138
        have hH137 := hH39.call hn
        replace rAc := rAc.new hn
        clear he136 a136 hH39
        clear hn
        clear rAc
        refine lV (Value.slice D m cd) he138 rfl rfl (wanted_plain rfl _) (rn_mv rfl (he138.op rfl) w137) ?_
        intro a139 he139
        clear he138 a138
        refine lEx he139 rfl rfl (wanted_plain rfl _) (rx_append hoe (hd.new hH137.new) rfl (he139.op rfl) (he139.op rfl) (by omega) hH137.new.size) ?_
        rintro vx wx ⟨hox, hgx, horx⟩
        have hHx := hH137.ownC hoe hgx (Nat.le_refl _) (by kernel_rfl)
        intro a140 he140
        clear he139 a139
        clear hgx horx hoe
        refine lV (vx) he140 rfl rfl (wanted_plain rfl _) (rn_asg rfl (he140.op rfl) wx) ?_
        intro a141 he141
        clear he140 a140
        refine wpList_nil ?_
        refine then_ok ?_
        have he142 : Env 59 [(8, vx), (6, Value.pointer (some ⟨p3, 0, none⟩)), (3, Value.pointer (some ⟨p1, 0, none⟩)), (1, Value.int .i64 (k : Int)), (2, Value.slice D m cd)] a141 := he141.mem ⟨rfl, rfl, rfl, rfl, rfl, trivial⟩
        clear he141
        refine wp_seq ?_
        refine wp_region_lit ?_
        refine lV (vx) he142 rfl rfl (wanted_plain rfl _) (rn_mv rfl (he142.op rfl) wx) ?_
        intro a143 he143
        clear he142 a141
        refine lV (Value.pointer (some ⟨p1, 0, none⟩)) he143 rfl rfl (wanted_plain rfl _) (rn_faL0 rfl (he143.op rfl) rfl wx) ?_
        intro a144 he144
        clear he143 a143
        refine lV (Value.slice A n cap) he144 rfl rfl (wanted_plain rfl _) (rn_ldS rfl (he144.op rfl) (hHx.at (i := 1) rfl) rfl) ?_
        intro a145 he145
        clear he144 a144
        refine lV (Value.int .i64 (k : Int)) he145 rfl rfl (wanted_plain rfl _) (rn_mv rfl (he145.op rfl) wx) ?_
        intro a146 he146
        clear he145 a145
        refine lV (Value.slice D m cd) he146 rfl rfl (wanted_plain rfl _) (rn_mv rfl (he146.op rfl) wx) ?_
        intro a147 he147
        clear he146 a146
        refine lV (Value.int .i64 (m : Int)) he147 rfl rfl (wanted_plain rfl _) (rn_lenC rfl (he147.op rfl) wx) ?_
        intro a148 he148
        clear he147 a147
        refine lV (Value.int .i64 ((k + m : Nat) : Int)) he148 rfl rfl (wanted_plain rfl _) (rn_add1 rfl (he148.op rfl) (he148.op rfl) (by rw [IntWalk.i64_in _ ⟨by omega, by omega⟩]; omega) wx) ?_
        intro a149 he149
        clear he148 a148
        obtain ⟨Ad, eAd, rAd⟩ := sll_rd (c := cap) (k := (k + m)) (hr.new hHx.new) (by omega) (by omega)
        refine lV (Value.slice Ad (n - (k + m)) (cap - (k + m))) he149 rfl rfl (wanted_plain rfl _) (rn_sll (k := (k + m)) rfl (he149.op rfl) (he149.op rfl) (by omega) eAd wx) ?_
        intro a150 he150
        clear he149 a149
        have hzhof := hHx.new.size
        refine lCx he150 rfl rfl Tryd.func51 (by kernel_rfl) rfl rfl (wanted_plain rfl _) rfl (FixR _ _ _ _ _ wx rAd (by omega)) ?_
        rintro _ w151 ⟨⟨Af, cf, rfl, hof⟩, hn⟩
        replace hof := own_base hof (fun k_ hk_ => Nat.le_trans hzhof (own_blk hof k_ hk_))
        clear hzhof
        refine ⟨_, rfl, ?_⟩
        intro a152 he152
        have hH151 := hHx.call hn
        replace hox := own_fr hox hn (fun _ _ h => h)
        replace rAd := rAd.new hn
        clear he150 a150 hHx
        clear hn
        clear rAd
        obtain ⟨bf, hrf, -⟩ := own_rdK hof
        refine lEx he152 rfl rfl (wanted_plain rfl _) (rx_append hox hrf rfl (he152.op rfl) (he152.op rfl) (by omega) hH151.new.size) ?_
        rintro vy wy ⟨hoy, hgy, hory⟩
        have hHy := hH151.ownC hox hgy (Nat.le_refl _) (by kernel_rfl)
        intro a153 he153
        clear he152 a152
        clear hgy hory hox hof hrf
        refine lV (vy) he153 rfl rfl (wanted_plain rfl _) (rn_asg rfl (he153.op rfl) wy) ?_
        intro a154 he154
        clear he153 a153
        refine wpList_nil ?_
        refine then_ok ?_
        have he155 : Env 59 [(8, vy), (6, Value.pointer (some ⟨p3, 0, none⟩)), (3, Value.pointer (some ⟨p1, 0, none⟩))] a154 := he154.mem ⟨rfl, rfl, rfl, trivial⟩
        clear he154
        have hq_ := own_shape hoy
        clear hoy
        obtain ⟨Ay, cy, rfl, hoy⟩ := hq_
        refine wp_seq ?_
        refine wp_region_lit ?_
        refine lV (Value.slice Ay (fixL (l.take k) ++ d ++ fixL (l.drop (k + m))).length cy) he155 rfl rfl (wanted_plain rfl _) (rn_mv rfl (he155.op rfl) wy) ?_
        intro a156 he156
        clear he155 a154
        refine lV (Value.pointer (some ⟨p1, 1, none⟩)) he156 rfl rfl (wanted_plain rfl _) (rn_faL1 rfl (he156.op rfl) rfl wy) ?_
        intro a157 he157
        clear he156 a156
        refine lV (Value.bool so) he157 rfl rfl (wanted_plain rfl _) (rn_ldB rfl (he157.op rfl) (hHy.at (i := 1) rfl) rfl) ?_
        intro a158 he158
        clear he157 a157
        refine lV (Value.agg #[Value.slice Ay (fixL (l.take k) ++ d ++ fixL (l.drop (k + m))).length cy, Value.bool so]) he158 rfl rfl (wanted_plain rfl _) (rn_bL01 rfl (he158.op rfl) (he158.op rfl) wy) ?_
        intro a159 he159
        clear he158 a158
        refine lSetF 0 #[Value.slice Ay (fixL (l.take k) ++ d ++ fixL (l.drop (k + m))).length cy, Value.bool so] (cs := #[Value.slice Ay (fixL (l.take k) ++ d ++ fixL (l.drop (k + m))).length cy, Value.bool so]) he159 hHy rfl (wanted_plain rfl _) rfl rfl rfl rfl rfl (by kernel_rfl) (by kernel_rfl) (by kernel_rfl) rfl ?_
        intro w160 a161 hH160 hf he161
        replace hoy := own_fr hoy hf (fun k_ hk_ e_ => own_far hoy (hHy.at (i := 0) rfl) (show 60 ≠ 27 from by decide) (hk_.trans (congrArg some e_)))
        replace hH160 : Hp w [⟨p3, 27, #[Value.slice Ay (fixL (l.take k) ++ d ++ fixL (l.drop (k + m))).length cy, Value.bool so]⟩, ⟨p1, 27, #[Value.slice A n cap, Value.bool so]⟩] w160 := hH160
        clear hf
        clear he159 a159 hHy
        refine lV (Value.int .i64 0) he161 rfl rfl (wanted_plain rfl _) (rn_asg rfl (he161.op rfl) w160) ?_
        intro a162 he162
        clear he161 a161
        refine wpList_nil ?_
        refine then_ok ?_
        refine wp_ret ?_
        try simp only [Exit.then, Exit.inBlock]
        exact ret_rowt rfl he162 rfl rfl (hH160.at (i := 0) rfl) undL rfl infoL2 (le_said hoy hput hH160.new)

end Go.Proofs.YtjcpdldaimebbaaDoor
namespace Go.Proofs.YtjcpdldaimebbaaDoor
open Go.RowKit

set_option linter.unusedSimpArgs false in
set_option maxRecDepth 100000 in
set_option maxHeartbeats 1600000 in
theorem is_b (l : List Ce) (n b cap : Nat) (A : Option Addr) (so : Bool) (q : List Ce) (m bq cq : Nat) (B : Option Addr) (sb : Bool) (e no : Int) (v : Bool) (hv : isB ⟨l, so, e⟩ q sb no = v) (w : World) (hr : RdC w b A n l) (hq : RdC w bq B m q) (hn : n ≤ 1000000) (hm : m ≤ 1000000) :
    Calls Tryd.prog 18 #[.agg #[.slice A n cap, .bool so], .int .i64 e, .agg #[.slice B m cq, .bool sb], .int .i64 no] w fun e w' => e = .returned (.bool v) ∧ New w w' := by
  refine calls_args (vl := [Value.agg #[Value.slice A n cap, Value.bool so], Value.int .i64 e, Value.agg #[Value.slice B m cq, Value.bool sb], Value.int .i64 no]) 17 Tryd.func18 rfl Tryd.ntmps18 (by kernel_rfl) (fun a he => ?_)
  have he0 : Env 17 [(0, Value.agg #[Value.slice A n cap, Value.bool so]), (1, Value.int .i64 e), (2, Value.agg #[Value.slice B m cq, Value.bool sb]), (3, Value.int .i64 no)] a := he
  clear he
  have hH := Hp.start w
  refine wp_seq ?_
  refine wp_region_lit ?_
  refine lNew (fun p => .pointer (some ⟨p, 0, none⟩)) he0 hH rfl rfl (wanted_plain rfl _) (rn_boxL rfl (he0.op rfl) w) ?_
  intro p1 w1 a2 hn hH1 he2
  clear he0 a hH hn
  refine lNew (fun p => .pointer (some ⟨p, 0, none⟩)) he2 hH1 rfl rfl (wanted_plain rfl _) (rn_boxL rfl (he2.op rfl) w1) ?_
  intro p3 w3 a4 hn hH3 he4
  clear he2 a2 hH1 hn
  refine lV (Value.bool false) he4 rfl rfl (wanted_plain rfl _) (rn_asg rfl (he4.op rfl) w3) ?_
  intro a5 he5
  clear he4 a4
  refine wpList_nil ?_
  refine then_ok ?_
  unfold isB at hv
  simp only at hv
  obtain ⟨z, hz⟩ : ∃ z, ((so == sb) && decide (l = q)) = z := ⟨_, rfl⟩
  rw [hz] at hv
  cases z with
  | false =>
    have hw : v = false := by simpa using hv.symm
    subst hw
    refine wp_seq ?_
    refine wp_region_lit ?_
    refine lV (Value.agg #[Value.slice A n cap, Value.bool so]) he5 rfl rfl (wanted_plain rfl _) (rn_ldp [Value.slice A n cap, Value.bool so] rfl (he5.op rfl) undL rfl infoL2 (hH3.at (i := 1) rfl) rfl) ?_
    intro a6 he6
    clear he5 a5
    refine lV (Value.agg #[Value.slice B m cq, Value.bool sb]) he6 rfl rfl (wanted_plain rfl _) (rn_ldp [Value.slice B m cq, Value.bool sb] rfl (he6.op rfl) undL rfl infoL2 (hH3.at (i := 0) rfl) rfl) ?_
    intro a7 he7
    clear he6 a6
    refine lC he7 rfl rfl Tryd.func25 (by kernel_rfl) rfl rfl (wanted_plain rfl _) rfl (RLSame_b l q n m b bq cap cq A B so sb false hz w3 (hr.new hH3.new) (hq.new hH3.new) hn hm) ?_
    intro w8 a9 hn he9
    have hH8 := hH3.call hn
    clear he7 a7 hH3 hn
    refine lV (Value.bool false) he9 rfl rfl (wanted_plain rfl _) (rn_mv rfl (he9.op rfl) w8) ?_
    intro a10 he10
    clear he9 a9
    refine lSkip he10 rfl rfl (he10.wantNot rfl rfl rfl rfl rfl rfl) ?_
    intro a11 he11
    clear he10 a10
    refine lSkip he11 rfl rfl (he11.wantNot rfl rfl rfl rfl rfl rfl) ?_
    intro a12 he12
    clear he11 a11
    refine lSkip he12 rfl rfl (he12.wantNot rfl rfl rfl rfl rfl rfl) ?_
    intro a13 he13
    clear he12 a12
    refine lV (Value.bool false) he13 rfl rfl (wanted_plain rfl _) (rn_pk0 rfl (he13.op rfl) (he13.op rfl) w8) ?_
    intro a14 he14
    clear he13 a13
    refine lV (Value.bool false) he14 rfl rfl (wanted_plain rfl _) (rn_asg rfl (he14.op rfl) w8) ?_
    intro a15 he15
    clear he14 a14
    refine wpList_nil ?_
    refine then_ok ?_
    refine wp_ret ?_
    try simp only [Exit.then, Exit.inBlock, Exit.noGoto]
    exact ret_env rfl he15 rfl ⟨rfl, hH8.new⟩
  | true =>
    have hw : (e == no) = v := by simpa using hv
    refine wp_seq ?_
    refine wp_region_lit ?_
    refine lV (Value.agg #[Value.slice A n cap, Value.bool so]) he5 rfl rfl (wanted_plain rfl _) (rn_ldp [Value.slice A n cap, Value.bool so] rfl (he5.op rfl) undL rfl infoL2 (hH3.at (i := 1) rfl) rfl) ?_
    intro a16 he16
    clear he5 a5
    refine lV (Value.agg #[Value.slice B m cq, Value.bool sb]) he16 rfl rfl (wanted_plain rfl _) (rn_ldp [Value.slice B m cq, Value.bool sb] rfl (he16.op rfl) undL rfl infoL2 (hH3.at (i := 0) rfl) rfl) ?_
    intro a17 he17
    clear he16 a16
    refine lC he17 rfl rfl Tryd.func25 (by kernel_rfl) rfl rfl (wanted_plain rfl _) rfl (RLSame_b l q n m b bq cap cq A B so sb true hz w3 (hr.new hH3.new) (hq.new hH3.new) hn hm) ?_
    intro w18 a19 hn he19
    have hH18 := hH3.call hn
    clear he17 a17 hH3 hn
    refine lV (Value.bool true) he19 rfl rfl (wanted_plain rfl _) (rn_mv rfl (he19.op rfl) w18) ?_
    intro a20 he20
    clear he19 a19
    refine lV (Value.int .i64 e) he20 rfl rfl (he20.want rfl rfl rfl rfl rfl) (rn_mv rfl (he20.op rfl) w18) ?_
    intro a21 he21
    clear he20 a20
    refine lV (Value.int .i64 no) he21 rfl rfl (he21.want rfl rfl rfl rfl rfl) (rn_mv rfl (he21.op rfl) w18) ?_
    intro a22 he22
    clear he21 a21
    refine lV (Value.bool v) he22 rfl rfl (he22.want rfl rfl rfl rfl rfl) (rn_eqE rfl (he22.op rfl) (he22.op rfl) hw w18) ?_
    intro a23 he23
    clear he22 a22
    refine lV (Value.bool v) he23 rfl rfl (wanted_plain rfl _) (rn_pk rfl (he23.op rfl) (he23.op rfl) w18) ?_
    intro a24 he24
    clear he23 a23
    refine lV (Value.bool v) he24 rfl rfl (wanted_plain rfl _) (rn_asg rfl (he24.op rfl) w18) ?_
    intro a25 he25
    clear he24 a24
    refine wpList_nil ?_
    refine then_ok ?_
    refine wp_ret ?_
    try simp only [Exit.then, Exit.inBlock, Exit.noGoto]
    exact ret_env rfl he25 rfl ⟨rfl, hH18.new⟩

set_option linter.unusedSimpArgs false in
set_option maxRecDepth 100000 in
set_option maxHeartbeats 1600000 in
theorem news_b (col : Int) (q : List Ce) (m bq cq : Nat) (B : Option Addr) (sb : Bool) (no : Int) (v : Bool) (hv : isB (newR col) q sb no = v) (w : World)  (hq : RdC w bq B m q) (hm : m ≤ 1000000) (hT : Tab w) :
    Calls Tryd.prog 11 #[.int .i64 col, .agg #[.slice B m cq, .bool sb], .int .i64 no] w fun e w' => e = .returned (.bool v) ∧ New w w' := by
  refine calls_args (vl := [Value.int .i64 col, Value.agg #[Value.slice B m cq, Value.bool sb], Value.int .i64 no]) 19 Tryd.func11 rfl Tryd.ntmps11 (by kernel_rfl) (fun a he => ?_)
  have he0 : Env 19 [(0, Value.int .i64 col), (1, Value.agg #[Value.slice B m cq, Value.bool sb]), (2, Value.int .i64 no)] a := he
  clear he
  have hH := Hp.start w
  refine wp_seq ?_
  refine wp_region_lit ?_
  refine lNew (fun p => .pointer (some ⟨p, 0, none⟩)) he0 hH rfl rfl (wanted_plain rfl _) (rn_boxL rfl (he0.op rfl) w) ?_
  intro p1 w1 a2 hn hH1 he2
  clear he0 a hH hn
  refine lV (Value.bool false) he2 rfl rfl (wanted_plain rfl _) (rn_asg rfl (he2.op rfl) w1) ?_
  intro a3 he3
  clear he2 a2
  refine wpList_nil ?_
  refine then_ok ?_
  refine wp_seq ?_
  refine wp_region_lit ?_
  refine lV (Value.int .i64 col) he3 rfl rfl (wanted_plain rfl _) (rn_mv rfl (he3.op rfl) w1) ?_
  intro a4 he4
  clear he3 a3
  have hzhof := hH1.new.size
  refine lCx he4 rfl rfl Tryd.func40 (by kernel_rfl) rfl rfl (wanted_plain rfl _) rfl (LNew_any col w1 (hT.new hH1.new)) ?_
  rintro _ w5 ⟨⟨Af, cf, rfl, hof⟩, hn⟩
  replace hof := own_base hof (fun k_ hk_ => Nat.le_trans hzhof (own_blk hof k_ hk_))
  clear hzhof
  refine ⟨_, rfl, ?_⟩
  intro a6 he6
  have hH5 := hH1.call hn
  clear he4 a4 hH1
  clear hn
  refine lV (Value.tuple #[Value.agg #[Value.slice Af ((newR col).L).length cf, Value.bool ((newR col).s)], Value.int .i64 ((newR col).e)]) he6 rfl rfl (wanted_plain rfl _) (rn_mv rfl (he6.op rfl) w5) ?_
  intro a7 he7
  clear he6 a6
  refine lV (Value.agg #[Value.slice Af ((newR col).L).length cf, Value.bool ((newR col).s)]) he7 rfl rfl (wanted_plain rfl _) (rn_ext rfl (he7.op rfl) rfl w5) ?_
  intro a8 he8
  clear he7 a7
  refine lV (Value.int .i64 ((newR col).e)) he8 rfl rfl (wanted_plain rfl _) (rn_ext rfl (he8.op rfl) rfl w5) ?_
  intro a9 he9
  clear he8 a8
  refine lNew (fun p => .pointer (some ⟨p, 0, none⟩)) he9 hH5 rfl rfl (wanted_plain rfl _) (rn_allocL rfl w5) ?_
  intro p10 w10 a11 hn hH10 he11
  replace hof := own_fr hof hn (fun _ _ h => h)
  clear he9 a9 hH5 hn
  refine lSetF 0 #[Value.slice Af ((newR col).L).length cf, Value.bool ((newR col).s)] (cs := #[Value.slice Af ((newR col).L).length cf, Value.bool ((newR col).s)]) he11 hH10 rfl (wanted_plain rfl _) rfl rfl rfl rfl rfl (by kernel_rfl) (by kernel_rfl) (by kernel_rfl) rfl ?_
  intro w12 a13 hH12 hf he13
  replace hof := own_fr hof hf (fun k_ hk_ e_ => own_far hof (hH10.at (i := 0) rfl) (show 60 ≠ 27 from by decide) (hk_.trans (congrArg some e_)))
  replace hH12 : Hp w [⟨p10, 27, #[Value.slice Af ((newR col).L).length cf, Value.bool ((newR col).s)]⟩, ⟨p1, 27, #[Value.slice B m cq, Value.bool sb]⟩] w12 := hH12
  clear hf
  clear he11 a11 hH10
  refine lV (Value.int .i64 ((newR col).e)) he13 rfl rfl (wanted_plain rfl _) (rn_asg rfl (he13.op rfl) w12) ?_
  intro a14 he14
  clear he13 a13
  refine wpList_nil ?_
  refine then_ok ?_
  as_aux_lemma =>
    obtain ⟨br, hrr, -⟩ := own_rdK hof
    clear hof
    refine wp_seq ?_
    refine wp_region_lit ?_
    refine lV (Value.agg #[Value.slice Af ((newR col).L).length cf, Value.bool ((newR col).s)]) he14 rfl rfl (wanted_plain rfl _) (rn_ldp [Value.slice Af ((newR col).L).length cf, Value.bool ((newR col).s)] rfl (he14.op rfl) undL rfl infoL2 (hH12.at (i := 0) rfl) rfl) ?_
    intro a15 he15
    clear he14 a14
    refine lV (Value.int .i64 ((newR col).e)) he15 rfl rfl (wanted_plain rfl _) (rn_mv rfl (he15.op rfl) w12) ?_
    intro a16 he16
    clear he15 a15
    refine lV (Value.agg #[Value.slice B m cq, Value.bool sb]) he16 rfl rfl (wanted_plain rfl _) (rn_ldp [Value.slice B m cq, Value.bool sb] rfl (he16.op rfl) undL rfl infoL2 (hH12.at (i := 1) rfl) rfl) ?_
    intro a17 he17
    clear he16 a16
    refine lV (Value.int .i64 no) he17 rfl rfl (wanted_plain rfl _) (rn_mv rfl (he17.op rfl) w12) ?_
    intro a18 he18
    clear he17 a17
    refine lC he18 rfl rfl Tryd.func18 (by kernel_rfl) rfl rfl (wanted_plain rfl _) rfl (is_b _ _ br _ _ _ q m bq cq B sb _ no v hv w12 hrr (hq.new hH12.new) (by have := fitR_len [] false col; show (newR col).L.length ≤ 1000000; unfold newR; omega) hm) ?_
    intro w19 a20 hn he20
    have hH19 := hH12.call hn
    replace hrr := hrr.new hn
    clear he18 a18 hH12 hn
    refine lV (Value.bool v) he20 rfl rfl (wanted_plain rfl _) (rn_asg rfl (he20.op rfl) w19) ?_
    intro a21 he21
    clear he20 a20
    refine wpList_nil ?_
    refine then_ok ?_
    refine wp_ret ?_
    try simp only [Exit.then, Exit.inBlock, Exit.noGoto]
    exact ret_env rfl he21 rfl ⟨rfl, hH19.new⟩

set_option linter.unusedSimpArgs false in
set_option maxRecDepth 100000 in
set_option maxHeartbeats 1600000 in
theorem of_b (l : List Ce) (n b cap : Nat) (A : Option Addr) (so : Bool) (q : List Ce) (m bq cq : Nat) (B : Option Addr) (sb : Bool) (no : Int) (v : Bool) (hv : isB (ofR l so) q sb no = v) (w : World) (hr : RdC w b A n l) (hn : n ≤ 1000000) (hq : RdC w bq B m q) (hm : m ≤ 1000000) (hT : Tab w) :
    Calls Tryd.prog 15 #[.slice A n cap, .bool so, .agg #[.slice B m cq, .bool sb], .int .i64 no] w fun e w' => e = .returned (.bool v) ∧ New w w' := by
  refine calls_args (vl := [Value.slice A n cap, Value.bool so, Value.agg #[Value.slice B m cq, Value.bool sb], Value.int .i64 no]) 22 Tryd.func15 rfl Tryd.ntmps15 (by kernel_rfl) (fun a he => ?_)
  have he0 : Env 22 [(0, Value.slice A n cap), (1, Value.bool so), (2, Value.agg #[Value.slice B m cq, Value.bool sb]), (3, Value.int .i64 no)] a := he
  clear he
  have hH := Hp.start w
  refine wp_seq ?_
  refine wp_region_lit ?_
  refine lNew (fun p => .pointer (some ⟨p, 0, none⟩)) he0 hH rfl rfl (wanted_plain rfl _) (rn_boxL rfl (he0.op rfl) w) ?_
  intro p1 w1 a2 hn hH1 he2
  clear he0 a hH hn
  refine lV (Value.bool false) he2 rfl rfl (wanted_plain rfl _) (rn_asg rfl (he2.op rfl) w1) ?_
  intro a3 he3
  clear he2 a2
  refine wpList_nil ?_
  refine then_ok ?_
  refine wp_seq ?_
  refine wp_region_lit ?_
  refine lV (Value.slice A n cap) he3 rfl rfl (wanted_plain rfl _) (rn_mv rfl (he3.op rfl) w1) ?_
  intro a4 he4
  clear he3 a3
  refine lV (Value.bool so) he4 rfl rfl (wanted_plain rfl _) (rn_mv rfl (he4.op rfl) w1) ?_
  intro a5 he5
  clear he4 a4
  have hzhof := hH1.new.size
  refine lCx he5 rfl rfl Tryd.func16 (by kernel_rfl) rfl rfl (wanted_plain rfl _) rfl (LOf_any l n b cap A so w1 (hr.new hH1.new) (hT.new hH1.new)) ?_
  rintro _ w6 ⟨⟨Af, cf, rfl, hof⟩, hn⟩
  replace hof := own_base hof (fun k_ hk_ => Nat.le_trans hzhof (own_blk hof k_ hk_))
  clear hzhof
  refine ⟨_, rfl, ?_⟩
  intro a7 he7
  have hH6 := hH1.call hn
  clear he5 a5 hH1
  clear hn
  refine lV (Value.tuple #[Value.agg #[Value.slice Af ((ofR l so).L).length cf, Value.bool ((ofR l so).s)], Value.int .i64 ((ofR l so).e)]) he7 rfl rfl (wanted_plain rfl _) (rn_mv rfl (he7.op rfl) w6) ?_
  intro a8 he8
  clear he7 a7
  refine lV (Value.agg #[Value.slice Af ((ofR l so).L).length cf, Value.bool ((ofR l so).s)]) he8 rfl rfl (wanted_plain rfl _) (rn_ext rfl (he8.op rfl) rfl w6) ?_
  intro a9 he9
  clear he8 a8
  refine lV (Value.int .i64 ((ofR l so).e)) he9 rfl rfl (wanted_plain rfl _) (rn_ext rfl (he9.op rfl) rfl w6) ?_
  intro a10 he10
  clear he9 a9
  refine lNew (fun p => .pointer (some ⟨p, 0, none⟩)) he10 hH6 rfl rfl (wanted_plain rfl _) (rn_allocL rfl w6) ?_
  intro p11 w11 a12 hn hH11 he12
  replace hof := own_fr hof hn (fun _ _ h => h)
  clear he10 a10 hH6 hn
  refine lSetF 0 #[Value.slice Af ((ofR l so).L).length cf, Value.bool ((ofR l so).s)] (cs := #[Value.slice Af ((ofR l so).L).length cf, Value.bool ((ofR l so).s)]) he12 hH11 rfl (wanted_plain rfl _) rfl rfl rfl rfl rfl (by kernel_rfl) (by kernel_rfl) (by kernel_rfl) rfl ?_
  intro w13 a14 hH13 hf he14
  replace hof := own_fr hof hf (fun k_ hk_ e_ => own_far hof (hH11.at (i := 0) rfl) (show 60 ≠ 27 from by decide) (hk_.trans (congrArg some e_)))
  replace hH13 : Hp w [⟨p11, 27, #[Value.slice Af ((ofR l so).L).length cf, Value.bool ((ofR l so).s)]⟩, ⟨p1, 27, #[Value.slice B m cq, Value.bool sb]⟩] w13 := hH13
  clear hf
  clear he12 a12 hH11
  refine lV (Value.int .i64 ((ofR l so).e)) he14 rfl rfl (wanted_plain rfl _) (rn_asg rfl (he14.op rfl) w13) ?_
  intro a15 he15
  clear he14 a14
  refine wpList_nil ?_
  refine then_ok ?_
  as_aux_lemma =>
    obtain ⟨br, hrr, -⟩ := own_rdK hof
    clear hof
    refine wp_seq ?_
    refine wp_region_lit ?_
    refine lV (Value.agg #[Value.slice Af ((ofR l so).L).length cf, Value.bool ((ofR l so).s)]) he15 rfl rfl (wanted_plain rfl _) (rn_ldp [Value.slice Af ((ofR l so).L).length cf, Value.bool ((ofR l so).s)] rfl (he15.op rfl) undL rfl infoL2 (hH13.at (i := 0) rfl) rfl) ?_
    intro a16 he16
    clear he15 a15
    refine lV (Value.int .i64 ((ofR l so).e)) he16 rfl rfl (wanted_plain rfl _) (rn_mv rfl (he16.op rfl) w13) ?_
    intro a17 he17
    clear he16 a16
    refine lV (Value.agg #[Value.slice B m cq, Value.bool sb]) he17 rfl rfl (wanted_plain rfl _) (rn_ldp [Value.slice B m cq, Value.bool sb] rfl (he17.op rfl) undL rfl infoL2 (hH13.at (i := 1) rfl) rfl) ?_
    intro a18 he18
    clear he17 a17
    refine lV (Value.int .i64 no) he18 rfl rfl (wanted_plain rfl _) (rn_mv rfl (he18.op rfl) w13) ?_
    intro a19 he19
    clear he18 a18
    refine lC he19 rfl rfl Tryd.func18 (by kernel_rfl) rfl rfl (wanted_plain rfl _) rfl (is_b _ _ br _ _ _ q m bq cq B sb _ no v hv w13 hrr (hq.new hH13.new) (by have := ofR_len l so; have := hr.1; omega) hm) ?_
    intro w20 a21 hn he21
    have hH20 := hH13.call hn
    replace hrr := hrr.new hn
    clear he19 a19 hH13 hn
    refine lV (Value.bool v) he21 rfl rfl (wanted_plain rfl _) (rn_asg rfl (he21.op rfl) w20) ?_
    intro a22 he22
    clear he21 a21
    refine wpList_nil ?_
    refine then_ok ?_
    refine wp_ret ?_
    try simp only [Exit.then, Exit.inBlock, Exit.noGoto]
    exact ret_env rfl he22 rfl ⟨rfl, hH20.new⟩

set_option linter.unusedSimpArgs false in
set_option maxRecDepth 100000 in
set_option maxHeartbeats 1600000 in
theorem trims_b (l : List Ce) (n b cap : Nat) (A : Option Addr) (so : Bool) (q : List Ce) (m bq cq : Nat) (B : Option Addr) (sb : Bool) (no : Int) (v : Bool) (hv : isB (trimR l so) q sb no = v) (w : World) (hr : RdC w b A n l) (hc : n ≤ cap) (hn : n ≤ 1000000) (hq : RdC w bq B m q) (hm : m ≤ 1000000) (hT : Tab w) :
    Calls Tryd.prog 28 #[.agg #[.slice A n cap, .bool so], .agg #[.slice B m cq, .bool sb], .int .i64 no] w fun e w' => e = .returned (.bool v) ∧ New w w' := by
  refine calls_args (vl := [Value.agg #[Value.slice A n cap, Value.bool so], Value.agg #[Value.slice B m cq, Value.bool sb], Value.int .i64 no]) 19 Tryd.func28 rfl Tryd.ntmps28 (by kernel_rfl) (fun a he => ?_)
  have he0 : Env 19 [(0, Value.agg #[Value.slice A n cap, Value.bool so]), (1, Value.agg #[Value.slice B m cq, Value.bool sb]), (2, Value.int .i64 no)] a := he
  clear he
  have hH := Hp.start w
  refine wp_seq ?_
  refine wp_region_lit ?_
  refine lNew (fun p => .pointer (some ⟨p, 0, none⟩)) he0 hH rfl rfl (wanted_plain rfl _) (rn_boxL rfl (he0.op rfl) w) ?_
  intro p1 w1 a2 hn hH1 he2
  clear he0 a hH hn
  refine lNew (fun p => .pointer (some ⟨p, 0, none⟩)) he2 hH1 rfl rfl (wanted_plain rfl _) (rn_boxL rfl (he2.op rfl) w1) ?_
  intro p3 w3 a4 hn hH3 he4
  clear he2 a2 hH1 hn
  refine lV (Value.bool false) he4 rfl rfl (wanted_plain rfl _) (rn_asg rfl (he4.op rfl) w3) ?_
  intro a5 he5
  clear he4 a4
  refine wpList_nil ?_
  refine then_ok ?_
  refine wp_seq ?_
  refine wp_region_lit ?_
  refine lV (Value.agg #[Value.slice A n cap, Value.bool so]) he5 rfl rfl (wanted_plain rfl _) (rn_ldp [Value.slice A n cap, Value.bool so] rfl (he5.op rfl) undL rfl infoL2 (hH3.at (i := 1) rfl) rfl) ?_
  intro a6 he6
  clear he5 a5
  have hzhof := hH3.new.size
  refine lCx he6 rfl rfl Tryd.func30 (by kernel_rfl) rfl rfl (wanted_plain rfl _) rfl (LTrim_any l n b cap A so w3 (hr.new hH3.new) hc hn (hT.new hH3.new)) ?_
  rintro _ w7 ⟨⟨Af, cf, rfl, hof⟩, hn⟩
  replace hof := own_base hof (fun k_ hk_ => Nat.le_trans hzhof (own_blk hof k_ hk_))
  clear hzhof
  refine ⟨_, rfl, ?_⟩
  intro a8 he8
  have hH7 := hH3.call hn
  clear he6 a6 hH3
  clear hn
  refine lV (Value.tuple #[Value.agg #[Value.slice Af ((trimR l so).L).length cf, Value.bool ((trimR l so).s)], Value.int .i64 ((trimR l so).e)]) he8 rfl rfl (wanted_plain rfl _) (rn_mv rfl (he8.op rfl) w7) ?_
  intro a9 he9
  clear he8 a8
  refine lV (Value.agg #[Value.slice Af ((trimR l so).L).length cf, Value.bool ((trimR l so).s)]) he9 rfl rfl (wanted_plain rfl _) (rn_ext rfl (he9.op rfl) rfl w7) ?_
  intro a10 he10
  clear he9 a9
  refine lV (Value.int .i64 ((trimR l so).e)) he10 rfl rfl (wanted_plain rfl _) (rn_ext rfl (he10.op rfl) rfl w7) ?_
  intro a11 he11
  clear he10 a10
  refine lNew (fun p => .pointer (some ⟨p, 0, none⟩)) he11 hH7 rfl rfl (wanted_plain rfl _) (rn_allocL rfl w7) ?_
  intro p12 w12 a13 hn hH12 he13
  replace hof := own_fr hof hn (fun _ _ h => h)
  clear he11 a11 hH7 hn
  refine lSetF 0 #[Value.slice Af ((trimR l so).L).length cf, Value.bool ((trimR l so).s)] (cs := #[Value.slice Af ((trimR l so).L).length cf, Value.bool ((trimR l so).s)]) he13 hH12 rfl (wanted_plain rfl _) rfl rfl rfl rfl rfl (by kernel_rfl) (by kernel_rfl) (by kernel_rfl) rfl ?_
  intro w14 a15 hH14 hf he15
  replace hof := own_fr hof hf (fun k_ hk_ e_ => own_far hof (hH12.at (i := 0) rfl) (show 60 ≠ 27 from by decide) (hk_.trans (congrArg some e_)))
  replace hH14 : Hp w [⟨p12, 27, #[Value.slice Af ((trimR l so).L).length cf, Value.bool ((trimR l so).s)]⟩, ⟨p3, 27, #[Value.slice B m cq, Value.bool sb]⟩, ⟨p1, 27, #[Value.slice A n cap, Value.bool so]⟩] w14 := hH14
  clear hf
  clear he13 a13 hH12
  refine lV (Value.int .i64 ((trimR l so).e)) he15 rfl rfl (wanted_plain rfl _) (rn_asg rfl (he15.op rfl) w14) ?_
  intro a16 he16
  clear he15 a15
  refine wpList_nil ?_
  refine then_ok ?_
  as_aux_lemma =>
    obtain ⟨br, hrr, -⟩ := own_rdK hof
    clear hof
    refine wp_seq ?_
    refine wp_region_lit ?_
    refine lV (Value.agg #[Value.slice Af ((trimR l so).L).length cf, Value.bool ((trimR l so).s)]) he16 rfl rfl (wanted_plain rfl _) (rn_ldp [Value.slice Af ((trimR l so).L).length cf, Value.bool ((trimR l so).s)] rfl (he16.op rfl) undL rfl infoL2 (hH14.at (i := 0) rfl) rfl) ?_
    intro a17 he17
    clear he16 a16
    refine lV (Value.int .i64 ((trimR l so).e)) he17 rfl rfl (wanted_plain rfl _) (rn_mv rfl (he17.op rfl) w14) ?_
    intro a18 he18
    clear he17 a17
    refine lV (Value.agg #[Value.slice B m cq, Value.bool sb]) he18 rfl rfl (wanted_plain rfl _) (rn_ldp [Value.slice B m cq, Value.bool sb] rfl (he18.op rfl) undL rfl infoL2 (hH14.at (i := 1) rfl) rfl) ?_
    intro a19 he19
    clear he18 a18
    refine lV (Value.int .i64 no) he19 rfl rfl (wanted_plain rfl _) (rn_mv rfl (he19.op rfl) w14) ?_
    intro a20 he20
    clear he19 a19
    refine lC he20 rfl rfl Tryd.func18 (by kernel_rfl) rfl rfl (wanted_plain rfl _) rfl (is_b _ _ br _ _ _ q m bq cq B sb _ no v hv w14 hrr (hq.new hH14.new) (by have := fitR_len l so (usedN l); show (trimR l so).L.length ≤ 1000000; unfold trimR; omega) hm) ?_
    intro w21 a22 hn he22
    have hH21 := hH14.call hn
    replace hrr := hrr.new hn
    clear he20 a20 hH14 hn
    refine lV (Value.bool v) he22 rfl rfl (wanted_plain rfl _) (rn_asg rfl (he22.op rfl) w21) ?_
    intro a23 he23
    clear he22 a22
    refine wpList_nil ?_
    refine then_ok ?_
    refine wp_ret ?_
    try simp only [Exit.then, Exit.inBlock, Exit.noGoto]
    exact ret_env rfl he23 rfl ⟨rfl, hH21.new⟩

set_option linter.unusedSimpArgs false in
set_option maxRecDepth 100000 in
set_option maxHeartbeats 1600000 in
theorem fits_b (l : List Ce) (n b cap : Nat) (A : Option Addr) (so : Bool) (col : Int) (q : List Ce) (m bq cq : Nat) (B : Option Addr) (sb : Bool) (no : Int) (v : Bool) (hv : isB (fitR l so col) q sb no = v) (w : World) (hr : RdC w b A n l) (hc : n ≤ cap) (hq : RdC w bq B m q) (hm : m ≤ 1000000) (hT : Tab w) :
    Calls Tryd.prog 29 #[.agg #[.slice A n cap, .bool so], .int .i64 col, .agg #[.slice B m cq, .bool sb], .int .i64 no] w fun e w' => e = .returned (.bool v) ∧ New w w' := by
  refine calls_args (vl := [Value.agg #[Value.slice A n cap, Value.bool so], Value.int .i64 col, Value.agg #[Value.slice B m cq, Value.bool sb], Value.int .i64 no]) 22 Tryd.func29 rfl Tryd.ntmps29 (by kernel_rfl) (fun a he => ?_)
  have he0 : Env 22 [(0, Value.agg #[Value.slice A n cap, Value.bool so]), (1, Value.int .i64 col), (2, Value.agg #[Value.slice B m cq, Value.bool sb]), (3, Value.int .i64 no)] a := he
  clear he
  have hH := Hp.start w
  refine wp_seq ?_
  refine wp_region_lit ?_
  refine lNew (fun p => .pointer (some ⟨p, 0, none⟩)) he0 hH rfl rfl (wanted_plain rfl _) (rn_boxL rfl (he0.op rfl) w) ?_
  intro p1 w1 a2 hn hH1 he2
  clear he0 a hH hn
  refine lNew (fun p => .pointer (some ⟨p, 0, none⟩)) he2 hH1 rfl rfl (wanted_plain rfl _) (rn_boxL rfl (he2.op rfl) w1) ?_
  intro p3 w3 a4 hn hH3 he4
  clear he2 a2 hH1 hn
  refine lV (Value.bool false) he4 rfl rfl (wanted_plain rfl _) (rn_asg rfl (he4.op rfl) w3) ?_
  intro a5 he5
  clear he4 a4
  refine wpList_nil ?_
  refine then_ok ?_
  refine wp_seq ?_
  refine wp_region_lit ?_
  refine lV (Value.agg #[Value.slice A n cap, Value.bool so]) he5 rfl rfl (wanted_plain rfl _) (rn_ldp [Value.slice A n cap, Value.bool so] rfl (he5.op rfl) undL rfl infoL2 (hH3.at (i := 1) rfl) rfl) ?_
  intro a6 he6
  clear he5 a5
  refine lV (Value.int .i64 col) he6 rfl rfl (wanted_plain rfl _) (rn_mv rfl (he6.op rfl) w3) ?_
  intro a7 he7
  clear he6 a6
  have hzhof := hH3.new.size
  refine lCx he7 rfl rfl Tryd.func32 (by kernel_rfl) rfl rfl (wanted_plain rfl _) rfl (LFit_any l n b cap A so col w3 (hr.new hH3.new) hc (hT.new hH3.new)) ?_
  rintro _ w8 ⟨⟨Af, cf, rfl, hof⟩, hn⟩
  replace hof := own_base hof (fun k_ hk_ => Nat.le_trans hzhof (own_blk hof k_ hk_))
  clear hzhof
  refine ⟨_, rfl, ?_⟩
  intro a9 he9
  have hH8 := hH3.call hn
  clear he7 a7 hH3
  clear hn
  refine lV (Value.tuple #[Value.agg #[Value.slice Af ((fitR l so col).L).length cf, Value.bool ((fitR l so col).s)], Value.int .i64 ((fitR l so col).e)]) he9 rfl rfl (wanted_plain rfl _) (rn_mv rfl (he9.op rfl) w8) ?_
  intro a10 he10
  clear he9 a9
  refine lV (Value.agg #[Value.slice Af ((fitR l so col).L).length cf, Value.bool ((fitR l so col).s)]) he10 rfl rfl (wanted_plain rfl _) (rn_ext rfl (he10.op rfl) rfl w8) ?_
  intro a11 he11
  clear he10 a10
  refine lV (Value.int .i64 ((fitR l so col).e)) he11 rfl rfl (wanted_plain rfl _) (rn_ext rfl (he11.op rfl) rfl w8) ?_
  intro a12 he12
  clear he11 a11
  refine lNew (fun p => .pointer (some ⟨p, 0, none⟩)) he12 hH8 rfl rfl (wanted_plain rfl _) (rn_allocL rfl w8) ?_
  intro p13 w13 a14 hn hH13 he14
  replace hof := own_fr hof hn (fun _ _ h => h)
  clear he12 a12 hH8 hn
  refine lSetF 0 #[Value.slice Af ((fitR l so col).L).length cf, Value.bool ((fitR l so col).s)] (cs := #[Value.slice Af ((fitR l so col).L).length cf, Value.bool ((fitR l so col).s)]) he14 hH13 rfl (wanted_plain rfl _) rfl rfl rfl rfl rfl (by kernel_rfl) (by kernel_rfl) (by kernel_rfl) rfl ?_
  intro w15 a16 hH15 hf he16
  replace hof := own_fr hof hf (fun k_ hk_ e_ => own_far hof (hH13.at (i := 0) rfl) (show 60 ≠ 27 from by decide) (hk_.trans (congrArg some e_)))
  replace hH15 : Hp w [⟨p13, 27, #[Value.slice Af ((fitR l so col).L).length cf, Value.bool ((fitR l so col).s)]⟩, ⟨p3, 27, #[Value.slice B m cq, Value.bool sb]⟩, ⟨p1, 27, #[Value.slice A n cap, Value.bool so]⟩] w15 := hH15
  clear hf
  clear he14 a14 hH13
  refine lV (Value.int .i64 ((fitR l so col).e)) he16 rfl rfl (wanted_plain rfl _) (rn_asg rfl (he16.op rfl) w15) ?_
  intro a17 he17
  clear he16 a16
  refine wpList_nil ?_
  refine then_ok ?_
  as_aux_lemma =>
    obtain ⟨br, hrr, -⟩ := own_rdK hof
    clear hof
    refine wp_seq ?_
    refine wp_region_lit ?_
    refine lV (Value.agg #[Value.slice Af ((fitR l so col).L).length cf, Value.bool ((fitR l so col).s)]) he17 rfl rfl (wanted_plain rfl _) (rn_ldp [Value.slice Af ((fitR l so col).L).length cf, Value.bool ((fitR l so col).s)] rfl (he17.op rfl) undL rfl infoL2 (hH15.at (i := 0) rfl) rfl) ?_
    intro a18 he18
    clear he17 a17
    refine lV (Value.int .i64 ((fitR l so col).e)) he18 rfl rfl (wanted_plain rfl _) (rn_mv rfl (he18.op rfl) w15) ?_
    intro a19 he19
    clear he18 a18
    refine lV (Value.agg #[Value.slice B m cq, Value.bool sb]) he19 rfl rfl (wanted_plain rfl _) (rn_ldp [Value.slice B m cq, Value.bool sb] rfl (he19.op rfl) undL rfl infoL2 (hH15.at (i := 1) rfl) rfl) ?_
    intro a20 he20
    clear he19 a19
    refine lV (Value.int .i64 no) he20 rfl rfl (wanted_plain rfl _) (rn_mv rfl (he20.op rfl) w15) ?_
    intro a21 he21
    clear he20 a20
    refine lC he21 rfl rfl Tryd.func18 (by kernel_rfl) rfl rfl (wanted_plain rfl _) rfl (is_b _ _ br _ _ _ q m bq cq B sb _ no v hv w15 hrr (hq.new hH15.new) (by have := fitR_len l so col; omega) hm) ?_
    intro w22 a23 hn he23
    have hH22 := hH15.call hn
    replace hrr := hrr.new hn
    clear he21 a21 hH15 hn
    refine lV (Value.bool v) he23 rfl rfl (wanted_plain rfl _) (rn_asg rfl (he23.op rfl) w22) ?_
    intro a24 he24
    clear he23 a23
    refine wpList_nil ?_
    refine then_ok ?_
    refine wp_ret ?_
    try simp only [Exit.then, Exit.inBlock, Exit.noGoto]
    exact ret_env rfl he24 rfl ⟨rfl, hH22.new⟩

set_option linter.unusedSimpArgs false in
set_option maxRecDepth 100000 in
set_option maxHeartbeats 1600000 in
theorem puts_b (l : List Ce) (n b cap : Nat) (A : Option Addr) (so : Bool) (at_ : Int) (h0 : -9223372036854775808 ≤ at_) (h1 : at_ ≤ 9223372036854775807) (d : List Ce) (md bd cd : Nat) (E : Option Addr) (q : List Ce) (m bq cq : Nat) (B : Option Addr) (sb : Bool) (no : Int) (v : Bool) (hv : isB (putR l so at_ d) q sb no = v) (w : World) (hr : RdC w b A n l) (hc : n ≤ cap) (hn : n ≤ 1000000) (hd : RdC w bd E md d) (hmd : md ≤ 100000) (hq : RdC w bq B m q) (hm : m ≤ 1000000) (hT : Tab w) :
    Calls Tryd.prog 39 #[.agg #[.slice A n cap, .bool so], .int .i64 at_, .slice E md cd, .agg #[.slice B m cq, .bool sb], .int .i64 no] w fun e w' => e = .returned (.bool v) ∧ New w w' := by
  refine calls_args (vl := [Value.agg #[Value.slice A n cap, Value.bool so], Value.int .i64 at_, Value.slice E md cd, Value.agg #[Value.slice B m cq, Value.bool sb], Value.int .i64 no]) 25 Tryd.func39 rfl Tryd.ntmps39 (by kernel_rfl) (fun a he => ?_)
  have he0 : Env 25 [(0, Value.agg #[Value.slice A n cap, Value.bool so]), (1, Value.int .i64 at_), (2, Value.slice E md cd), (3, Value.agg #[Value.slice B m cq, Value.bool sb]), (4, Value.int .i64 no)] a := he
  clear he
  have hH := Hp.start w
  refine wp_seq ?_
  refine wp_region_lit ?_
  refine lNew (fun p => .pointer (some ⟨p, 0, none⟩)) he0 hH rfl rfl (wanted_plain rfl _) (rn_boxL rfl (he0.op rfl) w) ?_
  intro p1 w1 a2 hn hH1 he2
  clear he0 a hH hn
  refine lNew (fun p => .pointer (some ⟨p, 0, none⟩)) he2 hH1 rfl rfl (wanted_plain rfl _) (rn_boxL rfl (he2.op rfl) w1) ?_
  intro p3 w3 a4 hn hH3 he4
  clear he2 a2 hH1 hn
  refine lV (Value.bool false) he4 rfl rfl (wanted_plain rfl _) (rn_asg rfl (he4.op rfl) w3) ?_
  intro a5 he5
  clear he4 a4
  refine wpList_nil ?_
  refine then_ok ?_
  refine wp_seq ?_
  refine wp_region_lit ?_
  refine lV (Value.agg #[Value.slice A n cap, Value.bool so]) he5 rfl rfl (wanted_plain rfl _) (rn_ldp [Value.slice A n cap, Value.bool so] rfl (he5.op rfl) undL rfl infoL2 (hH3.at (i := 1) rfl) rfl) ?_
  intro a6 he6
  clear he5 a5
  refine lV (Value.int .i64 at_) he6 rfl rfl (wanted_plain rfl _) (rn_mv rfl (he6.op rfl) w3) ?_
  intro a7 he7
  clear he6 a6
  refine lV (Value.slice E md cd) he7 rfl rfl (wanted_plain rfl _) (rn_mv rfl (he7.op rfl) w3) ?_
  intro a8 he8
  clear he7 a7
  have hzhof := hH3.new.size
  refine lCx he8 rfl rfl Tryd.func35 (by kernel_rfl) rfl rfl (wanted_plain rfl _) rfl (LPut_any l n b cap A so at_ h0 h1 d md bd cd E w3 (hr.new hH3.new) hc (hd.new hH3.new) hmd (hT.new hH3.new)) ?_
  rintro _ w9 ⟨⟨Af, cf, rfl, hof⟩, hn⟩
  replace hof := own_base hof (fun k_ hk_ => Nat.le_trans hzhof (own_blk hof k_ hk_))
  clear hzhof
  refine ⟨_, rfl, ?_⟩
  intro a10 he10
  have hH9 := hH3.call hn
  clear he8 a8 hH3
  clear hn
  refine lV (Value.tuple #[Value.agg #[Value.slice Af ((putR l so at_ d).L).length cf, Value.bool ((putR l so at_ d).s)], Value.int .i64 ((putR l so at_ d).e)]) he10 rfl rfl (wanted_plain rfl _) (rn_mv rfl (he10.op rfl) w9) ?_
  intro a11 he11
  clear he10 a10
  refine lV (Value.agg #[Value.slice Af ((putR l so at_ d).L).length cf, Value.bool ((putR l so at_ d).s)]) he11 rfl rfl (wanted_plain rfl _) (rn_ext rfl (he11.op rfl) rfl w9) ?_
  intro a12 he12
  clear he11 a11
  refine lV (Value.int .i64 ((putR l so at_ d).e)) he12 rfl rfl (wanted_plain rfl _) (rn_ext rfl (he12.op rfl) rfl w9) ?_
  intro a13 he13
  clear he12 a12
  refine lNew (fun p => .pointer (some ⟨p, 0, none⟩)) he13 hH9 rfl rfl (wanted_plain rfl _) (rn_allocL rfl w9) ?_
  intro p14 w14 a15 hn hH14 he15
  replace hof := own_fr hof hn (fun _ _ h => h)
  clear he13 a13 hH9 hn
  refine lSetF 0 #[Value.slice Af ((putR l so at_ d).L).length cf, Value.bool ((putR l so at_ d).s)] (cs := #[Value.slice Af ((putR l so at_ d).L).length cf, Value.bool ((putR l so at_ d).s)]) he15 hH14 rfl (wanted_plain rfl _) rfl rfl rfl rfl rfl (by kernel_rfl) (by kernel_rfl) (by kernel_rfl) rfl ?_
  intro w16 a17 hH16 hf he17
  replace hof := own_fr hof hf (fun k_ hk_ e_ => own_far hof (hH14.at (i := 0) rfl) (show 60 ≠ 27 from by decide) (hk_.trans (congrArg some e_)))
  replace hH16 : Hp w [⟨p14, 27, #[Value.slice Af ((putR l so at_ d).L).length cf, Value.bool ((putR l so at_ d).s)]⟩, ⟨p3, 27, #[Value.slice B m cq, Value.bool sb]⟩, ⟨p1, 27, #[Value.slice A n cap, Value.bool so]⟩] w16 := hH16
  clear hf
  clear he15 a15 hH14
  refine lV (Value.int .i64 ((putR l so at_ d).e)) he17 rfl rfl (wanted_plain rfl _) (rn_asg rfl (he17.op rfl) w16) ?_
  intro a18 he18
  clear he17 a17
  refine wpList_nil ?_
  refine then_ok ?_
  as_aux_lemma =>
    obtain ⟨br, hrr, -⟩ := own_rdK hof
    clear hof
    refine wp_seq ?_
    refine wp_region_lit ?_
    refine lV (Value.agg #[Value.slice Af ((putR l so at_ d).L).length cf, Value.bool ((putR l so at_ d).s)]) he18 rfl rfl (wanted_plain rfl _) (rn_ldp [Value.slice Af ((putR l so at_ d).L).length cf, Value.bool ((putR l so at_ d).s)] rfl (he18.op rfl) undL rfl infoL2 (hH16.at (i := 0) rfl) rfl) ?_
    intro a19 he19
    clear he18 a18
    refine lV (Value.int .i64 ((putR l so at_ d).e)) he19 rfl rfl (wanted_plain rfl _) (rn_mv rfl (he19.op rfl) w16) ?_
    intro a20 he20
    clear he19 a19
    refine lV (Value.agg #[Value.slice B m cq, Value.bool sb]) he20 rfl rfl (wanted_plain rfl _) (rn_ldp [Value.slice B m cq, Value.bool sb] rfl (he20.op rfl) undL rfl infoL2 (hH16.at (i := 1) rfl) rfl) ?_
    intro a21 he21
    clear he20 a20
    refine lV (Value.int .i64 no) he21 rfl rfl (wanted_plain rfl _) (rn_mv rfl (he21.op rfl) w16) ?_
    intro a22 he22
    clear he21 a21
    refine lC he22 rfl rfl Tryd.func18 (by kernel_rfl) rfl rfl (wanted_plain rfl _) rfl (is_b _ _ br _ _ _ q m bq cq B sb _ no v hv w16 hrr (hq.new hH16.new) (by have := putR_len l d so at_; have := hr.1; omega) hm) ?_
    intro w23 a24 hn he24
    have hH23 := hH16.call hn
    replace hrr := hrr.new hn
    clear he22 a22 hH16 hn
    refine lV (Value.bool v) he24 rfl rfl (wanted_plain rfl _) (rn_asg rfl (he24.op rfl) w23) ?_
    intro a25 he25
    clear he24 a24
    refine wpList_nil ?_
    refine then_ok ?_
    refine wp_ret ?_
    try simp only [Exit.then, Exit.inBlock, Exit.noGoto]
    exact ret_env rfl he25 rfl ⟨rfl, hH23.new⟩

set_option linter.unusedSimpArgs false in
set_option maxRecDepth 100000 in
set_option maxHeartbeats 1600000 in
theorem hard_any (x : Value) (l : List Ce) (w : World) (h : SlC w x l) :
    Calls Tryd.prog 37 #[x] w fun e w' => ∃ v, e = .returned v ∧ New w w' ∧ ∃ y, v = .agg #[y, .bool false] ∧ SlC w' y l := by
  obtain ⟨A, c, b, rfl, hc, hr⟩ := h
  refine calls_args (vl := [Value.slice A l.length c]) 5 Tryd.func37 rfl Tryd.ntmps37 (by kernel_rfl) (fun a he => ?_)
  have he0 : Env 5 [(0, Value.slice A l.length c)] a := he
  clear he
  have hH := Hp.start w
  refine wp_seq ?_
  refine wp_region_lit ?_
  refine lNew (fun p => .pointer (some ⟨p, 0, none⟩)) he0 hH rfl rfl (wanted_plain rfl _) (rn_allocL rfl w) ?_
  intro p1 w1 a2 hn hH1 he2
  clear he0 a hH hn
  refine wpList_nil ?_
  refine then_ok ?_
  refine wp_seq ?_
  refine wp_region_lit ?_
  refine lV (Value.slice A l.length c) he2 rfl rfl (wanted_plain rfl _) (rn_mv rfl (he2.op rfl) w1) ?_
  intro a3 he3
  clear he2 a2
  refine lV (Value.agg #[Value.slice A l.length c, Value.bool false]) he3 rfl rfl (wanted_plain rfl _) (rn_bL0 rfl (he3.op rfl) w1) ?_
  intro a4 he4
  clear he3 a3
  refine lSetF 0 #[Value.slice A l.length c, Value.bool false] (cs := #[Value.slice A l.length c, Value.bool false]) he4 hH1 rfl (wanted_plain rfl _) rfl rfl rfl rfl rfl (by kernel_rfl) (by kernel_rfl) (by kernel_rfl) rfl ?_
  intro w5 a6 hH5 hf he6
  replace hH5 : Hp w [⟨p1, 27, #[Value.slice A l.length c, Value.bool false]⟩] w5 := hH5
  clear hf
  clear he4 a4 hH1
  refine wpList_nil ?_
  refine then_ok ?_
  refine wp_ret ?_
  try simp only [Exit.then, Exit.inBlock]
  exact ret_row rfl he6 rfl (hH5.at (i := 0) rfl) undL rfl infoL2 ⟨_, rfl, hH5.new, _, rfl, A, c, b, rfl, hc, hr.new hH5.new⟩

set_option linter.unusedSimpArgs false in
set_option maxRecDepth 100000 in
set_option maxHeartbeats 1600000 in
theorem list_any (x : Value) (l : List Ce) (w : World) (h : SlC w x l) :
    Calls Tryd.prog 38 #[x] w fun e w' => ∃ v, e = .returned v ∧ New w w' ∧ SlC w' v l := by
  refine calls_args (vl := [x]) 4 Tryd.func38 rfl Tryd.ntmps38 (by kernel_rfl) (fun a he => ?_)
  have he0 : Env 4 [(0, x)] a := he
  clear he
  have hH := Hp.start w
  refine wp_seq ?_
  refine wp_region_lit ?_
  refine lV (Value.slice none 0 0) he0 rfl rfl (wanted_plain rfl _) (rn_asg rfl (he0.op rfl) w) ?_
  intro a1 he1
  clear he0 a
  refine wpList_nil ?_
  refine then_ok ?_
  refine wp_seq ?_
  refine wp_region_lit ?_
  refine lV (x) he1 rfl rfl (wanted_plain rfl _) (rn_mv rfl (he1.op rfl) w) ?_
  intro a2 he2
  clear he1 a1
  refine lV (x) he2 rfl rfl (wanted_plain rfl _) (rn_asg rfl (he2.op rfl) w) ?_
  intro a3 he3
  clear he2 a2
  refine wpList_nil ?_
  refine then_ok ?_
  refine wp_ret ?_
  try simp only [Exit.then, Exit.inBlock, Exit.noGoto]
  exact ret_env rfl he3 rfl ⟨_, rfl, hH.new, h.new hH.new⟩

set_option linter.unusedSimpArgs false in
set_option maxRecDepth 100000 in
set_option maxHeartbeats 1600000 in
theorem small_b (n cap : Nat) (A : Option Addr) (so : Bool) (v : Bool) (hv : decide (n ≤ 40) = v) (w : World) :
    Calls Tryd.prog 19 #[.agg #[.slice A n cap, .bool so]] w fun e w' => e = .returned (.bool v) ∧ New w w' := by
  refine calls_args (vl := [Value.agg #[Value.slice A n cap, Value.bool so]]) 7 Tryd.func19 rfl Tryd.ntmps19 (by kernel_rfl) (fun a he => ?_)
  have he0 : Env 7 [(0, Value.agg #[Value.slice A n cap, Value.bool so])] a := he
  clear he
  have hH := Hp.start w
  refine wp_seq ?_
  refine wp_region_lit ?_
  refine lNew (fun p => .pointer (some ⟨p, 0, none⟩)) he0 hH rfl rfl (wanted_plain rfl _) (rn_boxL rfl (he0.op rfl) w) ?_
  intro p1 w1 a2 hn hH1 he2
  clear he0 a hH hn
  refine lV (Value.bool false) he2 rfl rfl (wanted_plain rfl _) (rn_asg rfl (he2.op rfl) w1) ?_
  intro a3 he3
  clear he2 a2
  refine wpList_nil ?_
  refine then_ok ?_
  refine wp_seq ?_
  refine wp_region_lit ?_
  refine lV (Value.pointer (some ⟨p1, 0, none⟩)) he3 rfl rfl (wanted_plain rfl _) (rn_faL0 rfl (he3.op rfl) rfl w1) ?_
  intro a4 he4
  clear he3 a3
  refine lV (Value.slice A n cap) he4 rfl rfl (wanted_plain rfl _) (rn_ldS rfl (he4.op rfl) (hH1.at (i := 0) rfl) rfl) ?_
  intro a5 he5
  clear he4 a4
  refine lV (Value.int .i64 (n : Nat)) he5 rfl rfl (wanted_plain rfl _) (rn_lenC rfl (he5.op rfl) w1) ?_
  intro a6 he6
  clear he5 a5
  refine lV (Value.bool v) he6 rfl rfl (wanted_plain rfl _) (rn_leq rfl (he6.op rfl) (he6.op rfl) (by rw [← hv]; simp only [decide_eq_decide]; omega) w1) ?_
  intro a7 he7
  clear he6 a6
  refine lV (Value.bool v) he7 rfl rfl (wanted_plain rfl _) (rn_asg rfl (he7.op rfl) w1) ?_
  intro a8 he8
  clear he7 a7
  refine wpList_nil ?_
  refine then_ok ?_
  refine wp_ret ?_
  try simp only [Exit.then, Exit.inBlock, Exit.noGoto]
  exact ret_env rfl he8 rfl ⟨rfl, hH1.new⟩

end Go.Proofs.YtjcpdldaimebbaaDoor
namespace Go.Proofs.YtjcpdldaimebbaaDoor
open Go.RowKit

inductive Kl where
  | val (v : Value)
  | cells (l : List Ce)
  | line (l : List Ce) (s : Bool)
def Kl.holds : Kl → Value → World → Prop
  | .val u, v, _ => v = u
  | .cells l, v, w => SlC w v l
  | .line l s, v, w => ∃ x, v = .agg #[x, .bool s] ∧ SlC w x l
def HoldsL (Is : List Kl) (k : Nat) (v : Value) (w : World) : Prop := match Is[k]? with
  | some d => d.holds v w
  | none => True
theorem HoldsL.new {Is : List Kl} (k : Nat) (v : Value) (w w' : World) (h : HoldsL Is k v w) (hn : New w w') : HoldsL Is k v w' := by
  unfold HoldsL at *
  cases hd : Is[k]? with
  | none => trivial
  | some d =>
    rw [hd] at h
    cases d with
    | val u => exact h
    | cells l => exact SlC.new h hn
    | line l s => obtain ⟨x, h1, h2⟩ := h; exact ⟨x, h1, h2.new hn⟩
theorem ln_k {l : List Ce} {s : Bool} {w w' : World} {e : Ending} (h : LnSaid l s w e w') : ∃ v, e = .returned v ∧ New w w' ∧ ∃ y, v = .agg #[y, .bool s] ∧ SlC w' y l := by
  obtain ⟨⟨A, c, h1, h2⟩, h3⟩ := h
  exact ⟨_, h1, h3, _, rfl, SlC.own h2⟩
theorem news_s (col : Int) (y : Value) (q : List Ce) (sb : Bool) (no : Int) (v : Bool) (hv : isB (newR col) q sb no = v) (hm : q.length ≤ 1000000) (w : World) (hy : SlC w y q) (hT : Tab w) :
    Calls Tryd.prog 11 #[.int .i64 col, .agg #[y, .bool sb], .int .i64 no] w fun e w' => e = .returned (.bool v) ∧ New w w' := by
  obtain ⟨B, cq, bq, rfl, hcq, hq⟩ := hy
  exact news_b col q _ bq cq B sb no v hv w hq hm hT
theorem of_s (x : Value) (l : List Ce) (so : Bool) (y : Value) (q : List Ce) (sb : Bool) (no : Int) (v : Bool) (hv : isB (ofR l so) q sb no = v) (hn : l.length ≤ 1000000) (hm : q.length ≤ 1000000) (w : World) (hx : SlC w x l) (hy : SlC w y q) (hT : Tab w) :
    Calls Tryd.prog 15 #[x, .bool so, .agg #[y, .bool sb], .int .i64 no] w fun e w' => e = .returned (.bool v) ∧ New w w' := by
  obtain ⟨A, cap, b, rfl, hc, hr⟩ := hx
  obtain ⟨B, cq, bq, rfl, hcq, hq⟩ := hy
  exact of_b l _ b cap A so q _ bq cq B sb no v hv w hr hn hq hm hT
theorem trims_s (x : Value) (l : List Ce) (so : Bool) (y : Value) (q : List Ce) (sb : Bool) (no : Int) (v : Bool) (hv : isB (trimR l so) q sb no = v) (hn : l.length ≤ 1000000) (hm : q.length ≤ 1000000) (w : World) (hx : SlC w x l) (hy : SlC w y q) (hT : Tab w) :
    Calls Tryd.prog 28 #[.agg #[x, .bool so], .agg #[y, .bool sb], .int .i64 no] w fun e w' => e = .returned (.bool v) ∧ New w w' := by
  obtain ⟨A, cap, b, rfl, hc, hr⟩ := hx
  obtain ⟨B, cq, bq, rfl, hcq, hq⟩ := hy
  exact trims_b l _ b cap A so q _ bq cq B sb no v hv w hr hc hn hq hm hT
theorem fits_s (x : Value) (l : List Ce) (so : Bool) (col : Int) (y : Value) (q : List Ce) (sb : Bool) (no : Int) (v : Bool) (hv : isB (fitR l so col) q sb no = v) (hm : q.length ≤ 1000000) (w : World) (hx : SlC w x l) (hy : SlC w y q) (hT : Tab w) :
    Calls Tryd.prog 29 #[.agg #[x, .bool so], .int .i64 col, .agg #[y, .bool sb], .int .i64 no] w fun e w' => e = .returned (.bool v) ∧ New w w' := by
  obtain ⟨A, cap, b, rfl, hc, hr⟩ := hx
  obtain ⟨B, cq, bq, rfl, hcq, hq⟩ := hy
  exact fits_b l _ b cap A so col q _ bq cq B sb no v hv w hr hc hq hm hT
theorem puts_s (x : Value) (l : List Ce) (so : Bool) (at_ : Int) (h0 : -9223372036854775808 ≤ at_) (h1 : at_ ≤ 9223372036854775807) (z : Value) (d : List Ce) (y : Value) (q : List Ce) (sb : Bool) (no : Int) (v : Bool) (hv : isB (putR l so at_ d) q sb no = v) (hn : l.length ≤ 1000000) (hmd : d.length ≤ 100000) (hm : q.length ≤ 1000000) (w : World) (hx : SlC w x l) (hd : SlC w z d) (hy : SlC w y q) (hT : Tab w) :
    Calls Tryd.prog 39 #[.agg #[x, .bool so], .int .i64 at_, z, .agg #[y, .bool sb], .int .i64 no] w fun e w' => e = .returned (.bool v) ∧ New w w' := by
  obtain ⟨A, cap, b, rfl, hc, hr⟩ := hx
  obtain ⟨B, cq, bq, rfl, hcq, hq⟩ := hy
  obtain ⟨E, cd, bd, rfl, hcd, hrd⟩ := hd
  exact puts_b l _ b cap A so at_ h0 h1 d _ bd cd E q _ bq cq B sb no v hv w hr hc hn hrd hmd hq hm hT
theorem valid_s (x : Value) (l : List Ce) (so : Bool) (v : Bool) (hv : okL l = v) (w : World) (hx : SlC w x l) (hT : Tab w) :
    Calls Tryd.prog 13 #[.agg #[x, .bool so]] w fun e w' => e = .returned (.bool v) ∧ New w w' := by
  obtain ⟨A, cap, b, rfl, hc, hr⟩ := hx
  exact LValid_b l _ b cap A so v hv w hr hT
theorem rvalid_s (x : Value) (l : List Ce) (so : Bool) (v : Bool) (hv : okL l = v) (w : World) (hx : SlC w x l) :
    Calls Tryd.prog 14 #[.agg #[x, .bool so]] w fun e w' => e = .returned (.bool v) ∧ New w w' := by
  obtain ⟨A, cap, b, rfl, hc, hr⟩ := hx
  exact RLValid_b l _ b cap A so v hv w hr
theorem used_s (x : Value) (l : List Ce) (so : Bool) (k : Nat) (hk : usedN l = k) (hn : l.length ≤ 1000000) (w : World) (hx : SlC w x l) :
    Calls Tryd.prog 20 #[.agg #[x, .bool so]] w fun e w' => e = .returned (.int .i64 k) ∧ New w w' := by
  obtain ⟨A, cap, b, rfl, hc, hr⟩ := hx
  exact hk ▸ LUsed_any l _ b cap A so w hr hn
theorem rused_s (x : Value) (l : List Ce) (so : Bool) (k : Nat) (hk : usedN l = k) (hn : l.length ≤ 1000000) (w : World) (hx : SlC w x l) :
    Calls Tryd.prog 21 #[.agg #[x, .bool so]] w fun e w' => e = .returned (.int .i64 k) ∧ New w w' := by
  obtain ⟨A, cap, b, rfl, hc, hr⟩ := hx
  exact hk ▸ RLUsed_any l _ b cap A so w hr hn
theorem text_s (x : Value) (l : List Ce) (so : Bool) (t : ByteArray) (ht : runesBytes (textsC (l.take (usedN l))) = t) (hn : l.length ≤ 1000000) (w : World) (hx : SlC w x l) :
    Calls Tryd.prog 22 #[.agg #[x, .bool so]] w fun e w' => e = .returned (.string t) ∧ New w w' := by
  obtain ⟨A, cap, b, rfl, hc, hr⟩ := hx
  exact LText_b l _ b cap A so t ht w hr hc hn
theorem rtext_s (x : Value) (l : List Ce) (so : Bool) (t : ByteArray) (ht : runesBytes (textsC (l.take (usedN l))) = t) (hn : l.length ≤ 1000000) (w : World) (hx : SlC w x l) :
    Calls Tryd.prog 23 #[.agg #[x, .bool so]] w fun e w' => e = .returned (.string t) ∧ New w w' := by
  obtain ⟨A, cap, b, rfl, hc, hr⟩ := hx
  exact RLText_b l _ b cap A so t ht w hr hc hn
theorem equal_s (x : Value) (l : List Ce) (so : Bool) (y : Value) (q : List Ce) (sb : Bool) (v : Bool) (hv : ((so == sb) && decide (l = q)) = v) (hn : l.length ≤ 1000000) (hm : q.length ≤ 1000000) (w : World) (hx : SlC w x l) (hy : SlC w y q) :
    Calls Tryd.prog 24 #[.agg #[x, .bool so], .agg #[y, .bool sb]] w fun e w' => e = .returned (.bool v) ∧ New w w' := by
  obtain ⟨A, cap, b, rfl, hc, hr⟩ := hx
  obtain ⟨B, cq, bq, rfl, hcq, hq⟩ := hy
  exact LEqual_b l q _ _ b bq cap cq A B so sb v hv w hr hq hn hm
theorem same_s (x : Value) (l : List Ce) (so : Bool) (y : Value) (q : List Ce) (sb : Bool) (v : Bool) (hv : ((so == sb) && decide (l = q)) = v) (hn : l.length ≤ 1000000) (hm : q.length ≤ 1000000) (w : World) (hx : SlC w x l) (hy : SlC w y q) :
    Calls Tryd.prog 25 #[.agg #[x, .bool so], .agg #[y, .bool sb]] w fun e w' => e = .returned (.bool v) ∧ New w w' := by
  obtain ⟨A, cap, b, rfl, hc, hr⟩ := hx
  obtain ⟨B, cq, bq, rfl, hcq, hq⟩ := hy
  exact RLSame_b l q _ _ b bq cap cq A B so sb v hv w hr hq hn hm
theorem copy_s (x : Value) (l : List Ce) (so : Bool) (hn : l.length ≤ 1000000) (w : World) (hx : SlC w x l) :
    Calls Tryd.prog 27 #[.agg #[x, .bool so]] w fun e w' => ∃ v, e = .returned v ∧ New w w' ∧ ∃ y, v = .agg #[y, .bool so] ∧ SlC w' y l := by
  obtain ⟨A, cap, b, rfl, hc, hr⟩ := hx
  exact (LCopy_any l _ b cap A so w hr hn).mono (fun _ _ h => ln_k h)
theorem rcopy_s (x : Value) (l : List Ce) (so : Bool) (hn : l.length ≤ 1000000) (w : World) (hx : SlC w x l) :
    Calls Tryd.prog 26 #[.agg #[x, .bool so]] w fun e w' => ∃ v, e = .returned v ∧ New w w' ∧ ∃ y, v = .agg #[y, .bool so] ∧ SlC w' y l := by
  obtain ⟨A, cap, b, rfl, hc, hr⟩ := hx
  exact (RCopy_any l _ b cap A so w hr hn).mono (fun _ _ h => ln_k h)
theorem rtrim_s (x : Value) (l : List Ce) (so : Bool) (hn : l.length ≤ 1000000) (w : World) (hx : SlC w x l) :
    Calls Tryd.prog 31 #[.agg #[x, .bool so]] w fun e w' => ∃ v, e = .returned v ∧ New w w' ∧ ∃ y, v = .agg #[y, .bool so] ∧ SlC w' y (l.take (usedN l)) := by
  obtain ⟨A, cap, b, rfl, hc, hr⟩ := hx
  exact (RTrim_any l _ b cap A so w hr hc hn).mono (fun _ _ h => ln_k h)
theorem rfit_s (x : Value) (l : List Ce) (so : Bool) (k : Nat) (hk : k ≤ 1000000) (hn : l.length ≤ 1000000) (w : World) (hx : SlC w x l) :
    Calls Tryd.prog 33 #[.agg #[x, .bool so], .int .i64 k] w fun e w' => ∃ v, e = .returned v ∧ New w w' ∧ ∃ y, v = .agg #[y, .bool so] ∧ SlC w' y (fitL l k) := by
  obtain ⟨A, cap, b, rfl, hc, hr⟩ := hx
  exact (RFit_any l _ b cap A so k hk w hr hc hn).mono (fun _ _ h => ln_k h)
theorem rnew_s (n : Int) (hn : n ≤ 1000000) (w : World) :
    Calls Tryd.prog 12 #[.int .i64 n] w fun e w' => ∃ v, e = .returned v ∧ New w w' ∧ ∃ y, v = .agg #[y, .bool false] ∧ SlC w' y (List.replicate n.toNat eC) := by
  exact (RNew_any n hn w).mono (fun _ _ h => ln_k h)
theorem is_s (x : Value) (l : List Ce) (so : Bool) (er : Int) (y : Value) (q : List Ce) (sb : Bool) (no : Int) (v : Bool) (hv : isB ⟨l, so, er⟩ q sb no = v) (hn : l.length ≤ 1000000) (hm : q.length ≤ 1000000) (w : World) (hx : SlC w x l) (hy : SlC w y q) :
    Calls Tryd.prog 18 #[.agg #[x, .bool so], .int .i64 er, .agg #[y, .bool sb], .int .i64 no] w fun e w' => e = .returned (.bool v) ∧ New w w' := by
  obtain ⟨A, cap, b, rfl, hc, hr⟩ := hx
  obtain ⟨B, cq, bq, rfl, hcq, hq⟩ := hy
  exact is_b l _ b cap A so q _ bq cq B sb er no v hv w hr hq hn hm
theorem small_s (x : Value) (l : List Ce) (so : Bool) (v : Bool) (hv : decide (l.length ≤ 40) = v) (w : World) (hx : SlC w x l) :
    Calls Tryd.prog 19 #[.agg #[x, .bool so]] w fun e w' => e = .returned (.bool v) ∧ New w w' := by
  obtain ⟨A, cap, b, rfl, hc, hr⟩ := hx
  exact small_b _ cap A so v hv w
theorem trim_l (x : Value) (l : List Ce) (so : Bool) (hn : l.length ≤ 1000000) (w : World) (hx : SlC w x l) (hT : Tab w) :
    Calls Tryd.prog 30 #[.agg #[x, .bool so]] w fun e w' => LeSaid (trimR l so) w e w' := by
  obtain ⟨A, cap, b, rfl, hc, hr⟩ := hx
  exact LTrim_any l _ b cap A so w hr hc hn hT
theorem fit_l (x : Value) (l : List Ce) (so : Bool) (col : Int) (w : World) (hx : SlC w x l) (hT : Tab w) :
    Calls Tryd.prog 32 #[.agg #[x, .bool so], .int .i64 col] w fun e w' => LeSaid (fitR l so col) w e w' := by
  obtain ⟨A, cap, b, rfl, hc, hr⟩ := hx
  exact LFit_any l _ b cap A so col w hr hc hT
theorem of_l (x : Value) (l : List Ce) (so : Bool) (w : World) (hx : SlC w x l) (hT : Tab w) :
    Calls Tryd.prog 16 #[x, .bool so] w fun e w' => LeSaid (ofR l so) w e w' := by
  obtain ⟨A, cap, b, rfl, hc, hr⟩ := hx
  exact LOf_any l _ b cap A so w hr hT
theorem put_l (x : Value) (l : List Ce) (so : Bool) (at_ : Int) (h0 : -9223372036854775808 ≤ at_) (h1 : at_ ≤ 9223372036854775807) (z : Value) (d : List Ce) (hmd : d.length ≤ 100000) (w : World) (hx : SlC w x l) (hd : SlC w z d) (hT : Tab w) :
    Calls Tryd.prog 35 #[.agg #[x, .bool so], .int .i64 at_, z] w fun e w' => LeSaid (putR l so at_ d) w e w' := by
  obtain ⟨A, cap, b, rfl, hc, hr⟩ := hx
  obtain ⟨E, cd, bd, rfl, hcd, hrd⟩ := hd
  exact LPut_any l _ b cap A so at_ h0 h1 d _ bd cd E w hr hc hrd hmd hT
theorem rput_l (x : Value) (l : List Ce) (so : Bool) (at_ : Int) (h0 : -9223372036854775808 ≤ at_) (h1 : at_ ≤ 9223372036854775807) (z : Value) (d : List Ce) (hmd : d.length ≤ 100000) (w : World) (hx : SlC w x l) (hd : SlC w z d) :
    Calls Tryd.prog 34 #[.agg #[x, .bool so], .int .i64 at_, z] w fun e w' => LeSaid (putR l so at_ d) w e w' := by
  obtain ⟨A, cap, b, rfl, hc, hr⟩ := hx
  obtain ⟨E, cd, bd, rfl, hcd, hrd⟩ := hd
  exact RPut_any l _ b cap A so at_ h0 h1 d _ bd cd E w hr hc hrd hmd
theorem copy_l (x : Value) (l : List Ce) (so : Bool) (hn : l.length ≤ 1000000) (w : World) (hx : SlC w x l) :
    Calls Tryd.prog 27 #[.agg #[x, .bool so]] w fun e w' => LnSaid l so w e w' := by
  obtain ⟨A, cap, b, rfl, hc, hr⟩ := hx
  exact LCopy_any l _ b cap A so w hr hn
theorem rcopy_l (x : Value) (l : List Ce) (so : Bool) (hn : l.length ≤ 1000000) (w : World) (hx : SlC w x l) :
    Calls Tryd.prog 26 #[.agg #[x, .bool so]] w fun e w' => LnSaid l so w e w' := by
  obtain ⟨A, cap, b, rfl, hc, hr⟩ := hx
  exact RCopy_any l _ b cap A so w hr hn
theorem rtrim_l (x : Value) (l : List Ce) (so : Bool) (hn : l.length ≤ 1000000) (w : World) (hx : SlC w x l) :
    Calls Tryd.prog 31 #[.agg #[x, .bool so]] w fun e w' => LnSaid (l.take (usedN l)) so w e w' := by
  obtain ⟨A, cap, b, rfl, hc, hr⟩ := hx
  exact RTrim_any l _ b cap A so w hr hc hn
theorem rfit_l (x : Value) (l : List Ce) (so : Bool) (k : Nat) (hk : k ≤ 1000000) (hn : l.length ≤ 1000000) (w : World) (hx : SlC w x l) :
    Calls Tryd.prog 33 #[.agg #[x, .bool so], .int .i64 k] w fun e w' => LnSaid (fitL l k) so w e w' := by
  obtain ⟨A, cap, b, rfl, hc, hr⟩ := hx
  exact RFit_any l _ b cap A so k hk w hr hc hn
theorem sameC_s (x : Value) (l : List Ce) (y : Value) (q : List Ce) (v : Bool) (hv : decide (l = q) = v) (hn : l.length ≤ 1000000) (hm : q.length ≤ 1000000) (w : World) (hx : SlC w x l) (hy : SlC w y q) :
    Calls Tryd.prog 36 #[x, y] w fun e w' => e = .returned (.bool v) ∧ New w w' := by
  obtain ⟨A, cap, b, rfl, hc, hr⟩ := hx
  obtain ⟨B, cq, bq, rfl, hcq, hq⟩ := hy
  exact hv ▸ RSame_any l q _ _ b bq cap cq A B w hr hq hn hm
set_option linter.unusedSimpArgs false in
set_option maxRecDepth 100000 in
set_option maxHeartbeats 1600000 in
theorem hard_c (A : Option Addr) (n c : Nat) (w : World) :
    Calls Tryd.prog 37 #[.slice A n c] w fun e w' => e = .returned (.agg #[.slice A n c, .bool false]) ∧ New w w' := by
  refine calls_args (vl := [Value.slice A n c]) 5 Tryd.func37 rfl Tryd.ntmps37 (by kernel_rfl) (fun a he => ?_)
  have he0 : Env 5 [(0, Value.slice A n c)] a := he
  clear he
  have hH := Hp.start w
  refine wp_seq ?_
  refine wp_region_lit ?_
  refine lNew (fun p => .pointer (some ⟨p, 0, none⟩)) he0 hH rfl rfl (wanted_plain rfl _) (rn_allocL rfl w) ?_
  intro p1 w1 a2 hn hH1 he2
  clear he0 a hH hn
  refine wpList_nil ?_
  refine then_ok ?_
  refine wp_seq ?_
  refine wp_region_lit ?_
  refine lV (Value.slice A n c) he2 rfl rfl (wanted_plain rfl _) (rn_mv rfl (he2.op rfl) w1) ?_
  intro a3 he3
  clear he2 a2
  refine lV (Value.agg #[Value.slice A n c, Value.bool false]) he3 rfl rfl (wanted_plain rfl _) (rn_bL0 rfl (he3.op rfl) w1) ?_
  intro a4 he4
  clear he3 a3
  refine lSetF 0 #[Value.slice A n c, Value.bool false] (cs := #[Value.slice A n c, Value.bool false]) he4 hH1 rfl (wanted_plain rfl _) rfl rfl rfl rfl rfl (by kernel_rfl) (by kernel_rfl) (by kernel_rfl) rfl ?_
  intro w5 a6 hH5 hf he6
  replace hH5 : Hp w [⟨p1, 27, #[Value.slice A n c, Value.bool false]⟩] w5 := hH5
  clear hf
  clear he4 a4 hH1
  refine wpList_nil ?_
  refine then_ok ?_
  refine wp_ret ?_
  try simp only [Exit.then, Exit.inBlock]
  exact ret_row rfl he6 rfl (hH5.at (i := 0) rfl) undL rfl infoL2 ⟨rfl, hH5.new⟩

end Go.Proofs.YtjcpdldaimebbaaDoor
