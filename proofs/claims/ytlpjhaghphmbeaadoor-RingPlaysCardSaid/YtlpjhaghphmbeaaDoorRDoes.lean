/-
  The law's calls: does.
-/
import Derived.Test.YtlpjhaghphmbeaaDoorRRead
import Derived.Test.YtlpjhaghphmbeaaDoorRRefB
namespace Go.Proofs.YtlpjhaghphmbeaaDoor
open Go.RowKit

def StepLe (R R' : RS) : Prop := R'.L.length ≤ R.L.length + 1 ∧ R'.nx ≤ R.nx + 1
section
variable {R : RS} {l : Ln}
theorem evR_le {S : RS} (h : PgOk S.pl S.P) (h1 : S.L.length ≤ R.L.length + 1) (h2 : S.nx ≤ R.nx + 1) : StepLe R (evR S) := by
  obtain ⟨_, h3, _⟩ := evR_ok h
  refine ⟨?_, by rw [evR_nx h]; exact h2⟩
  rw [h3, List.length_drop]
  omega
theorem StepLe.refl (R : RS) : StepLe R R := ⟨Nat.le_succ _, Nat.le_succ _⟩
theorem push_le (h : RgOk R) : StepLe R (pushR R l).1 := by
  unfold pushR
  split
  · exact evR_le (S := adR R l) (addP_ok h.pl1 h.pg) (Nat.le_of_eq (by rw [adR_L, List.length_append, List.length_singleton])) (Nat.le_of_eq adR_nx)
  · exact StepLe.refl R
theorem pop_le (h : RgOk R) : StepLe R (popR R).1 := by
  unfold popR
  split
  · exact StepLe.refl R
  · have hf : flatP (popP R.P) = R.L.take (R.L.length - 1) := popP_flat h.pg
    have e : (flatP (popP R.P)).length ≤ R.L.length := by rw [hf, List.length_take]; omega
    exact ⟨Nat.le_succ_of_le e, by show R.fi + (flatP (popP R.P)).length ≤ R.fi + R.L.length + 1; omega⟩
theorem set_le (h : RgOk R) {n : Int} : StepLe R (setR R n l).1 := by
  unfold setR
  split
  · split
    · rename_i hm
      obtain ⟨k, rfl, hk⟩ := miss_zero hm
      have e : (((R.fi + k : Nat) : Int) - R.fi).toNat = k := by omega
      rw [e]
      have hf := setP_flat (l := l) h hk
      have e2 : (flatP (setP R k l)).length = R.L.length := by rw [hf, List.length_set]
      exact ⟨Nat.le_succ_of_le (Nat.le_of_eq e2), by show R.fi + (flatP (setP R k l)).length ≤ R.fi + R.L.length + 1; omega⟩
    · exact StepLe.refl R
  · exact StepLe.refl R
theorem limit_le (h : RgOk R) (n : Int) : StepLe R (limitR R n).1 := by
  unfold limitR
  split
  · exact evR_le (S := { R with mo := n.toNat }) h.pg (Nat.le_succ _) (Nat.le_succ _)
  · exact StepLe.refl R
theorem clear_le : StepLe R (clearR R) := ⟨Nat.zero_le _, Nat.le_succ _⟩
end
set_option linter.unusedSimpArgs false in
set_option maxRecDepth 100000 in
set_option maxHeartbeats 1600000 in
theorem does_b (F : FP) (p : Nat) (R : RS) (A B : Option Addr) (c d : Nat) (wh i tn : Int) (x : Value) (l : List Ce) (s : Bool) (w : World) (hsep : SepL [ringD p R, rdD (.slice A R.L.length c) R.L, rowG (.slice B (pgI R.P).length d) (pgI R.P)] w F) (hsm : R.L.length ≤ 1000) (hnx : R.nx < bigN) (hF : ∀ k, F k → 2 ≤ k ∧ k < w.heap.size) (hT : Tab w) (hx : SlF w (fun k => ¬ F k) x l) (hl : l.length ≤ 1000000) :
    Calls Tryd.prog 11 #[.pointer (some ⟨p, 0, none⟩), .agg #[.int .i64 R.mo, .int .i64 R.pl, .int .i64 R.fi, .slice A R.L.length c, .slice B (pgI R.P).length d], .agg #[.int .i64 wh, .int .i64 i, .int .i64 tn, x, .bool s]] w fun e w' => ∃ (p' : Nat) (R' : RS) (A' : Option Addr) (c' : Nat) (B' : Option Addr) (d' : Nat), e = .returned (.tuple #[.pointer (some ⟨p', 0, none⟩), .agg #[.int .i64 ((R').mo : Int), .int .i64 ((R').pl : Int), .int .i64 ((R').fi : Int), .slice A' (R').L.length c', .slice B' (pgI (R').P).length d'], .bool true]) ∧ StepLe R R' ∧ Turned [ringD p' R', rdD (.slice A' (R').L.length c') (R').L, rowG (.slice B' (pgI (R').P).length d') (pgI (R').P)] F w w' := by
  have hnb : bigN = 1000000000 := rfl
  have hnn : R.nx = R.fi + R.L.length := rfl
  obtain ⟨Bx, cb, e_⟩ := hx.sl.shape
  subst e_
  refine calls_args (vl := [.pointer (some ⟨p, 0, none⟩), .agg #[.int .i64 R.mo, .int .i64 R.pl, .int .i64 R.fi, .slice A R.L.length c, .slice B (pgI R.P).length d], .agg #[.int .i64 wh, .int .i64 i, .int .i64 tn, .slice Bx l.length cb, .bool s]]) 132 Tryd.func11 rfl Tryd.ntmps11 (by kernel_rfl) (fun a he => ?_)
  have he0 : Env 132 [(0, .pointer (some ⟨p, 0, none⟩)), (1, .agg #[.int .i64 R.mo, .int .i64 R.pl, .int .i64 R.fi, .slice A R.L.length c, .slice B (pgI R.P).length d]), (2, .agg #[.int .i64 wh, .int .i64 i, .int .i64 tn, .slice Bx l.length cb, .bool s])] a := he
  clear he
  have hH := Hp.bare w
  have hD := Dt.begin hT hsep hF
  have hok := hD.ring_ok
  refine wp_seq (wp_region_lit ?_)
  refine lNewP (fun p => .pointer (some ⟨p, 0, none⟩)) he0 hH rfl rfl (wanted_plain rfl _) (rn_boxQ rfl (he0.op rfl) w) ?_
  intro p1 w1 a2 hp hn hH1 he2
  replace hD := hD.cons hn hp (hH1.at (i := 0) rfl).lt
  clear he0 a hH hn hp
  refine lNewP (fun p => .pointer (some ⟨p, 0, none⟩)) he2 hH1 rfl rfl (wanted_plain rfl _) (rn_boxA rfl (he2.op rfl) w1) ?_
  intro p3 w3 a4 hp hn hH3 he4
  replace hD := hD.cons hn hp (hH3.at (i := 0) rfl).lt
  clear he2 a2 hH1 hn hp
  refine lW (.pointer none) he4 rfl (rn_asg rfl (he4.op rfl) w3) ?_
  intro a5 he5
  clear he4 a4
  refine lNewP (fun p => .pointer (some ⟨p, 0, none⟩)) he5 hH3 rfl rfl (wanted_plain rfl _) (rn_allocQ rfl w3) ?_
  intro p6 w6 a7 hp hn hH6 he7
  replace hD := hD.cons hn hp (hH6.at (i := 0) rfl).lt
  clear he5 a5 hH3 hn hp
  refine lW (.bool false) he7 rfl (rn_asg rfl (he7.op rfl) w6) ?_
  intro a8 he8
  clear he7 a7
  refine wpList_nil (then_ok ?_)
  refine wp_seq (wp_region_lit ?_)
  refine lW (.pointer (some ⟨p3, 3, none⟩)) he8 rfl (rn_faA3 rfl (he8.op rfl) rfl w6) ?_
  intro a9 he9
  clear he8 a8
  refine lW (.agg #[.slice Bx l.length cb, .bool s]) he9 rfl (rn_ldp _ rfl (he9.op rfl) undL rfl infoL2 (hH6.at (i := 1) rfl) rfl) ?_
  intro a10 he10
  clear he9 a9
  refine lCx he10 rfl rfl Tryd.func34 (by kernel_rfl) rfl rfl (wanted_plain rfl _) rfl (rcopy_d _ l s hl w6 (hx.fr hD.fr (fun _ h => h)).sl) ?_
  rintro _ w11 ⟨Ao, co, rfl, ht⟩
  have hD2 := hD.made ht
  have hH11 := hH6.call ht.new
  replace hD := hD2
  clear hD2 ht
  refine ⟨_, rfl, ?_⟩
  intro a12 he12
  clear he10 a10 hH6
  refine lNewP (fun p => .pointer (some ⟨p, 0, none⟩)) he12 hH11 rfl rfl (wanted_plain rfl _) (rn_allocL rfl w11) ?_
  intro p13 w13 a14 hp hn hH13 he14
  replace hD := hD.cons hn hp (hH13.at (i := 0) rfl).lt
  clear he12 a12 hH11 hn hp
  refine lSetF 0 #[.slice Ao l.length co, .bool s] (cs := #[.slice Ao l.length co, .bool s]) he14 hH13 rfl (wanted_plain rfl _) rfl rfl rfl rfl rfl (by kernel_rfl) (by kernel_rfl) (by kernel_rfl) rfl ?_
  intro w15 a16 hH15 hf he16
  replace hD := hD.setb (i := 0) rfl rfl hf
  replace hH15 : Hp (bare w) [⟨p13, 36, #[.slice Ao l.length co, .bool s]⟩, ⟨p6, 33, #[.int .i64 0, .int .i64 0, .int .i64 0, .slice none 0 0, .slice none 0 0]⟩, ⟨p3, 38, #[.int .i64 wh, .int .i64 i, .int .i64 tn, .slice Bx l.length cb, .bool s]⟩, ⟨p1, 33, #[.int .i64 R.mo, .int .i64 R.pl, .int .i64 R.fi, .slice A R.L.length c, .slice B (pgI R.P).length d]⟩] w15 := hH15
  clear hf
  clear he14 a14 hH13
  refine wpList_nil (then_ok ?_)
  have he17 : Env 132 [(9, .pointer (some ⟨p13, 0, none⟩)), (8, .bool false), (7, .pointer (some ⟨p6, 0, none⟩)), (6, .pointer none), (5, .pointer (some ⟨p3, 0, none⟩)), (4, .pointer (some ⟨p1, 0, none⟩)), (0, .pointer (some ⟨p, 0, none⟩))] a16 := he16.mem ⟨rfl, rfl, rfl, rfl, rfl, rfl, rfl, trivial⟩
  clear he16
  as_aux_lemma =>
    refine wp_seq ?_
    refine wp_seq (wp_region_lit ?_)
    refine lW (.pointer (some ⟨p3, 0, none⟩)) he17 rfl (rn_faA0 rfl (he17.op rfl) rfl w15) ?_
    intro a18 he18
    clear he17 a16
    refine lW (.int .i64 wh) he18 rfl (rn_ld1 rfl (he18.op rfl) Tryd.underlying3 (hH15.at (i := 2) rfl) rfl) ?_
    intro a19 he19
    clear he18 a18
    refine wpList_nil (then_ok ?_)
    refine wp_block ?_
    by_cases hw0 : wh = 0
    · skip
      refine wp_seq (wp_region_lit ?_)
      refine lW (.bool true) he19 rfl (rn_eqI rfl (he19.op rfl) (he19.op rfl) (by simp [hw0]) w15) ?_
      intro a20 he20
      clear he19 a19
      refine lW (.bool true) he20 rfl (rn_asg rfl (he20.op rfl) w15) ?_
      intro a21 he21
      clear he20 a20
      refine wpList_nil (then_ok ?_)
      refine wp_cond_true (he21.op rfl) ?_
      by_cases ho : okL l = true
      · skip
        have hpv : (pushR R (l, s)).2 = ((R.nx : Int), 0) := by rw [push_t ho]
        refine wp_seq (wp_region_lit ?_)
        refine lW (.agg #[.int .i64 R.mo, .int .i64 R.pl, .int .i64 R.fi, .slice A R.L.length c, .slice B (pgI R.P).length d]) he21 rfl (rn_ldp _ rfl (he21.op rfl) undQ rfl infoQ5 (hH15.at (i := 3) rfl) rfl) ?_
        intro a22 he22
        clear he21 a21
        refine lW (.pointer (some ⟨p3, 3, none⟩)) he22 rfl (rn_faA3 rfl (he22.op rfl) rfl w15) ?_
        intro a23 he23
        clear he22 a22
        refine lW (.agg #[.slice Bx l.length cb, .bool s]) he23 rfl (rn_ldp _ rfl (he23.op rfl) undL rfl infoL2 (hH15.at (i := 2) rfl) rfl) ?_
        intro a24 he24
        clear he23 a23
        replace hD := hD.pick 3 rfl
        replace hD := hD.pick 3 rfl
        obtain ⟨F_, hsep, hF, hlo, hstep⟩ := Dt.stepL (A := [rdD (.slice A R.L.length c) R.L, rowG (.slice B (pgI R.P).length d) (pgI R.P)]) (D := [cellsD (.slice Ao l.length co) l, ringD p R]) hD
        refine lCx he24 rfl rfl Tryd.func35 (by kernel_rfl) rfl rfl (wanted_plain rfl _) rfl ((by have hc_ := qPush F_ R A B c d _ l s w15 hsep hok hsm hF hD.tab (fun k => ¬ F k ∧ k < w.heap.size) (SlF.fr hx.lt hD.fr (fun k hk => hk.1)) (fun k hk h9 => (hlo k h9).elim hk.1 (fun h8 => by have := hk.2; omega)); rw [hpv] at hc_; exact hc_)) ?_
        rintro _ w25 ⟨A2, c2, B2, d2, rfl, ht⟩
        obtain ⟨hD2, hHs⟩ := hstep _ _ ht
        have hH25 := hHs _ rfl hH15
        clear hHs hstep hsep hF hlo
        replace hD := hD2
        clear hD2 ht
        refine ⟨_, rfl, ?_⟩
        intro a26 he26
        clear he24 a24 hH15
        refine lW (.tuple #[.agg #[.int .i64 (((pushR R (l, s)).1).mo : Int), .int .i64 (((pushR R (l, s)).1).pl : Int), .int .i64 (((pushR R (l, s)).1).fi : Int), .slice A2 ((pushR R (l, s)).1).L.length c2, .slice B2 (pgI ((pushR R (l, s)).1).P).length d2], .int .i64 0]) he26 rfl (rn_mv rfl (he26.op rfl) w25) ?_
        intro a27 he27
        clear he26 a26
        refine lW (.agg #[.int .i64 (((pushR R (l, s)).1).mo : Int), .int .i64 (((pushR R (l, s)).1).pl : Int), .int .i64 (((pushR R (l, s)).1).fi : Int), .slice A2 ((pushR R (l, s)).1).L.length c2, .slice B2 (pgI ((pushR R (l, s)).1).P).length d2]) he27 rfl (rn_ext rfl (he27.op rfl) rfl w25) ?_
        intro a28 he28
        clear he27 a27
        refine lW (.int .i64 0) he28 rfl (rn_ext rfl (he28.op rfl) rfl w25) ?_
        intro a29 he29
        clear he28 a28
        refine lNewP (fun p => .pointer (some ⟨p, 0, none⟩)) he29 hH25 rfl rfl (wanted_plain rfl _) (rn_allocQ rfl w25) ?_
        intro p30 w30 a31 hp hn hH30 he31
        replace hD := hD.cons hn hp (hH30.at (i := 0) rfl).lt
        clear he29 a29 hH25 hn hp
        refine lSetF 0 #[.int .i64 (((pushR R (l, s)).1).mo : Int), .int .i64 (((pushR R (l, s)).1).pl : Int), .int .i64 (((pushR R (l, s)).1).fi : Int), .slice A2 ((pushR R (l, s)).1).L.length c2, .slice B2 (pgI ((pushR R (l, s)).1).P).length d2] (cs := #[.int .i64 (((pushR R (l, s)).1).mo : Int), .int .i64 (((pushR R (l, s)).1).pl : Int), .int .i64 (((pushR R (l, s)).1).fi : Int), .slice A2 ((pushR R (l, s)).1).L.length c2, .slice B2 (pgI ((pushR R (l, s)).1).P).length d2]) he31 hH30 rfl (wanted_plain rfl _) rfl rfl rfl rfl rfl (by kernel_rfl) (by kernel_rfl) (by kernel_rfl) rfl ?_
        intro w32 a33 hH32 hf he33
        replace hD := hD.setb (i := 0) rfl rfl hf
        replace hH32 : Hp (bare w) [⟨p30, 33, #[.int .i64 (((pushR R (l, s)).1).mo : Int), .int .i64 (((pushR R (l, s)).1).pl : Int), .int .i64 (((pushR R (l, s)).1).fi : Int), .slice A2 ((pushR R (l, s)).1).L.length c2, .slice B2 (pgI ((pushR R (l, s)).1).P).length d2]⟩, ⟨p13, 36, #[.slice Ao l.length co, .bool s]⟩, ⟨p6, 33, #[.int .i64 0, .int .i64 0, .int .i64 0, .slice none 0 0, .slice none 0 0]⟩, ⟨p3, 38, #[.int .i64 wh, .int .i64 i, .int .i64 tn, .slice Bx l.length cb, .bool s]⟩, ⟨p1, 33, #[.int .i64 R.mo, .int .i64 R.pl, .int .i64 R.fi, .slice A R.L.length c, .slice B (pgI R.P).length d]⟩] w32 := hH32
        clear hf
        clear he31 a31 hH30
        refine lW (.int .i64 0) he33 rfl (rn_asg rfl (he33.op rfl) w32) ?_
        intro a34 he34
        clear he33 a33
        refine wpList_nil (then_ok ?_)
        refine wp_seq (wp_region_lit ?_)
        refine lW (.int .i64 0) he34 rfl (rn_asg rfl (he34.op rfl) w32) ?_
        intro a35 he35
        clear he34 a34
        refine wpList_nil (then_ok ?_)
        refine wp_seq ?_
        refine wp_seq (wp_region_lit ?_)
        refine lW (.int .i64 0) he35 rfl (rn_mv rfl (he35.op rfl) w32) ?_
        intro a36 he36
        clear he35 a35
        refine lW (.bool true) he36 rfl (rn_eqI rfl (he36.op rfl) (he36.op rfl) (by simp) w32) ?_
        intro a37 he37
        clear he36 a36
        refine wpList_nil (then_ok ?_)
        refine wp_cond_true (he37.op rfl) ?_
        refine wp_region_lit ?_
        refine lW (.agg #[.int .i64 R.mo, .int .i64 R.pl, .int .i64 R.fi, .slice A R.L.length c, .slice B (pgI R.P).length d]) he37 rfl (rn_ldp _ rfl (he37.op rfl) undQ rfl infoQ5 (hH32.at (i := 4) rfl) rfl) ?_
        intro a38 he38
        clear he37 a37
        refine lC he38 rfl rfl Tryd.func36 (by kernel_rfl) rfl rfl (wanted_plain rfl _) rfl (qNext _ _ _ (R.nx : Int) _ _ _ _ _ _ w32 (by rw [hnn]; omega) (by omega) (by omega)) ?_
        intro w39 a40 hn he40
        have hH39 := hH32.call hn
        replace hD := (hD).new hn
        clear he38 a38 hH32 hn
        refine lW (.int .i64 R.nx) he40 rfl (rn_asg rfl (he40.op rfl) w39) ?_
        intro a41 he41
        clear he40 a40
        refine wpList_nil (then_ok ?_)
        refine wp_seq (wp_region_lit ?_)
        refine lW (.pointer (some ⟨p, 0, none⟩)) he41 rfl (rn_mv rfl (he41.op rfl) w39) ?_
        intro a42 he42
        clear he41 a41
        refine lW (.agg #[.slice Ao l.length co, .bool s]) he42 rfl (rn_ldp _ rfl (he42.op rfl) undL rfl infoL2 (hH39.at (i := 1) rfl) rfl) ?_
        intro a43 he43
        clear he42 a42
        refine lW (.int .i64 R.nx) he43 rfl (rn_mv rfl (he43.op rfl) w39) ?_
        intro a44 he44
        clear he43 a43
        refine lW (.int .i64 0) he44 rfl (rn_mv rfl (he44.op rfl) w39) ?_
        intro a45 he45
        clear he44 a44
        replace hD := hD.pick 2 rfl
        replace hD := hD.pick 3 rfl
        obtain ⟨F_, G_, hsep, hrd_, hdj, hF, hstep⟩ := Dt.stepR (A := [ringD p R]) (d := cellsD (.slice Ao l.length co) l) (D := [rdD (.slice A2 ((pushR R (l, s)).1).L.length c2) ((pushR R (l, s)).1).L, rowG (.slice B2 (pgI ((pushR R (l, s)).1).P).length d2) (pgI ((pushR R (l, s)).1).P)]) hD
        refine lCx he45 rfl rfl Tryd.func17 (by kernel_rfl) rfl rfl (wanted_plain rfl _) rfl (pushes_b p R _ l s (R.nx : Int) 0 F_ G_ w39 hsep.the hnx hpv (cells_f hrd_) hdj hF hD.tab) ?_
        rintro _ w46 ⟨rfl, ht⟩
        obtain ⟨hD2, hHs⟩ := hstep _ _ ht
        have hH46 := hHs _ rfl hH39
        clear hHs hstep hsep hF hrd_ hdj
        replace hD := hD2
        clear hD2 ht
        refine ⟨_, rfl, ?_⟩
        intro a47 he47
        clear he45 a45 hH39
        refine lW (.bool true) he47 rfl (rn_asg rfl (he47.op rfl) w46) ?_
        intro a48 he48
        clear he47 a47
        refine wpList_nil (then_ok ?_)
        refine wp_seq (wp_region_lit ?_)
        refine lW (.pointer (some ⟨p13, 0, none⟩)) he48 rfl (rn_faL0 rfl (he48.op rfl) rfl w46) ?_
        intro a49 he49
        clear he48 a48
        refine lW (.slice Ao l.length co) he49 rfl (rn_ldS rfl (he49.op rfl) (hH46.at (i := 1) rfl) rfl) ?_
        intro a50 he50
        clear he49 a49
        replace hD := hD.pick 1 rfl
        obtain ⟨F_, hsep, hF, hstep⟩ := Dt.step (A := [cellsD (.slice Ao l.length co) l]) (D := [ringD p (pushR R (l, s)).1, rdD (.slice A2 ((pushR R (l, s)).1).L.length c2) ((pushR R (l, s)).1).L, rowG (.slice B2 (pgI ((pushR R (l, s)).1).P).length d2) (pgI ((pushR R (l, s)).1).P)]) hD
        refine lCx he50 rfl rfl Tryd.func37 (by kernel_rfl) rfl rfl (wanted_plain rfl _) rfl (stain_d hsep.the hl) ?_
        rintro _ w51 ⟨rfl, ht⟩
        obtain ⟨hD2, hHs⟩ := hstep _ _ ht
        have hH51 := hHs _ rfl hH46
        clear hHs hstep hsep hF
        replace hD := hD2
        clear hD2 ht
        refine ⟨_, rfl, ?_⟩
        intro a52 he52
        clear he50 a50 hH46
        refine wpList_nil (then_ok ?_)
        refine wp_seq ?_
        refine wp_region_held_drew (S := Hp (bare w) [⟨p30, 33, #[.int .i64 (((pushR R (l, s)).1).mo : Int), .int .i64 (((pushR R (l, s)).1).pl : Int), .int .i64 (((pushR R (l, s)).1).fi : Int), .slice A2 ((pushR R (l, s)).1).L.length c2, .slice B2 (pgI ((pushR R (l, s)).1).P).length d2]⟩, ⟨p13, 36, #[.slice Ao l.length co, .bool s]⟩, ⟨p3, 38, #[.int .i64 wh, .int .i64 i, .int .i64 tn, .slice Bx l.length cb, .bool s]⟩, ⟨p1, 33, #[.int .i64 R.mo, .int .i64 R.pl, .int .i64 R.fi, .slice A R.L.length c, .slice B (pgI R.P).length d]⟩]) (by kernel_rfl) ((hH51.drew).drop1 2 rfl) (fun _ => ?_)
        have hn : New w51 (World.drew w51) := (Fr.refl _ _).drew
        replace hD := (hD).new hn
        clear hn
        have hH53 := hH51.drew
        clear hH51
        generalize World.drew w51 = w53 at *
        refine hW (fuel := 5) (i := 0) (.pointer (some ⟨p, 0, none⟩)) he52 rfl (by kernel_rfl) (fun _ _ _ h => h) (fun w' _ => rn_mv rfl (he52.op rfl) w') (hH53.drop1 2 rfl) ?_
        intro a54 he54
        clear he52 a52
        refine hW (fuel := 4) (i := 1) (.agg #[.int .i64 (((pushR R (l, s)).1).mo : Int), .int .i64 (((pushR R (l, s)).1).pl : Int), .int .i64 (((pushR R (l, s)).1).fi : Int), .slice A2 ((pushR R (l, s)).1).L.length c2, .slice B2 (pgI ((pushR R (l, s)).1).P).length d2]) he54 rfl (by kernel_rfl) (fun _ _ _ h => h) (fun w' hw' => rn_ldp _ rfl (he54.op rfl) undQ rfl infoQ5 (hw'.at (i := 0) rfl) rfl) (hH53.drop1 2 rfl) ?_
        intro a55 he55
        clear he54 a54
        refine hW (fuel := 3) (i := 2) (.bool true) he55 rfl (by kernel_rfl) (fun _ _ _ h => h) (fun w' _ => rn_mv rfl (he55.op rfl) w') (hH53.drop1 2 rfl) ?_
        intro a56 he56
        clear he55 a55
        refine hW (fuel := 2) (i := 3) (.pointer (some ⟨p, 0, none⟩)) he56 rfl (by kernel_rfl) (fun _ _ _ h => h) (fun w' _ => rn_asg rfl (he56.op rfl) w') (hH53.drop1 2 rfl) ?_
        intro a57 he57
        clear he56 a56
        refine hSetV (fuel := 1) (n := 4) 2 #[.int .i64 (((pushR R (l, s)).1).mo : Int), .int .i64 (((pushR R (l, s)).1).pl : Int), .int .i64 (((pushR R (l, s)).1).fi : Int), .slice A2 ((pushR R (l, s)).1).L.length c2, .slice B2 (pgI ((pushR R (l, s)).1).P).length d2] (cs := #[.int .i64 (((pushR R (l, s)).1).mo : Int), .int .i64 (((pushR R (l, s)).1).pl : Int), .int .i64 (((pushR R (l, s)).1).fi : Int), .slice A2 ((pushR R (l, s)).1).L.length c2, .slice B2 (pgI ((pushR R (l, s)).1).P).length d2]) he57 hH53 (by kernel_rfl) rfl rfl (wanted_plain rfl _) rfl rfl rfl rfl rfl (by kernel_rfl) (by kernel_rfl) (by kernel_rfl) rfl ?_
        intro w58 a59 hH58 hf he59
        replace hD := hD.setb (i := 2) rfl rfl hf
        replace hH58 : Hp (bare w) [⟨p30, 33, #[.int .i64 (((pushR R (l, s)).1).mo : Int), .int .i64 (((pushR R (l, s)).1).pl : Int), .int .i64 (((pushR R (l, s)).1).fi : Int), .slice A2 ((pushR R (l, s)).1).L.length c2, .slice B2 (pgI ((pushR R (l, s)).1).P).length d2]⟩, ⟨p13, 36, #[.slice Ao l.length co, .bool s]⟩, ⟨p6, 33, #[.int .i64 (((pushR R (l, s)).1).mo : Int), .int .i64 (((pushR R (l, s)).1).pl : Int), .int .i64 (((pushR R (l, s)).1).fi : Int), .slice A2 ((pushR R (l, s)).1).L.length c2, .slice B2 (pgI ((pushR R (l, s)).1).P).length d2]⟩, ⟨p3, 38, #[.int .i64 wh, .int .i64 i, .int .i64 tn, .slice Bx l.length cb, .bool s]⟩, ⟨p1, 33, #[.int .i64 R.mo, .int .i64 R.pl, .int .i64 R.fi, .slice A R.L.length c, .slice B (pgI R.P).length d]⟩] w58 := hH58
        refine ⟨(hH58.drop1 2 rfl), ?_⟩
        clear hf
        clear he57 a57 hH53
        refine hW (fuel := 0) (i := 5) (.bool true) he59 rfl (by kernel_rfl) (fun _ _ _ h => h) (fun w' _ => rn_asg rfl (he59.op rfl) w') (hH58.drop1 2 rfl) ?_
        intro a60 he60
        clear he59 a59
        refine wpAnyH_done (by kernel_rfl) ?_ _
        refine then_ok ?_
        replace hD := hD.pick 2 rfl
        replace hD := hD.pick 2 rfl
        replace hD := hD.pick 2 rfl
        refine wp_ret ?_
        try simp only [Exit.then, Exit.inBlock, Exit.noGoto]
        exact ret_tct rfl he60 rfl rfl rfl (hH58.at (i := 2) rfl) undQ rfl infoQ5 ⟨p, (pushR R (l, s)).1, A2, c2, B2, d2, rfl, push_le hok, (Dt.first (A := [ringD p (pushR R (l, s)).1, rdD (.slice A2 ((pushR R (l, s)).1).L.length c2) ((pushR R (l, s)).1).L, rowG (.slice B2 (pgI ((pushR R (l, s)).1).P).length d2) (pgI ((pushR R (l, s)).1).P)]) hD).turned⟩
      have hpv : (pushR R (l, s)).2 = (0, 2) := by rw [push_f (by simpa using ho)]
      refine wp_seq (wp_region_lit ?_)
      refine lW (.agg #[.int .i64 R.mo, .int .i64 R.pl, .int .i64 R.fi, .slice A R.L.length c, .slice B (pgI R.P).length d]) he21 rfl (rn_ldp _ rfl (he21.op rfl) undQ rfl infoQ5 (hH15.at (i := 3) rfl) rfl) ?_
      intro a61 he61
      clear he21 a21
      refine lW (.pointer (some ⟨p3, 3, none⟩)) he61 rfl (rn_faA3 rfl (he61.op rfl) rfl w15) ?_
      intro a62 he62
      clear he61 a61
      refine lW (.agg #[.slice Bx l.length cb, .bool s]) he62 rfl (rn_ldp _ rfl (he62.op rfl) undL rfl infoL2 (hH15.at (i := 2) rfl) rfl) ?_
      intro a63 he63
      clear he62 a62
      replace hD := hD.pick 3 rfl
      replace hD := hD.pick 3 rfl
      obtain ⟨F_, hsep, hF, hlo, hstep⟩ := Dt.stepL (A := [rdD (.slice A R.L.length c) R.L, rowG (.slice B (pgI R.P).length d) (pgI R.P)]) (D := [cellsD (.slice Ao l.length co) l, ringD p R]) hD
      refine lCx he63 rfl rfl Tryd.func35 (by kernel_rfl) rfl rfl (wanted_plain rfl _) rfl ((by have hc_ := qPush F_ R A B c d _ l s w15 hsep hok hsm hF hD.tab (fun k => ¬ F k ∧ k < w.heap.size) (SlF.fr hx.lt hD.fr (fun k hk => hk.1)) (fun k hk h9 => (hlo k h9).elim hk.1 (fun h8 => by have := hk.2; omega)); rw [hpv] at hc_; exact hc_)) ?_
      rintro _ w64 ⟨A2, c2, B2, d2, rfl, ht⟩
      obtain ⟨hD2, hHs⟩ := hstep _ _ ht
      have hH64 := hHs _ rfl hH15
      clear hHs hstep hsep hF hlo
      replace hD := hD2
      clear hD2 ht
      refine ⟨_, rfl, ?_⟩
      intro a65 he65
      clear he63 a63 hH15
      refine lW (.tuple #[.agg #[.int .i64 (((pushR R (l, s)).1).mo : Int), .int .i64 (((pushR R (l, s)).1).pl : Int), .int .i64 (((pushR R (l, s)).1).fi : Int), .slice A2 ((pushR R (l, s)).1).L.length c2, .slice B2 (pgI ((pushR R (l, s)).1).P).length d2], .int .i64 2]) he65 rfl (rn_mv rfl (he65.op rfl) w64) ?_
      intro a66 he66
      clear he65 a65
      refine lW (.agg #[.int .i64 (((pushR R (l, s)).1).mo : Int), .int .i64 (((pushR R (l, s)).1).pl : Int), .int .i64 (((pushR R (l, s)).1).fi : Int), .slice A2 ((pushR R (l, s)).1).L.length c2, .slice B2 (pgI ((pushR R (l, s)).1).P).length d2]) he66 rfl (rn_ext rfl (he66.op rfl) rfl w64) ?_
      intro a67 he67
      clear he66 a66
      refine lW (.int .i64 2) he67 rfl (rn_ext rfl (he67.op rfl) rfl w64) ?_
      intro a68 he68
      clear he67 a67
      refine lNewP (fun p => .pointer (some ⟨p, 0, none⟩)) he68 hH64 rfl rfl (wanted_plain rfl _) (rn_allocQ rfl w64) ?_
      intro p69 w69 a70 hp hn hH69 he70
      replace hD := hD.cons hn hp (hH69.at (i := 0) rfl).lt
      clear he68 a68 hH64 hn hp
      refine lSetF 0 #[.int .i64 (((pushR R (l, s)).1).mo : Int), .int .i64 (((pushR R (l, s)).1).pl : Int), .int .i64 (((pushR R (l, s)).1).fi : Int), .slice A2 ((pushR R (l, s)).1).L.length c2, .slice B2 (pgI ((pushR R (l, s)).1).P).length d2] (cs := #[.int .i64 (((pushR R (l, s)).1).mo : Int), .int .i64 (((pushR R (l, s)).1).pl : Int), .int .i64 (((pushR R (l, s)).1).fi : Int), .slice A2 ((pushR R (l, s)).1).L.length c2, .slice B2 (pgI ((pushR R (l, s)).1).P).length d2]) he70 hH69 rfl (wanted_plain rfl _) rfl rfl rfl rfl rfl (by kernel_rfl) (by kernel_rfl) (by kernel_rfl) rfl ?_
      intro w71 a72 hH71 hf he72
      replace hD := hD.setb (i := 0) rfl rfl hf
      replace hH71 : Hp (bare w) [⟨p69, 33, #[.int .i64 (((pushR R (l, s)).1).mo : Int), .int .i64 (((pushR R (l, s)).1).pl : Int), .int .i64 (((pushR R (l, s)).1).fi : Int), .slice A2 ((pushR R (l, s)).1).L.length c2, .slice B2 (pgI ((pushR R (l, s)).1).P).length d2]⟩, ⟨p13, 36, #[.slice Ao l.length co, .bool s]⟩, ⟨p6, 33, #[.int .i64 0, .int .i64 0, .int .i64 0, .slice none 0 0, .slice none 0 0]⟩, ⟨p3, 38, #[.int .i64 wh, .int .i64 i, .int .i64 tn, .slice Bx l.length cb, .bool s]⟩, ⟨p1, 33, #[.int .i64 R.mo, .int .i64 R.pl, .int .i64 R.fi, .slice A R.L.length c, .slice B (pgI R.P).length d]⟩] w71 := hH71
      clear hf
      clear he70 a70 hH69
      refine lW (.int .i64 2) he72 rfl (rn_asg rfl (he72.op rfl) w71) ?_
      intro a73 he73
      clear he72 a72
      refine wpList_nil (then_ok ?_)
      refine wp_seq (wp_region_lit ?_)
      refine lW (.int .i64 0) he73 rfl (rn_asg rfl (he73.op rfl) w71) ?_
      intro a74 he74
      clear he73 a73
      refine wpList_nil (then_ok ?_)
      refine wp_seq ?_
      refine wp_seq (wp_region_lit ?_)
      refine lW (.int .i64 2) he74 rfl (rn_mv rfl (he74.op rfl) w71) ?_
      intro a75 he75
      clear he74 a74
      refine lW (.bool false) he75 rfl (rn_eqI rfl (he75.op rfl) (he75.op rfl) (by simp) w71) ?_
      intro a76 he76
      clear he75 a75
      refine wpList_nil (then_ok ?_)
      refine wp_cond_false (he76.op rfl) ?_
      refine wp_skip ?_
      refine then_ok ?_
      refine wp_seq (wp_region_lit ?_)
      refine lW (.pointer (some ⟨p, 0, none⟩)) he76 rfl (rn_mv rfl (he76.op rfl) w71) ?_
      intro a77 he77
      clear he76 a76
      refine lW (.agg #[.slice Ao l.length co, .bool s]) he77 rfl (rn_ldp _ rfl (he77.op rfl) undL rfl infoL2 (hH71.at (i := 1) rfl) rfl) ?_
      intro a78 he78
      clear he77 a77
      refine lW (.int .i64 0) he78 rfl (rn_mv rfl (he78.op rfl) w71) ?_
      intro a79 he79
      clear he78 a78
      refine lW (.int .i64 2) he79 rfl (rn_mv rfl (he79.op rfl) w71) ?_
      intro a80 he80
      clear he79 a79
      replace hD := hD.pick 2 rfl
      replace hD := hD.pick 3 rfl
      obtain ⟨F_, G_, hsep, hrd_, hdj, hF, hstep⟩ := Dt.stepR (A := [ringD p R]) (d := cellsD (.slice Ao l.length co) l) (D := [rdD (.slice A2 ((pushR R (l, s)).1).L.length c2) ((pushR R (l, s)).1).L, rowG (.slice B2 (pgI ((pushR R (l, s)).1).P).length d2) (pgI ((pushR R (l, s)).1).P)]) hD
      refine lCx he80 rfl rfl Tryd.func17 (by kernel_rfl) rfl rfl (wanted_plain rfl _) rfl (pushes_b p R _ l s 0 2 F_ G_ w71 hsep.the hnx hpv (cells_f hrd_) hdj hF hD.tab) ?_
      rintro _ w81 ⟨rfl, ht⟩
      obtain ⟨hD2, hHs⟩ := hstep _ _ ht
      have hH81 := hHs _ rfl hH71
      clear hHs hstep hsep hF hrd_ hdj
      replace hD := hD2
      clear hD2 ht
      refine ⟨_, rfl, ?_⟩
      intro a82 he82
      clear he80 a80 hH71
      refine lW (.bool true) he82 rfl (rn_asg rfl (he82.op rfl) w81) ?_
      intro a83 he83
      clear he82 a82
      refine wpList_nil (then_ok ?_)
      refine wp_seq (wp_region_lit ?_)
      refine lW (.pointer (some ⟨p13, 0, none⟩)) he83 rfl (rn_faL0 rfl (he83.op rfl) rfl w81) ?_
      intro a84 he84
      clear he83 a83
      refine lW (.slice Ao l.length co) he84 rfl (rn_ldS rfl (he84.op rfl) (hH81.at (i := 1) rfl) rfl) ?_
      intro a85 he85
      clear he84 a84
      replace hD := hD.pick 1 rfl
      obtain ⟨F_, hsep, hF, hstep⟩ := Dt.step (A := [cellsD (.slice Ao l.length co) l]) (D := [ringD p (pushR R (l, s)).1, rdD (.slice A2 ((pushR R (l, s)).1).L.length c2) ((pushR R (l, s)).1).L, rowG (.slice B2 (pgI ((pushR R (l, s)).1).P).length d2) (pgI ((pushR R (l, s)).1).P)]) hD
      refine lCx he85 rfl rfl Tryd.func37 (by kernel_rfl) rfl rfl (wanted_plain rfl _) rfl (stain_d hsep.the hl) ?_
      rintro _ w86 ⟨rfl, ht⟩
      obtain ⟨hD2, hHs⟩ := hstep _ _ ht
      have hH86 := hHs _ rfl hH81
      clear hHs hstep hsep hF
      replace hD := hD2
      clear hD2 ht
      refine ⟨_, rfl, ?_⟩
      intro a87 he87
      clear he85 a85 hH81
      refine wpList_nil (then_ok ?_)
      refine wp_seq ?_
      refine wp_region_held_drew (S := Hp (bare w) [⟨p69, 33, #[.int .i64 (((pushR R (l, s)).1).mo : Int), .int .i64 (((pushR R (l, s)).1).pl : Int), .int .i64 (((pushR R (l, s)).1).fi : Int), .slice A2 ((pushR R (l, s)).1).L.length c2, .slice B2 (pgI ((pushR R (l, s)).1).P).length d2]⟩, ⟨p13, 36, #[.slice Ao l.length co, .bool s]⟩, ⟨p3, 38, #[.int .i64 wh, .int .i64 i, .int .i64 tn, .slice Bx l.length cb, .bool s]⟩, ⟨p1, 33, #[.int .i64 R.mo, .int .i64 R.pl, .int .i64 R.fi, .slice A R.L.length c, .slice B (pgI R.P).length d]⟩]) (by kernel_rfl) ((hH86.drew).drop1 2 rfl) (fun _ => ?_)
      have hn : New w86 (World.drew w86) := (Fr.refl _ _).drew
      replace hD := (hD).new hn
      clear hn
      have hH88 := hH86.drew
      clear hH86
      generalize World.drew w86 = w88 at *
      refine hW (fuel := 5) (i := 0) (.pointer (some ⟨p, 0, none⟩)) he87 rfl (by kernel_rfl) (fun _ _ _ h => h) (fun w' _ => rn_mv rfl (he87.op rfl) w') (hH88.drop1 2 rfl) ?_
      intro a89 he89
      clear he87 a87
      refine hW (fuel := 4) (i := 1) (.agg #[.int .i64 (((pushR R (l, s)).1).mo : Int), .int .i64 (((pushR R (l, s)).1).pl : Int), .int .i64 (((pushR R (l, s)).1).fi : Int), .slice A2 ((pushR R (l, s)).1).L.length c2, .slice B2 (pgI ((pushR R (l, s)).1).P).length d2]) he89 rfl (by kernel_rfl) (fun _ _ _ h => h) (fun w' hw' => rn_ldp _ rfl (he89.op rfl) undQ rfl infoQ5 (hw'.at (i := 0) rfl) rfl) (hH88.drop1 2 rfl) ?_
      intro a90 he90
      clear he89 a89
      refine hW (fuel := 3) (i := 2) (.bool true) he90 rfl (by kernel_rfl) (fun _ _ _ h => h) (fun w' _ => rn_mv rfl (he90.op rfl) w') (hH88.drop1 2 rfl) ?_
      intro a91 he91
      clear he90 a90
      refine hW (fuel := 2) (i := 3) (.pointer (some ⟨p, 0, none⟩)) he91 rfl (by kernel_rfl) (fun _ _ _ h => h) (fun w' _ => rn_asg rfl (he91.op rfl) w') (hH88.drop1 2 rfl) ?_
      intro a92 he92
      clear he91 a91
      refine hSetV (fuel := 1) (n := 4) 2 #[.int .i64 (((pushR R (l, s)).1).mo : Int), .int .i64 (((pushR R (l, s)).1).pl : Int), .int .i64 (((pushR R (l, s)).1).fi : Int), .slice A2 ((pushR R (l, s)).1).L.length c2, .slice B2 (pgI ((pushR R (l, s)).1).P).length d2] (cs := #[.int .i64 (((pushR R (l, s)).1).mo : Int), .int .i64 (((pushR R (l, s)).1).pl : Int), .int .i64 (((pushR R (l, s)).1).fi : Int), .slice A2 ((pushR R (l, s)).1).L.length c2, .slice B2 (pgI ((pushR R (l, s)).1).P).length d2]) he92 hH88 (by kernel_rfl) rfl rfl (wanted_plain rfl _) rfl rfl rfl rfl rfl (by kernel_rfl) (by kernel_rfl) (by kernel_rfl) rfl ?_
      intro w93 a94 hH93 hf he94
      replace hD := hD.setb (i := 2) rfl rfl hf
      replace hH93 : Hp (bare w) [⟨p69, 33, #[.int .i64 (((pushR R (l, s)).1).mo : Int), .int .i64 (((pushR R (l, s)).1).pl : Int), .int .i64 (((pushR R (l, s)).1).fi : Int), .slice A2 ((pushR R (l, s)).1).L.length c2, .slice B2 (pgI ((pushR R (l, s)).1).P).length d2]⟩, ⟨p13, 36, #[.slice Ao l.length co, .bool s]⟩, ⟨p6, 33, #[.int .i64 (((pushR R (l, s)).1).mo : Int), .int .i64 (((pushR R (l, s)).1).pl : Int), .int .i64 (((pushR R (l, s)).1).fi : Int), .slice A2 ((pushR R (l, s)).1).L.length c2, .slice B2 (pgI ((pushR R (l, s)).1).P).length d2]⟩, ⟨p3, 38, #[.int .i64 wh, .int .i64 i, .int .i64 tn, .slice Bx l.length cb, .bool s]⟩, ⟨p1, 33, #[.int .i64 R.mo, .int .i64 R.pl, .int .i64 R.fi, .slice A R.L.length c, .slice B (pgI R.P).length d]⟩] w93 := hH93
      refine ⟨(hH93.drop1 2 rfl), ?_⟩
      clear hf
      clear he92 a92 hH88
      refine hW (fuel := 0) (i := 5) (.bool true) he94 rfl (by kernel_rfl) (fun _ _ _ h => h) (fun w' _ => rn_asg rfl (he94.op rfl) w') (hH93.drop1 2 rfl) ?_
      intro a95 he95
      clear he94 a94
      refine wpAnyH_done (by kernel_rfl) ?_ _
      refine then_ok ?_
      replace hD := hD.pick 2 rfl
      replace hD := hD.pick 2 rfl
      replace hD := hD.pick 2 rfl
      refine wp_ret ?_
      try simp only [Exit.then, Exit.inBlock, Exit.noGoto]
      exact ret_tct rfl he95 rfl rfl rfl (hH93.at (i := 2) rfl) undQ rfl infoQ5 ⟨p, (pushR R (l, s)).1, A2, c2, B2, d2, rfl, push_le hok, (Dt.first (A := [ringD p (pushR R (l, s)).1, rdD (.slice A2 ((pushR R (l, s)).1).L.length c2) ((pushR R (l, s)).1).L, rowG (.slice B2 (pgI ((pushR R (l, s)).1).P).length d2) (pgI ((pushR R (l, s)).1).P)]) hD).turned⟩
    refine wp_seq (wp_region_lit ?_)
    refine lW (.bool false) he19 rfl (rn_eqI rfl (he19.op rfl) (he19.op rfl) (by simpa using hw0) w15) ?_
    intro a96 he96
    clear he19 a19
    refine lW (.bool false) he96 rfl (rn_asg rfl (he96.op rfl) w15) ?_
    intro a97 he97
    clear he96 a96
    refine wpList_nil (then_ok ?_)
    refine wp_cond_false (he97.op rfl) ?_
    by_cases hw1 : wh = 1
    · skip
      refine wp_seq (wp_region_lit ?_)
      refine lW (.bool true) he97 rfl (rn_eqI rfl (he97.op rfl) (he97.op rfl) (by simp [hw1]) w15) ?_
      intro a98 he98
      clear he97 a97
      refine lW (.bool true) he98 rfl (rn_asg rfl (he98.op rfl) w15) ?_
      intro a99 he99
      clear he98 a98
      refine wpList_nil (then_ok ?_)
      refine wp_cond_true (he99.op rfl) ?_
      refine wp_seq (wp_region_lit ?_)
      refine lW (.agg #[.int .i64 R.mo, .int .i64 R.pl, .int .i64 R.fi, .slice A R.L.length c, .slice B (pgI R.P).length d]) he99 rfl (rn_ldp _ rfl (he99.op rfl) undQ rfl infoQ5 (hH15.at (i := 3) rfl) rfl) ?_
      intro a100 he100
      clear he99 a99
      replace hD := hD.pick 3 rfl
      replace hD := hD.pick 3 rfl
      obtain ⟨F_, hsep, hF, hstep⟩ := Dt.step (A := [rdD (.slice A R.L.length c) R.L, rowG (.slice B (pgI R.P).length d) (pgI R.P)]) (D := [cellsD (.slice Ao l.length co) l, ringD p R]) hD
      refine lCx he100 rfl rfl Tryd.func38 (by kernel_rfl) rfl rfl (wanted_plain rfl _) rfl (qPop F_ R A B c d w15 hsep hok hsm hF hD.tab) ?_
      rintro _ w101 ⟨A2, c2, B2, d2, Ax, cx, rfl, ht⟩
      obtain ⟨hD2, hHs⟩ := hstep _ _ ht
      have hH101 := hHs _ rfl hH15
      clear hHs hstep hsep hF
      replace hD := hD2
      clear hD2 ht
      refine ⟨_, rfl, ?_⟩
      intro a102 he102
      clear he100 a100 hH15
      refine lW (.tuple #[.agg #[.int .i64 (((popR R).1).mo : Int), .int .i64 (((popR R).1).pl : Int), .int .i64 (((popR R).1).fi : Int), .slice A2 ((popR R).1).L.length c2, .slice B2 (pgI ((popR R).1).P).length d2], .agg #[.slice Ax (popR R).2.1.1.length cx, .bool (popR R).2.1.2], .int .i64 (popR R).2.2]) he102 rfl (rn_mv rfl (he102.op rfl) w101) ?_
      intro a103 he103
      clear he102 a102
      refine lW (.agg #[.int .i64 (((popR R).1).mo : Int), .int .i64 (((popR R).1).pl : Int), .int .i64 (((popR R).1).fi : Int), .slice A2 ((popR R).1).L.length c2, .slice B2 (pgI ((popR R).1).P).length d2]) he103 rfl (rn_ext rfl (he103.op rfl) rfl w101) ?_
      intro a104 he104
      clear he103 a103
      refine lW (.agg #[.slice Ax (popR R).2.1.1.length cx, .bool (popR R).2.1.2]) he104 rfl (rn_ext rfl (he104.op rfl) rfl w101) ?_
      intro a105 he105
      clear he104 a104
      refine lW (.int .i64 (popR R).2.2) he105 rfl (rn_ext rfl (he105.op rfl) rfl w101) ?_
      intro a106 he106
      clear he105 a105
      refine lNewP (fun p => .pointer (some ⟨p, 0, none⟩)) he106 hH101 rfl rfl (wanted_plain rfl _) (rn_allocQ rfl w101) ?_
      intro p107 w107 a108 hp hn hH107 he108
      replace hD := hD.cons hn hp (hH107.at (i := 0) rfl).lt
      clear he106 a106 hH101 hn hp
      refine lNewP (fun p => .pointer (some ⟨p, 0, none⟩)) he108 hH107 rfl rfl (wanted_plain rfl _) (rn_allocL rfl w107) ?_
      intro p109 w109 a110 hp hn hH109 he110
      replace hD := hD.cons hn hp (hH109.at (i := 0) rfl).lt
      clear he108 a108 hH107 hn hp
      refine lSetF 1 #[.int .i64 (((popR R).1).mo : Int), .int .i64 (((popR R).1).pl : Int), .int .i64 (((popR R).1).fi : Int), .slice A2 ((popR R).1).L.length c2, .slice B2 (pgI ((popR R).1).P).length d2] (cs := #[.int .i64 (((popR R).1).mo : Int), .int .i64 (((popR R).1).pl : Int), .int .i64 (((popR R).1).fi : Int), .slice A2 ((popR R).1).L.length c2, .slice B2 (pgI ((popR R).1).P).length d2]) he110 hH109 rfl (wanted_plain rfl _) rfl rfl rfl rfl rfl (by kernel_rfl) (by kernel_rfl) (by kernel_rfl) rfl ?_
      intro w111 a112 hH111 hf he112
      replace hD := hD.setb (i := 1) rfl rfl hf
      replace hH111 : Hp (bare w) [⟨p109, 36, #[.slice none 0 0, .bool false]⟩, ⟨p107, 33, #[.int .i64 (((popR R).1).mo : Int), .int .i64 (((popR R).1).pl : Int), .int .i64 (((popR R).1).fi : Int), .slice A2 ((popR R).1).L.length c2, .slice B2 (pgI ((popR R).1).P).length d2]⟩, ⟨p13, 36, #[.slice Ao l.length co, .bool s]⟩, ⟨p6, 33, #[.int .i64 0, .int .i64 0, .int .i64 0, .slice none 0 0, .slice none 0 0]⟩, ⟨p3, 38, #[.int .i64 wh, .int .i64 i, .int .i64 tn, .slice Bx l.length cb, .bool s]⟩, ⟨p1, 33, #[.int .i64 R.mo, .int .i64 R.pl, .int .i64 R.fi, .slice A R.L.length c, .slice B (pgI R.P).length d]⟩] w111 := hH111
      clear hf
      clear he110 a110 hH109
      refine lSetF 0 #[.slice Ax (popR R).2.1.1.length cx, .bool (popR R).2.1.2] (cs := #[.slice Ax (popR R).2.1.1.length cx, .bool (popR R).2.1.2]) he112 hH111 rfl (wanted_plain rfl _) rfl rfl rfl rfl rfl (by kernel_rfl) (by kernel_rfl) (by kernel_rfl) rfl ?_
      intro w113 a114 hH113 hf he114
      replace hD := hD.setb (i := 0) rfl rfl hf
      replace hH113 : Hp (bare w) [⟨p109, 36, #[.slice Ax (popR R).2.1.1.length cx, .bool (popR R).2.1.2]⟩, ⟨p107, 33, #[.int .i64 (((popR R).1).mo : Int), .int .i64 (((popR R).1).pl : Int), .int .i64 (((popR R).1).fi : Int), .slice A2 ((popR R).1).L.length c2, .slice B2 (pgI ((popR R).1).P).length d2]⟩, ⟨p13, 36, #[.slice Ao l.length co, .bool s]⟩, ⟨p6, 33, #[.int .i64 0, .int .i64 0, .int .i64 0, .slice none 0 0, .slice none 0 0]⟩, ⟨p3, 38, #[.int .i64 wh, .int .i64 i, .int .i64 tn, .slice Bx l.length cb, .bool s]⟩, ⟨p1, 33, #[.int .i64 R.mo, .int .i64 R.pl, .int .i64 R.fi, .slice A R.L.length c, .slice B (pgI R.P).length d]⟩] w113 := hH113
      clear hf
      clear he112 a112 hH111
      refine lW (.int .i64 (popR R).2.2) he114 rfl (rn_asg rfl (he114.op rfl) w113) ?_
      intro a115 he115
      clear he114 a114
      refine wpList_nil (then_ok ?_)
      refine wp_seq ?_
      refine wp_region_held_drew (S := Hp (bare w) [⟨p109, 36, #[.slice Ax (popR R).2.1.1.length cx, .bool (popR R).2.1.2]⟩, ⟨p107, 33, #[.int .i64 (((popR R).1).mo : Int), .int .i64 (((popR R).1).pl : Int), .int .i64 (((popR R).1).fi : Int), .slice A2 ((popR R).1).L.length c2, .slice B2 (pgI ((popR R).1).P).length d2]⟩, ⟨p13, 36, #[.slice Ao l.length co, .bool s]⟩, ⟨p3, 38, #[.int .i64 wh, .int .i64 i, .int .i64 tn, .slice Bx l.length cb, .bool s]⟩, ⟨p1, 33, #[.int .i64 R.mo, .int .i64 R.pl, .int .i64 R.fi, .slice A R.L.length c, .slice B (pgI R.P).length d]⟩]) (by kernel_rfl) ((hH113.drew).drop1 3 rfl) (fun _ => ?_)
      have hn : New w113 (World.drew w113) := (Fr.refl _ _).drew
      replace hD := (hD).new hn
      clear hn
      have hH116 := hH113.drew
      clear hH113
      generalize World.drew w113 = w116 at *
      refine hW (fuel := 8) (i := 0) (.pointer (some ⟨p, 0, none⟩)) he115 rfl (by kernel_rfl) (fun _ _ _ h => h) (fun w' _ => rn_mv rfl (he115.op rfl) w') (hH116.drop1 3 rfl) ?_
      intro a117 he117
      clear he115 a115
      refine hW (fuel := 7) (i := 1) (.agg #[.int .i64 (((popR R).1).mo : Int), .int .i64 (((popR R).1).pl : Int), .int .i64 (((popR R).1).fi : Int), .slice A2 ((popR R).1).L.length c2, .slice B2 (pgI ((popR R).1).P).length d2]) he117 rfl (by kernel_rfl) (fun _ _ _ h => h) (fun w' hw' => rn_ldp _ rfl (he117.op rfl) undQ rfl infoQ5 (hw'.at (i := 1) rfl) rfl) (hH116.drop1 3 rfl) ?_
      intro a118 he118
      clear he117 a117
      refine hW (fuel := 6) (i := 2) (.pointer (some ⟨p, 0, none⟩)) he118 rfl (by kernel_rfl) (fun _ _ _ h => h) (fun w' _ => rn_mv rfl (he118.op rfl) w') (hH116.drop1 3 rfl) ?_
      intro a119 he119
      clear he118 a118
      refine hW (fuel := 5) (i := 3) (.agg #[.slice Ax (popR R).2.1.1.length cx, .bool (popR R).2.1.2]) he119 rfl (by kernel_rfl) (fun _ _ _ h => h) (fun w' hw' => rn_ldp _ rfl (he119.op rfl) undL rfl infoL2 (hw'.at (i := 0) rfl) rfl) (hH116.drop1 3 rfl) ?_
      intro a120 he120
      clear he119 a119
      refine hW (fuel := 4) (i := 4) (.int .i64 (popR R).2.2) he120 rfl (by kernel_rfl) (fun _ _ _ h => h) (fun w' _ => rn_mv rfl (he120.op rfl) w') (hH116.drop1 3 rfl) ?_
      intro a121 he121
      clear he120 a120
      replace hD := hD.pick 3 rfl
      obtain ⟨F_, G_, hsep, hrd_, hdj, hF, hstep⟩ := Dt.stepR (A := [ringD p R]) (d := andD (rdD (.slice A2 ((popR R).1).L.length c2) ((popR R).1).L) (slD (.slice Ax (popR R).2.1.1.length cx) (popR R).2.1.1)) (D := [rowG (.slice B2 (pgI ((popR R).1).P).length d2) (pgI ((popR R).1).P), cellsD (.slice Ao l.length co) l]) hD
      refine hC (fuel := 3) (i := 5) he121 (by kernel_rfl) rfl rfl rfl Tryd.func25 (by kernel_rfl) rfl rfl (wanted_plain rfl _) rfl (pops_b p R _ (popR R).2.1.1 (popR R).2.1.2 (popR R).2.2 F_ G_ w116 hsep.the rfl hrd_.2 hdj hF hD.tab) ?_
      rintro _ w122 ⟨rfl, ht⟩
      obtain ⟨hD2, hHs⟩ := hstep _ _ ht
      have hH122 := hHs _ rfl hH116
      clear hHs hstep hsep hF hrd_ hdj
      replace hD := hD2
      clear hD2 ht
      refine ⟨_, rfl, (hH122.drop1 3 rfl), ?_⟩
      intro a123 he123
      clear he121 a121 hH116
      refine hW (fuel := 2) (i := 6) (.pointer (some ⟨p, 0, none⟩)) he123 rfl (by kernel_rfl) (fun _ _ _ h => h) (fun w' _ => rn_asg rfl (he123.op rfl) w') (hH122.drop1 3 rfl) ?_
      intro a124 he124
      clear he123 a123
      refine hSetV (fuel := 1) (n := 7) 3 #[.int .i64 (((popR R).1).mo : Int), .int .i64 (((popR R).1).pl : Int), .int .i64 (((popR R).1).fi : Int), .slice A2 ((popR R).1).L.length c2, .slice B2 (pgI ((popR R).1).P).length d2] (cs := #[.int .i64 (((popR R).1).mo : Int), .int .i64 (((popR R).1).pl : Int), .int .i64 (((popR R).1).fi : Int), .slice A2 ((popR R).1).L.length c2, .slice B2 (pgI ((popR R).1).P).length d2]) he124 hH122 (by kernel_rfl) rfl rfl (wanted_plain rfl _) rfl rfl rfl rfl rfl (by kernel_rfl) (by kernel_rfl) (by kernel_rfl) rfl ?_
      intro w125 a126 hH125 hf he126
      replace hD := hD.setb (i := 3) rfl rfl hf
      replace hH125 : Hp (bare w) [⟨p109, 36, #[.slice Ax (popR R).2.1.1.length cx, .bool (popR R).2.1.2]⟩, ⟨p107, 33, #[.int .i64 (((popR R).1).mo : Int), .int .i64 (((popR R).1).pl : Int), .int .i64 (((popR R).1).fi : Int), .slice A2 ((popR R).1).L.length c2, .slice B2 (pgI ((popR R).1).P).length d2]⟩, ⟨p13, 36, #[.slice Ao l.length co, .bool s]⟩, ⟨p6, 33, #[.int .i64 (((popR R).1).mo : Int), .int .i64 (((popR R).1).pl : Int), .int .i64 (((popR R).1).fi : Int), .slice A2 ((popR R).1).L.length c2, .slice B2 (pgI ((popR R).1).P).length d2]⟩, ⟨p3, 38, #[.int .i64 wh, .int .i64 i, .int .i64 tn, .slice Bx l.length cb, .bool s]⟩, ⟨p1, 33, #[.int .i64 R.mo, .int .i64 R.pl, .int .i64 R.fi, .slice A R.L.length c, .slice B (pgI R.P).length d]⟩] w125 := hH125
      refine ⟨(hH125.drop1 3 rfl), ?_⟩
      clear hf
      clear he124 a124 hH122
      refine hW (fuel := 0) (i := 8) (.bool true) he126 rfl (by kernel_rfl) (fun _ _ _ h => h) (fun w' _ => rn_asg rfl (he126.op rfl) w') (hH125.drop1 3 rfl) ?_
      intro a127 he127
      clear he126 a126
      refine wpAnyH_done (by kernel_rfl) ?_ _
      refine then_ok ?_
      replace hD := hD.pick 1 rfl
      replace hD := Dt.front (A := [andD (rdD (.slice A2 ((popR R).1).L.length c2) ((popR R).1).L) (slD (.slice Ax (popR R).2.1.1.length cx) (popR R).2.1.1)]) (B := [rdD (.slice A2 ((popR R).1).L.length c2) ((popR R).1).L]) (D := [ringD p (popR R).1, rowG (.slice B2 (pgI ((popR R).1).P).length d2) (pgI ((popR R).1).P), cellsD (.slice Ao l.length co) l]) hD (fun G h => SepL.one h.the.1)
      replace hD := hD.pick 2 rfl
      replace hD := hD.pick 1 rfl
      replace hD := hD.pick 2 rfl
      refine wp_ret ?_
      try simp only [Exit.then, Exit.inBlock, Exit.noGoto]
      exact ret_tct rfl he127 rfl rfl rfl (hH125.at (i := 3) rfl) undQ rfl infoQ5 ⟨p, (popR R).1, A2, c2, B2, d2, rfl, pop_le hok, (Dt.first (A := [ringD p (popR R).1, rdD (.slice A2 ((popR R).1).L.length c2) ((popR R).1).L, rowG (.slice B2 (pgI ((popR R).1).P).length d2) (pgI ((popR R).1).P)]) hD).turned⟩
    refine wp_seq (wp_region_lit ?_)
    refine lW (.bool false) he97 rfl (rn_eqI rfl (he97.op rfl) (he97.op rfl) (by simpa using hw1) w15) ?_
    intro a128 he128
    clear he97 a97
    refine lW (.bool false) he128 rfl (rn_asg rfl (he128.op rfl) w15) ?_
    intro a129 he129
    clear he128 a128
    refine wpList_nil (then_ok ?_)
    refine wp_cond_false (he129.op rfl) ?_
    by_cases hw2 : wh = 2
    · skip
      refine wp_seq (wp_region_lit ?_)
      refine lW (.bool true) he129 rfl (rn_eqI rfl (he129.op rfl) (he129.op rfl) (by simp [hw2]) w15) ?_
      intro a130 he130
      clear he129 a129
      refine lW (.bool true) he130 rfl (rn_asg rfl (he130.op rfl) w15) ?_
      intro a131 he131
      clear he130 a130
      refine wpList_nil (then_ok ?_)
      refine wp_cond_true (he131.op rfl) ?_
      refine wp_seq (wp_region_lit ?_)
      refine lW (.agg #[.int .i64 R.mo, .int .i64 R.pl, .int .i64 R.fi, .slice A R.L.length c, .slice B (pgI R.P).length d]) he131 rfl (rn_ldp _ rfl (he131.op rfl) undQ rfl infoQ5 (hH15.at (i := 3) rfl) rfl) ?_
      intro a132 he132
      clear he131 a131
      refine lW (.pointer (some ⟨p3, 1, none⟩)) he132 rfl (rn_faA1 rfl (he132.op rfl) rfl w15) ?_
      intro a133 he133
      clear he132 a132
      refine lW (.int .i64 i) he133 rfl (rn_ld1 rfl (he133.op rfl) Tryd.underlying3 (hH15.at (i := 2) rfl) rfl) ?_
      intro a134 he134
      clear he133 a133
      refine lW (.pointer (some ⟨p3, 3, none⟩)) he134 rfl (rn_faA3 rfl (he134.op rfl) rfl w15) ?_
      intro a135 he135
      clear he134 a134
      refine lW (.agg #[.slice Bx l.length cb, .bool s]) he135 rfl (rn_ldp _ rfl (he135.op rfl) undL rfl infoL2 (hH15.at (i := 2) rfl) rfl) ?_
      intro a136 he136
      clear he135 a135
      replace hD := hD.pick 3 rfl
      replace hD := hD.pick 3 rfl
      obtain ⟨F_, hsep, hF, hlo, hstep⟩ := Dt.stepL (A := [rdD (.slice A R.L.length c) R.L, rowG (.slice B (pgI R.P).length d) (pgI R.P)]) (D := [cellsD (.slice Ao l.length co) l, ringD p R]) hD
      refine lCx he136 rfl rfl Tryd.func39 (by kernel_rfl) rfl rfl (wanted_plain rfl _) rfl (qSet F_ R A B c d i _ l s w15 hsep hok hsm hF hD.tab (fun k => ¬ F k ∧ k < w.heap.size) (SlF.fr hx.lt hD.fr (fun k hk => hk.1)) (fun k hk h9 => (hlo k h9).elim hk.1 (fun h8 => by have := hk.2; omega))) ?_
      rintro _ w137 ⟨A2, c2, B2, d2, rfl, ht⟩
      obtain ⟨hD2, hHs⟩ := hstep _ _ ht
      have hH137 := hHs _ rfl hH15
      clear hHs hstep hsep hF hlo
      replace hD := hD2
      clear hD2 ht
      refine ⟨_, rfl, ?_⟩
      intro a138 he138
      clear he136 a136 hH15
      refine lW (.tuple #[.agg #[.int .i64 (((setR R i (l, s)).1).mo : Int), .int .i64 (((setR R i (l, s)).1).pl : Int), .int .i64 (((setR R i (l, s)).1).fi : Int), .slice A2 ((setR R i (l, s)).1).L.length c2, .slice B2 (pgI ((setR R i (l, s)).1).P).length d2], .int .i64 (setR R i (l, s)).2]) he138 rfl (rn_mv rfl (he138.op rfl) w137) ?_
      intro a139 he139
      clear he138 a138
      refine lW (.agg #[.int .i64 (((setR R i (l, s)).1).mo : Int), .int .i64 (((setR R i (l, s)).1).pl : Int), .int .i64 (((setR R i (l, s)).1).fi : Int), .slice A2 ((setR R i (l, s)).1).L.length c2, .slice B2 (pgI ((setR R i (l, s)).1).P).length d2]) he139 rfl (rn_ext rfl (he139.op rfl) rfl w137) ?_
      intro a140 he140
      clear he139 a139
      refine lW (.int .i64 (setR R i (l, s)).2) he140 rfl (rn_ext rfl (he140.op rfl) rfl w137) ?_
      intro a141 he141
      clear he140 a140
      refine lNewP (fun p => .pointer (some ⟨p, 0, none⟩)) he141 hH137 rfl rfl (wanted_plain rfl _) (rn_allocQ rfl w137) ?_
      intro p142 w142 a143 hp hn hH142 he143
      replace hD := hD.cons hn hp (hH142.at (i := 0) rfl).lt
      clear he141 a141 hH137 hn hp
      refine lSetF 0 #[.int .i64 (((setR R i (l, s)).1).mo : Int), .int .i64 (((setR R i (l, s)).1).pl : Int), .int .i64 (((setR R i (l, s)).1).fi : Int), .slice A2 ((setR R i (l, s)).1).L.length c2, .slice B2 (pgI ((setR R i (l, s)).1).P).length d2] (cs := #[.int .i64 (((setR R i (l, s)).1).mo : Int), .int .i64 (((setR R i (l, s)).1).pl : Int), .int .i64 (((setR R i (l, s)).1).fi : Int), .slice A2 ((setR R i (l, s)).1).L.length c2, .slice B2 (pgI ((setR R i (l, s)).1).P).length d2]) he143 hH142 rfl (wanted_plain rfl _) rfl rfl rfl rfl rfl (by kernel_rfl) (by kernel_rfl) (by kernel_rfl) rfl ?_
      intro w144 a145 hH144 hf he145
      replace hD := hD.setb (i := 0) rfl rfl hf
      replace hH144 : Hp (bare w) [⟨p142, 33, #[.int .i64 (((setR R i (l, s)).1).mo : Int), .int .i64 (((setR R i (l, s)).1).pl : Int), .int .i64 (((setR R i (l, s)).1).fi : Int), .slice A2 ((setR R i (l, s)).1).L.length c2, .slice B2 (pgI ((setR R i (l, s)).1).P).length d2]⟩, ⟨p13, 36, #[.slice Ao l.length co, .bool s]⟩, ⟨p6, 33, #[.int .i64 0, .int .i64 0, .int .i64 0, .slice none 0 0, .slice none 0 0]⟩, ⟨p3, 38, #[.int .i64 wh, .int .i64 i, .int .i64 tn, .slice Bx l.length cb, .bool s]⟩, ⟨p1, 33, #[.int .i64 R.mo, .int .i64 R.pl, .int .i64 R.fi, .slice A R.L.length c, .slice B (pgI R.P).length d]⟩] w144 := hH144
      clear hf
      clear he143 a143 hH142
      refine lW (.int .i64 (setR R i (l, s)).2) he145 rfl (rn_asg rfl (he145.op rfl) w144) ?_
      intro a146 he146
      clear he145 a145
      refine wpList_nil (then_ok ?_)
      refine wp_seq (wp_region_lit ?_)
      refine lW (.pointer (some ⟨p, 0, none⟩)) he146 rfl (rn_mv rfl (he146.op rfl) w144) ?_
      intro a147 he147
      clear he146 a146
      refine lW (.pointer (some ⟨p3, 1, none⟩)) he147 rfl (rn_faA1 rfl (he147.op rfl) rfl w144) ?_
      intro a148 he148
      clear he147 a147
      refine lW (.int .i64 i) he148 rfl (rn_ld1 rfl (he148.op rfl) Tryd.underlying3 (hH144.at (i := 3) rfl) rfl) ?_
      intro a149 he149
      clear he148 a148
      refine lW (.agg #[.slice Ao l.length co, .bool s]) he149 rfl (rn_ldp _ rfl (he149.op rfl) undL rfl infoL2 (hH144.at (i := 1) rfl) rfl) ?_
      intro a150 he150
      clear he149 a149
      have hown := (cells_sl (hD.get (i := 2) rfl).choose_spec)
      replace hD := hD.pick 3 rfl
      obtain ⟨F_, hsep, hF, hstep⟩ := Dt.step (A := [ringD p R]) (D := [rdD (.slice A2 ((setR R i (l, s)).1).L.length c2) ((setR R i (l, s)).1).L, rowG (.slice B2 (pgI ((setR R i (l, s)).1).P).length d2) (pgI ((setR R i (l, s)).1).P), cellsD (.slice Ao l.length co) l]) hD
      refine lCx he150 rfl rfl Tryd.func26 (by kernel_rfl) rfl rfl (wanted_plain rfl _) rfl (rSet p R i _ l s F_ w144 hsep.the hown hF hD.tab) ?_
      rintro _ w151 ⟨rfl, ht⟩
      obtain ⟨hD2, hHs⟩ := hstep _ _ ht
      have hH151 := hHs _ rfl hH144
      clear hHs hstep hsep hF
      replace hD := hD2
      clear hD2 ht
      refine ⟨_, rfl, ?_⟩
      intro a152 he152
      clear he150 a150 hH144
      clear hown
      refine lW (.int .i64 (setR R i (l, s)).2) he152 rfl (rn_asg rfl (he152.op rfl) w151) ?_
      intro a153 he153
      clear he152 a152
      refine wpList_nil (then_ok ?_)
      refine wp_seq (wp_region_lit ?_)
      refine lW (.pointer (some ⟨p13, 0, none⟩)) he153 rfl (rn_faL0 rfl (he153.op rfl) rfl w151) ?_
      intro a154 he154
      clear he153 a153
      refine lW (.slice Ao l.length co) he154 rfl (rn_ldS rfl (he154.op rfl) (hH151.at (i := 1) rfl) rfl) ?_
      intro a155 he155
      clear he154 a154
      replace hD := hD.pick 3 rfl
      obtain ⟨F_, hsep, hF, hstep⟩ := Dt.step (A := [cellsD (.slice Ao l.length co) l]) (D := [ringD p (setR R i (l, s)).1, rdD (.slice A2 ((setR R i (l, s)).1).L.length c2) ((setR R i (l, s)).1).L, rowG (.slice B2 (pgI ((setR R i (l, s)).1).P).length d2) (pgI ((setR R i (l, s)).1).P)]) hD
      refine lCx he155 rfl rfl Tryd.func37 (by kernel_rfl) rfl rfl (wanted_plain rfl _) rfl (stain_d hsep.the hl) ?_
      rintro _ w156 ⟨rfl, ht⟩
      obtain ⟨hD2, hHs⟩ := hstep _ _ ht
      have hH156 := hHs _ rfl hH151
      clear hHs hstep hsep hF
      replace hD := hD2
      clear hD2 ht
      refine ⟨_, rfl, ?_⟩
      intro a157 he157
      clear he155 a155 hH151
      refine wpList_nil (then_ok ?_)
      refine wp_seq ?_
      refine wp_region_held_drew (S := Hp (bare w) [⟨p142, 33, #[.int .i64 (((setR R i (l, s)).1).mo : Int), .int .i64 (((setR R i (l, s)).1).pl : Int), .int .i64 (((setR R i (l, s)).1).fi : Int), .slice A2 ((setR R i (l, s)).1).L.length c2, .slice B2 (pgI ((setR R i (l, s)).1).P).length d2]⟩, ⟨p13, 36, #[.slice Ao l.length co, .bool s]⟩, ⟨p3, 38, #[.int .i64 wh, .int .i64 i, .int .i64 tn, .slice Bx l.length cb, .bool s]⟩, ⟨p1, 33, #[.int .i64 R.mo, .int .i64 R.pl, .int .i64 R.fi, .slice A R.L.length c, .slice B (pgI R.P).length d]⟩]) (by kernel_rfl) ((hH156.drew).drop1 2 rfl) (fun _ => ?_)
      have hn : New w156 (World.drew w156) := (Fr.refl _ _).drew
      replace hD := (hD).new hn
      clear hn
      have hH158 := hH156.drew
      clear hH156
      generalize World.drew w156 = w158 at *
      refine hW (fuel := 7) (i := 0) (.pointer (some ⟨p, 0, none⟩)) he157 rfl (by kernel_rfl) (fun _ _ _ h => h) (fun w' _ => rn_mv rfl (he157.op rfl) w') (hH158.drop1 2 rfl) ?_
      intro a159 he159
      clear he157 a157
      refine hW (fuel := 6) (i := 1) (.agg #[.int .i64 (((setR R i (l, s)).1).mo : Int), .int .i64 (((setR R i (l, s)).1).pl : Int), .int .i64 (((setR R i (l, s)).1).fi : Int), .slice A2 ((setR R i (l, s)).1).L.length c2, .slice B2 (pgI ((setR R i (l, s)).1).P).length d2]) he159 rfl (by kernel_rfl) (fun _ _ _ h => h) (fun w' hw' => rn_ldp _ rfl (he159.op rfl) undQ rfl infoQ5 (hw'.at (i := 0) rfl) rfl) (hH158.drop1 2 rfl) ?_
      intro a160 he160
      clear he159 a159
      refine hW (fuel := 5) (i := 2) (.int .i64 (setR R i (l, s)).2) he160 rfl (by kernel_rfl) (fun _ _ _ h => h) (fun w' _ => rn_mv rfl (he160.op rfl) w') (hH158.drop1 2 rfl) ?_
      intro a161 he161
      clear he160 a160
      refine hW (fuel := 4) (i := 3) (.int .i64 (setR R i (l, s)).2) he161 rfl (by kernel_rfl) (fun _ _ _ h => h) (fun w' _ => rn_mv rfl (he161.op rfl) w') (hH158.drop1 2 rfl) ?_
      intro a162 he162
      clear he161 a161
      refine hW (fuel := 3) (i := 4) (.bool true) he162 rfl (by kernel_rfl) (fun _ _ _ h => h) (fun w' _ => rn_eqI rfl (he162.op rfl) (he162.op rfl) (by simp) w') (hH158.drop1 2 rfl) ?_
      intro a163 he163
      clear he162 a162
      refine hW (fuel := 2) (i := 5) (.pointer (some ⟨p, 0, none⟩)) he163 rfl (by kernel_rfl) (fun _ _ _ h => h) (fun w' _ => rn_asg rfl (he163.op rfl) w') (hH158.drop1 2 rfl) ?_
      intro a164 he164
      clear he163 a163
      refine hSetV (fuel := 1) (n := 6) 2 #[.int .i64 (((setR R i (l, s)).1).mo : Int), .int .i64 (((setR R i (l, s)).1).pl : Int), .int .i64 (((setR R i (l, s)).1).fi : Int), .slice A2 ((setR R i (l, s)).1).L.length c2, .slice B2 (pgI ((setR R i (l, s)).1).P).length d2] (cs := #[.int .i64 (((setR R i (l, s)).1).mo : Int), .int .i64 (((setR R i (l, s)).1).pl : Int), .int .i64 (((setR R i (l, s)).1).fi : Int), .slice A2 ((setR R i (l, s)).1).L.length c2, .slice B2 (pgI ((setR R i (l, s)).1).P).length d2]) he164 hH158 (by kernel_rfl) rfl rfl (wanted_plain rfl _) rfl rfl rfl rfl rfl (by kernel_rfl) (by kernel_rfl) (by kernel_rfl) rfl ?_
      intro w165 a166 hH165 hf he166
      replace hD := hD.setb (i := 2) rfl rfl hf
      replace hH165 : Hp (bare w) [⟨p142, 33, #[.int .i64 (((setR R i (l, s)).1).mo : Int), .int .i64 (((setR R i (l, s)).1).pl : Int), .int .i64 (((setR R i (l, s)).1).fi : Int), .slice A2 ((setR R i (l, s)).1).L.length c2, .slice B2 (pgI ((setR R i (l, s)).1).P).length d2]⟩, ⟨p13, 36, #[.slice Ao l.length co, .bool s]⟩, ⟨p6, 33, #[.int .i64 (((setR R i (l, s)).1).mo : Int), .int .i64 (((setR R i (l, s)).1).pl : Int), .int .i64 (((setR R i (l, s)).1).fi : Int), .slice A2 ((setR R i (l, s)).1).L.length c2, .slice B2 (pgI ((setR R i (l, s)).1).P).length d2]⟩, ⟨p3, 38, #[.int .i64 wh, .int .i64 i, .int .i64 tn, .slice Bx l.length cb, .bool s]⟩, ⟨p1, 33, #[.int .i64 R.mo, .int .i64 R.pl, .int .i64 R.fi, .slice A R.L.length c, .slice B (pgI R.P).length d]⟩] w165 := hH165
      refine ⟨(hH165.drop1 2 rfl), ?_⟩
      clear hf
      clear he164 a164 hH158
      refine hW (fuel := 0) (i := 7) (.bool true) he166 rfl (by kernel_rfl) (fun _ _ _ h => h) (fun w' _ => rn_asg rfl (he166.op rfl) w') (hH165.drop1 2 rfl) ?_
      intro a167 he167
      clear he166 a166
      refine wpAnyH_done (by kernel_rfl) ?_ _
      refine then_ok ?_
      replace hD := hD.pick 2 rfl
      replace hD := hD.pick 2 rfl
      replace hD := hD.pick 2 rfl
      refine wp_ret ?_
      try simp only [Exit.then, Exit.inBlock, Exit.noGoto]
      exact ret_tct rfl he167 rfl rfl rfl (hH165.at (i := 2) rfl) undQ rfl infoQ5 ⟨p, (setR R i (l, s)).1, A2, c2, B2, d2, rfl, set_le hok, (Dt.first (A := [ringD p (setR R i (l, s)).1, rdD (.slice A2 ((setR R i (l, s)).1).L.length c2) ((setR R i (l, s)).1).L, rowG (.slice B2 (pgI ((setR R i (l, s)).1).P).length d2) (pgI ((setR R i (l, s)).1).P)]) hD).turned⟩
    refine wp_seq (wp_region_lit ?_)
    refine lW (.bool false) he129 rfl (rn_eqI rfl (he129.op rfl) (he129.op rfl) (by simpa using hw2) w15) ?_
    intro a168 he168
    clear he129 a129
    refine lW (.bool false) he168 rfl (rn_asg rfl (he168.op rfl) w15) ?_
    intro a169 he169
    clear he168 a168
    refine wpList_nil (then_ok ?_)
    refine wp_cond_false (he169.op rfl) ?_
    by_cases hw3 : wh = 3
    · skip
      refine wp_seq (wp_region_lit ?_)
      refine lW (.bool true) he169 rfl (rn_eqI rfl (he169.op rfl) (he169.op rfl) (by simp [hw3]) w15) ?_
      intro a170 he170
      clear he169 a169
      refine lW (.bool true) he170 rfl (rn_asg rfl (he170.op rfl) w15) ?_
      intro a171 he171
      clear he170 a170
      refine wpList_nil (then_ok ?_)
      refine wp_cond_true (he171.op rfl) ?_
      refine wp_seq (wp_region_lit ?_)
      refine lW (.agg #[.int .i64 R.mo, .int .i64 R.pl, .int .i64 R.fi, .slice A R.L.length c, .slice B (pgI R.P).length d]) he171 rfl (rn_ldp _ rfl (he171.op rfl) undQ rfl infoQ5 (hH15.at (i := 3) rfl) rfl) ?_
      intro a172 he172
      clear he171 a171
      refine lW (.pointer (some ⟨p3, 1, none⟩)) he172 rfl (rn_faA1 rfl (he172.op rfl) rfl w15) ?_
      intro a173 he173
      clear he172 a172
      refine lW (.int .i64 i) he173 rfl (rn_ld1 rfl (he173.op rfl) Tryd.underlying3 (hH15.at (i := 2) rfl) rfl) ?_
      intro a174 he174
      clear he173 a173
      replace hD := hD.pick 3 rfl
      replace hD := hD.pick 3 rfl
      obtain ⟨F_, hsep, hF, hstep⟩ := Dt.step (A := [rdD (.slice A R.L.length c) R.L, rowG (.slice B (pgI R.P).length d) (pgI R.P)]) (D := [cellsD (.slice Ao l.length co) l, ringD p R]) hD
      refine lCx he174 rfl rfl Tryd.func40 (by kernel_rfl) rfl rfl (wanted_plain rfl _) rfl (qLimited F_ R A B c d i w15 hsep hok hsm hF hD.tab) ?_
      rintro _ w175 ⟨A2, c2, B2, d2, rfl, ht⟩
      obtain ⟨hD2, hHs⟩ := hstep _ _ ht
      have hH175 := hHs _ rfl hH15
      clear hHs hstep hsep hF
      replace hD := hD2
      clear hD2 ht
      refine ⟨_, rfl, ?_⟩
      intro a176 he176
      clear he174 a174 hH15
      refine lW (.tuple #[.agg #[.int .i64 (((limitR R i).1).mo : Int), .int .i64 (((limitR R i).1).pl : Int), .int .i64 (((limitR R i).1).fi : Int), .slice A2 ((limitR R i).1).L.length c2, .slice B2 (pgI ((limitR R i).1).P).length d2], .int .i64 (limitR R i).2]) he176 rfl (rn_mv rfl (he176.op rfl) w175) ?_
      intro a177 he177
      clear he176 a176
      refine lW (.agg #[.int .i64 (((limitR R i).1).mo : Int), .int .i64 (((limitR R i).1).pl : Int), .int .i64 (((limitR R i).1).fi : Int), .slice A2 ((limitR R i).1).L.length c2, .slice B2 (pgI ((limitR R i).1).P).length d2]) he177 rfl (rn_ext rfl (he177.op rfl) rfl w175) ?_
      intro a178 he178
      clear he177 a177
      refine lW (.int .i64 (limitR R i).2) he178 rfl (rn_ext rfl (he178.op rfl) rfl w175) ?_
      intro a179 he179
      clear he178 a178
      refine lNewP (fun p => .pointer (some ⟨p, 0, none⟩)) he179 hH175 rfl rfl (wanted_plain rfl _) (rn_allocQ rfl w175) ?_
      intro p180 w180 a181 hp hn hH180 he181
      replace hD := hD.cons hn hp (hH180.at (i := 0) rfl).lt
      clear he179 a179 hH175 hn hp
      refine lSetF 0 #[.int .i64 (((limitR R i).1).mo : Int), .int .i64 (((limitR R i).1).pl : Int), .int .i64 (((limitR R i).1).fi : Int), .slice A2 ((limitR R i).1).L.length c2, .slice B2 (pgI ((limitR R i).1).P).length d2] (cs := #[.int .i64 (((limitR R i).1).mo : Int), .int .i64 (((limitR R i).1).pl : Int), .int .i64 (((limitR R i).1).fi : Int), .slice A2 ((limitR R i).1).L.length c2, .slice B2 (pgI ((limitR R i).1).P).length d2]) he181 hH180 rfl (wanted_plain rfl _) rfl rfl rfl rfl rfl (by kernel_rfl) (by kernel_rfl) (by kernel_rfl) rfl ?_
      intro w182 a183 hH182 hf he183
      replace hD := hD.setb (i := 0) rfl rfl hf
      replace hH182 : Hp (bare w) [⟨p180, 33, #[.int .i64 (((limitR R i).1).mo : Int), .int .i64 (((limitR R i).1).pl : Int), .int .i64 (((limitR R i).1).fi : Int), .slice A2 ((limitR R i).1).L.length c2, .slice B2 (pgI ((limitR R i).1).P).length d2]⟩, ⟨p13, 36, #[.slice Ao l.length co, .bool s]⟩, ⟨p6, 33, #[.int .i64 0, .int .i64 0, .int .i64 0, .slice none 0 0, .slice none 0 0]⟩, ⟨p3, 38, #[.int .i64 wh, .int .i64 i, .int .i64 tn, .slice Bx l.length cb, .bool s]⟩, ⟨p1, 33, #[.int .i64 R.mo, .int .i64 R.pl, .int .i64 R.fi, .slice A R.L.length c, .slice B (pgI R.P).length d]⟩] w182 := hH182
      clear hf
      clear he181 a181 hH180
      refine lW (.int .i64 (limitR R i).2) he183 rfl (rn_asg rfl (he183.op rfl) w182) ?_
      intro a184 he184
      clear he183 a183
      refine wpList_nil (then_ok ?_)
      refine wp_seq ?_
      refine wp_region_held_drew (S := Hp (bare w) [⟨p180, 33, #[.int .i64 (((limitR R i).1).mo : Int), .int .i64 (((limitR R i).1).pl : Int), .int .i64 (((limitR R i).1).fi : Int), .slice A2 ((limitR R i).1).L.length c2, .slice B2 (pgI ((limitR R i).1).P).length d2]⟩, ⟨p13, 36, #[.slice Ao l.length co, .bool s]⟩, ⟨p3, 38, #[.int .i64 wh, .int .i64 i, .int .i64 tn, .slice Bx l.length cb, .bool s]⟩, ⟨p1, 33, #[.int .i64 R.mo, .int .i64 R.pl, .int .i64 R.fi, .slice A R.L.length c, .slice B (pgI R.P).length d]⟩]) (by kernel_rfl) ((hH182.drew).drop1 2 rfl) (fun _ => ?_)
      have hn : New w182 (World.drew w182) := (Fr.refl _ _).drew
      replace hD := (hD).new hn
      clear hn
      have hH185 := hH182.drew
      clear hH182
      generalize World.drew w182 = w185 at *
      refine hW (fuel := 10) (i := 0) (.pointer (some ⟨p, 0, none⟩)) he184 rfl (by kernel_rfl) (fun _ _ _ h => h) (fun w' _ => rn_mv rfl (he184.op rfl) w') (hH185.drop1 2 rfl) ?_
      intro a186 he186
      clear he184 a184
      refine hW (fuel := 9) (i := 1) (.agg #[.int .i64 (((limitR R i).1).mo : Int), .int .i64 (((limitR R i).1).pl : Int), .int .i64 (((limitR R i).1).fi : Int), .slice A2 ((limitR R i).1).L.length c2, .slice B2 (pgI ((limitR R i).1).P).length d2]) he186 rfl (by kernel_rfl) (fun _ _ _ h => h) (fun w' hw' => rn_ldp _ rfl (he186.op rfl) undQ rfl infoQ5 (hw'.at (i := 0) rfl) rfl) (hH185.drop1 2 rfl) ?_
      intro a187 he187
      clear he186 a186
      refine hW (fuel := 8) (i := 2) (.pointer (some ⟨p, 0, none⟩)) he187 rfl (by kernel_rfl) (fun _ _ _ h => h) (fun w' _ => rn_mv rfl (he187.op rfl) w') (hH185.drop1 2 rfl) ?_
      intro a188 he188
      clear he187 a187
      refine hW (fuel := 7) (i := 3) (.pointer (some ⟨p3, 1, none⟩)) he188 rfl (by kernel_rfl) (fun _ _ _ h => h) (fun w' _ => rn_faA1 rfl (he188.op rfl) rfl w') (hH185.drop1 2 rfl) ?_
      intro a189 he189
      clear he188 a188
      refine hW (fuel := 6) (i := 4) (.int .i64 i) he189 rfl (by kernel_rfl) (fun _ _ _ h => h) (fun w' hw' => rn_ld1 rfl (he189.op rfl) Tryd.underlying3 (hw'.at (i := 2) rfl) rfl) (hH185.drop1 2 rfl) ?_
      intro a190 he190
      clear he189 a189
      refine hW (fuel := 5) (i := 6) (.int .i64 (limitR R i).2) he190 rfl (by kernel_rfl) (fun _ _ _ h => h) (fun w' _ => rn_mv rfl (he190.op rfl) w') (hH185.drop1 2 rfl) ?_
      intro a191 he191
      clear he190 a190
      replace hD := hD.pick 3 rfl
      obtain ⟨F_, hsep, hF, hstep⟩ := Dt.step (A := [ringD p R]) (D := [rdD (.slice A2 ((limitR R i).1).L.length c2) ((limitR R i).1).L, rowG (.slice B2 (pgI ((limitR R i).1).P).length d2) (pgI ((limitR R i).1).P), cellsD (.slice Ao l.length co) l]) hD
      refine hC (fuel := 4) (i := 5) he191 (by kernel_rfl) rfl rfl rfl Tryd.func27 (by kernel_rfl) rfl rfl (wanted_plain rfl _) rfl (rLimit p R i F_ w185 hsep.the hF hD.tab) ?_
      rintro _ w192 ⟨rfl, ht⟩
      obtain ⟨hD2, hHs⟩ := hstep _ _ ht
      have hH192 := hHs _ rfl hH185
      clear hHs hstep hsep hF
      replace hD := hD2
      clear hD2 ht
      refine ⟨_, rfl, (hH192.drop1 2 rfl), ?_⟩
      intro a193 he193
      clear he191 a191 hH185
      refine hW (fuel := 3) (i := 7) (.bool true) he193 rfl (by kernel_rfl) (fun _ _ _ h => h) (fun w' _ => rn_eqI rfl (he193.op rfl) (he193.op rfl) (by simp) w') (hH192.drop1 2 rfl) ?_
      intro a194 he194
      clear he193 a193
      refine hW (fuel := 2) (i := 8) (.pointer (some ⟨p, 0, none⟩)) he194 rfl (by kernel_rfl) (fun _ _ _ h => h) (fun w' _ => rn_asg rfl (he194.op rfl) w') (hH192.drop1 2 rfl) ?_
      intro a195 he195
      clear he194 a194
      refine hSetV (fuel := 1) (n := 9) 2 #[.int .i64 (((limitR R i).1).mo : Int), .int .i64 (((limitR R i).1).pl : Int), .int .i64 (((limitR R i).1).fi : Int), .slice A2 ((limitR R i).1).L.length c2, .slice B2 (pgI ((limitR R i).1).P).length d2] (cs := #[.int .i64 (((limitR R i).1).mo : Int), .int .i64 (((limitR R i).1).pl : Int), .int .i64 (((limitR R i).1).fi : Int), .slice A2 ((limitR R i).1).L.length c2, .slice B2 (pgI ((limitR R i).1).P).length d2]) he195 hH192 (by kernel_rfl) rfl rfl (wanted_plain rfl _) rfl rfl rfl rfl rfl (by kernel_rfl) (by kernel_rfl) (by kernel_rfl) rfl ?_
      intro w196 a197 hH196 hf he197
      replace hD := hD.setb (i := 2) rfl rfl hf
      replace hH196 : Hp (bare w) [⟨p180, 33, #[.int .i64 (((limitR R i).1).mo : Int), .int .i64 (((limitR R i).1).pl : Int), .int .i64 (((limitR R i).1).fi : Int), .slice A2 ((limitR R i).1).L.length c2, .slice B2 (pgI ((limitR R i).1).P).length d2]⟩, ⟨p13, 36, #[.slice Ao l.length co, .bool s]⟩, ⟨p6, 33, #[.int .i64 (((limitR R i).1).mo : Int), .int .i64 (((limitR R i).1).pl : Int), .int .i64 (((limitR R i).1).fi : Int), .slice A2 ((limitR R i).1).L.length c2, .slice B2 (pgI ((limitR R i).1).P).length d2]⟩, ⟨p3, 38, #[.int .i64 wh, .int .i64 i, .int .i64 tn, .slice Bx l.length cb, .bool s]⟩, ⟨p1, 33, #[.int .i64 R.mo, .int .i64 R.pl, .int .i64 R.fi, .slice A R.L.length c, .slice B (pgI R.P).length d]⟩] w196 := hH196
      refine ⟨(hH196.drop1 2 rfl), ?_⟩
      clear hf
      clear he195 a195 hH192
      refine hW (fuel := 0) (i := 10) (.bool true) he197 rfl (by kernel_rfl) (fun _ _ _ h => h) (fun w' _ => rn_asg rfl (he197.op rfl) w') (hH196.drop1 2 rfl) ?_
      intro a198 he198
      clear he197 a197
      refine wpAnyH_done (by kernel_rfl) ?_ _
      refine then_ok ?_
      replace hD := hD.pick 2 rfl
      replace hD := hD.pick 2 rfl
      replace hD := hD.pick 2 rfl
      refine wp_ret ?_
      try simp only [Exit.then, Exit.inBlock, Exit.noGoto]
      exact ret_tct rfl he198 rfl rfl rfl (hH196.at (i := 2) rfl) undQ rfl infoQ5 ⟨p, (limitR R i).1, A2, c2, B2, d2, rfl, limit_le hok i, (Dt.first (A := [ringD p (limitR R i).1, rdD (.slice A2 ((limitR R i).1).L.length c2) ((limitR R i).1).L, rowG (.slice B2 (pgI ((limitR R i).1).P).length d2) (pgI ((limitR R i).1).P)]) hD).turned⟩
    refine wp_seq (wp_region_lit ?_)
    refine lW (.bool false) he169 rfl (rn_eqI rfl (he169.op rfl) (he169.op rfl) (by simpa using hw3) w15) ?_
    intro a199 he199
    clear he169 a169
    refine lW (.bool false) he199 rfl (rn_asg rfl (he199.op rfl) w15) ?_
    intro a200 he200
    clear he199 a199
    refine wpList_nil (then_ok ?_)
    refine wp_cond_false (he200.op rfl) ?_
    by_cases hw4 : wh = 4
    · skip
      refine wp_seq (wp_region_lit ?_)
      refine lW (.bool true) he200 rfl (rn_eqI rfl (he200.op rfl) (he200.op rfl) (by simp [hw4]) w15) ?_
      intro a201 he201
      clear he200 a200
      refine lW (.bool true) he201 rfl (rn_asg rfl (he201.op rfl) w15) ?_
      intro a202 he202
      clear he201 a201
      refine wpList_nil (then_ok ?_)
      refine wp_cond_true (he202.op rfl) ?_
      refine wp_seq (wp_region_lit ?_)
      refine lW (.pointer (some ⟨p, 0, none⟩)) he202 rfl (rn_mv rfl (he202.op rfl) w15) ?_
      intro a203 he203
      clear he202 a202
      replace hD := hD.pick 1 rfl
      obtain ⟨F_, hsep, hF, hstep⟩ := Dt.step (A := [ringD p R]) (D := [cellsD (.slice Ao l.length co) l, rdD (.slice A R.L.length c) R.L, rowG (.slice B (pgI R.P).length d) (pgI R.P)]) hD
      refine lCx he203 rfl rfl Tryd.func24 (by kernel_rfl) rfl rfl (wanted_plain rfl _) rfl (rClear p R F_ w15 hsep.the hF hD.tab) ?_
      rintro _ w204 ⟨rfl, ht⟩
      obtain ⟨hD2, hHs⟩ := hstep _ _ ht
      have hH204 := hHs _ rfl hH15
      clear hHs hstep hsep hF
      replace hD := hD2
      clear hD2 ht
      refine ⟨_, rfl, ?_⟩
      intro a205 he205
      clear he203 a203 hH15
      refine wpList_nil (then_ok ?_)
      refine wp_seq (wp_region_lit ?_)
      refine lW (.pointer (some ⟨p, 0, none⟩)) he205 rfl (rn_mv rfl (he205.op rfl) w204) ?_
      intro a206 he206
      clear he205 a205
      refine lW (.agg #[.int .i64 R.mo, .int .i64 R.pl, .int .i64 R.fi, .slice A R.L.length c, .slice B (pgI R.P).length d]) he206 rfl (rn_ldp _ rfl (he206.op rfl) undQ rfl infoQ5 (hH204.at (i := 3) rfl) rfl) ?_
      intro a207 he207
      clear he206 a206
      replace hD := hD.pick 3 rfl
      replace hD := hD.pick 3 rfl
      obtain ⟨F_, hsep, hF, hstep⟩ := Dt.step (A := [rdD (.slice A R.L.length c) R.L, rowG (.slice B (pgI R.P).length d) (pgI R.P)]) (D := [ringD p (clearR R), cellsD (.slice Ao l.length co) l]) hD
      refine lCx he207 rfl rfl Tryd.func41 (by kernel_rfl) rfl rfl (wanted_plain rfl _) rfl (qClear F_ R A B c d w204 hsep hok hsm hF hD.tab) ?_
      rintro _ w208 ⟨A2, c2, B2, d2, rfl, ht⟩
      obtain ⟨hD2, hHs⟩ := hstep _ _ ht
      have hH208 := hHs _ rfl hH204
      clear hHs hstep hsep hF
      replace hD := hD2
      clear hD2 ht
      refine ⟨_, rfl, ?_⟩
      intro a209 he209
      clear he207 a207 hH204
      refine lW (.pointer (some ⟨p, 0, none⟩)) he209 rfl (rn_asg rfl (he209.op rfl) w208) ?_
      intro a210 he210
      clear he209 a209
      refine lSetF 1 #[.int .i64 ((clearR R).mo : Int), .int .i64 ((clearR R).pl : Int), .int .i64 ((clearR R).fi : Int), .slice A2 (clearR R).L.length c2, .slice B2 (pgI (clearR R).P).length d2] (cs := #[.int .i64 ((clearR R).mo : Int), .int .i64 ((clearR R).pl : Int), .int .i64 ((clearR R).fi : Int), .slice A2 (clearR R).L.length c2, .slice B2 (pgI (clearR R).P).length d2]) he210 hH208 rfl (wanted_plain rfl _) rfl rfl rfl rfl rfl (by kernel_rfl) (by kernel_rfl) (by kernel_rfl) rfl ?_
      intro w211 a212 hH211 hf he212
      replace hD := hD.setb (i := 1) rfl rfl hf
      replace hH211 : Hp (bare w) [⟨p13, 36, #[.slice Ao l.length co, .bool s]⟩, ⟨p6, 33, #[.int .i64 ((clearR R).mo : Int), .int .i64 ((clearR R).pl : Int), .int .i64 ((clearR R).fi : Int), .slice A2 (clearR R).L.length c2, .slice B2 (pgI (clearR R).P).length d2]⟩, ⟨p3, 38, #[.int .i64 wh, .int .i64 i, .int .i64 tn, .slice Bx l.length cb, .bool s]⟩, ⟨p1, 33, #[.int .i64 R.mo, .int .i64 R.pl, .int .i64 R.fi, .slice A R.L.length c, .slice B (pgI R.P).length d]⟩] w211 := hH211
      clear hf
      clear he210 a210 hH208
      refine lW (.bool true) he212 rfl (rn_asg rfl (he212.op rfl) w211) ?_
      intro a213 he213
      clear he212 a212
      refine wpList_nil (then_ok ?_)
      replace hD := hD.pick 1 rfl
      replace hD := hD.pick 1 rfl
      replace hD := hD.pick 2 rfl
      refine wp_ret ?_
      try simp only [Exit.then, Exit.inBlock, Exit.noGoto]
      exact ret_tct rfl he213 rfl rfl rfl (hH211.at (i := 1) rfl) undQ rfl infoQ5 ⟨p, (clearR R), A2, c2, B2, d2, rfl, clear_le, (Dt.first (A := [ringD p (clearR R), rdD (.slice A2 (clearR R).L.length c2) (clearR R).L, rowG (.slice B2 (pgI (clearR R).P).length d2) (pgI (clearR R).P)]) hD).turned⟩
    refine wp_seq (wp_region_lit ?_)
    refine lW (.bool false) he200 rfl (rn_eqI rfl (he200.op rfl) (he200.op rfl) (by simpa using hw4) w15) ?_
    intro a214 he214
    clear he200 a200
    refine lW (.bool false) he214 rfl (rn_asg rfl (he214.op rfl) w15) ?_
    intro a215 he215
    clear he214 a214
    refine wpList_nil (then_ok ?_)
    refine wp_cond_false (he215.op rfl) ?_
    refine wp_skip ?_
    refine block_ok ?_
    refine then_ok ?_
    refine wp_seq (wp_region_lit ?_)
    refine lW (.pointer (some ⟨p, 0, none⟩)) he215 rfl (rn_mv rfl (he215.op rfl) w15) ?_
    intro a216 he216
    clear he215 a215
    obtain ⟨Fs_, hs_⟩ := hD.get (i := 1) rfl
    refine lCx he216 rfl rfl Tryd.func30 (by kernel_rfl) rfl rfl (wanted_plain rfl _) rfl (rCopy p R Fs_ w15 hs_ hD.tab) ?_
    rintro _ w217 ⟨pq, rfl, ht⟩
    have hD2 := hD.made ht
    have hH217 := hH15.call ht.new
    replace hD := hD2
    clear hD2 ht
    refine ⟨_, rfl, ?_⟩
    intro a218 he218
    clear he216 a216 hH15
    clear hs_ Fs_
    refine lW (.pointer (some ⟨pq, 0, none⟩)) he218 rfl (rn_asg rfl (he218.op rfl) w217) ?_
    intro a219 he219
    clear he218 a218
    refine wpList_nil (then_ok ?_)
    refine wp_seq ?_
    refine wp_seq (wp_region_lit ?_)
    refine lW (.pointer (some ⟨pq, 0, none⟩)) he219 rfl (rn_mv rfl (he219.op rfl) w217) ?_
    intro a220 he220
    clear he219 a219
    refine lW (.bool false) he220 rfl (rn_eqPr1 rfl (he220.op rfl) (fun _ => rfl) w217) ?_
    intro a221 he221
    clear he220 a220
    refine wpList_nil (then_ok ?_)
    refine wp_cond_false (he221.op rfl) ?_
    refine wp_skip ?_
    refine then_ok ?_
    have he222 : Env 132 [(22, .pointer (some ⟨pq, 0, none⟩)), (8, .bool false), (7, .pointer (some ⟨p6, 0, none⟩)), (6, .pointer none), (5, .pointer (some ⟨p3, 0, none⟩)), (4, .pointer (some ⟨p1, 0, none⟩)), (0, .pointer (some ⟨p, 0, none⟩))] a221 := he221.mem ⟨rfl, rfl, rfl, rfl, rfl, rfl, rfl, trivial⟩
    clear he221
    as_aux_lemma =>
      refine wp_seq (wp_region_lit ?_)
      refine lW (.pointer (some ⟨p, 0, none⟩)) he222 rfl (rn_mv rfl (he222.op rfl) w217) ?_
      intro a223 he223
      clear he222 a221
      refine lCx he223 rfl rfl Tryd.func18 (by kernel_rfl) rfl rfl (wanted_plain rfl _) rfl (text_b 113 w217) ?_
      rintro _ w224 ⟨Aq, cq, rfl, ht⟩
      have hD2 := hD.made ht
      have hH224 := hH217.call ht.new
      replace hD := hD2
      clear hD2 ht
      refine ⟨_, rfl, ?_⟩
      intro a225 he225
      clear he223 a223 hH217
      replace hD := hD.pick 3 rfl
      obtain ⟨F_, G_, hsep, hrd_, hdj, hF, hstep⟩ := Dt.stepR (A := [ringD p R]) (d := cellsD (.slice Aq 1 cq) [tc 113]) (D := [ringD pq R, cellsD (.slice Ao l.length co) l, rdD (.slice A R.L.length c) R.L, rowG (.slice B (pgI R.P).length d) (pgI R.P)]) hD
      refine lCx he225 rfl rfl Tryd.func32 (by kernel_rfl) rfl rfl (wanted_plain rfl _) rfl (rPush p R _ [tc 113] false F_ G_ w224 hsep.the hnx (cells_f hrd_) hdj hF hD.tab) ?_
      rintro _ w226 ⟨rfl, ht⟩
      obtain ⟨hD2, hHs⟩ := hstep _ _ ht
      have hH226 := hHs _ rfl hH224
      clear hHs hstep hsep hF hrd_ hdj
      replace hD := hD2
      clear hD2 ht
      refine ⟨_, rfl, ?_⟩
      intro a227 he227
      clear he225 a225 hH224
      refine wpList_nil (then_ok ?_)
      obtain ⟨R1, hR1⟩ : ∃ R1, (pushR R ([tc 113], false)).1 = R1 := ⟨_, rfl⟩
      rw [hR1] at hD
      refine wp_seq (wp_region_lit ?_)
      refine lW (.pointer (some ⟨p, 0, none⟩)) he227 rfl (rn_mv rfl (he227.op rfl) w226) ?_
      intro a228 he228
      clear he227 a227
      refine lW (.pointer (some ⟨p, 0, none⟩)) he228 rfl (rn_mv rfl (he228.op rfl) w226) ?_
      intro a229 he229
      clear he228 a228
      obtain ⟨Fs_, hs_⟩ := hD.get (i := 0) rfl
      refine lC he229 rfl rfl Tryd.func19 (by kernel_rfl) rfl rfl (wanted_plain rfl _) rfl (rFirst_d (R := R1) hs_ hD.tab) ?_
      intro w230 a231 hn he231
      have hH230 := hH226.call hn
      replace hD := (hD).new hn
      clear he229 a229 hH226 hn
      clear hs_ Fs_
      refine lCx he231 rfl rfl Tryd.func18 (by kernel_rfl) rfl rfl (wanted_plain rfl _) rfl (text_b 112 w230) ?_
      rintro _ w232 ⟨Ar, cr, rfl, ht⟩
      have hD2 := hD.made ht
      have hH232 := hH230.call ht.new
      replace hD := hD2
      clear hD2 ht
      refine ⟨_, rfl, ?_⟩
      intro a233 he233
      clear he231 a231 hH230
      have hown := cells_sl (hD.get (i := 0) rfl).choose_spec
      replace hD := hD.pick 1 rfl
      obtain ⟨F_, hsep, hF, hstep⟩ := Dt.step (A := [ringD p R1]) (D := [cellsD (.slice Ar 1 cr) [tc 112], cellsD (.slice Aq 1 cq) [tc 113], ringD pq R, cellsD (.slice Ao l.length co) l, rdD (.slice A R.L.length c) R.L, rowG (.slice B (pgI R.P).length d) (pgI R.P)]) hD
      refine lCx he233 rfl rfl Tryd.func26 (by kernel_rfl) rfl rfl (wanted_plain rfl _) rfl (rSet p R1 (R1.fi : Nat) _ [tc 112] false F_ w232 hsep.the hown hF hD.tab) ?_
      rintro _ w234 ⟨rfl, ht⟩
      obtain ⟨hD2, hHs⟩ := hstep _ _ ht
      have hH234 := hHs _ rfl hH232
      clear hHs hstep hsep hF
      replace hD := hD2
      clear hD2 ht
      refine ⟨_, rfl, ?_⟩
      intro a235 he235
      clear he233 a233 hH232
      clear hown
      refine wpList_nil (then_ok ?_)
      refine wp_seq (wp_region_lit ?_)
      refine lW (.pointer (some ⟨p, 0, none⟩)) he235 rfl (rn_mv rfl (he235.op rfl) w234) ?_
      intro a236 he236
      clear he235 a235
      obtain ⟨F_, hsep, hF, hstep⟩ := Dt.step (A := [ringD p (setR R1 (R1.fi : Nat) ([tc 112], false)).1]) (D := [cellsD (.slice Ar 1 cr) [tc 112], cellsD (.slice Aq 1 cq) [tc 113], ringD pq R, cellsD (.slice Ao l.length co) l, rdD (.slice A R.L.length c) R.L, rowG (.slice B (pgI R.P).length d) (pgI R.P)]) hD
      refine lCx he236 rfl rfl Tryd.func27 (by kernel_rfl) rfl rfl (wanted_plain rfl _) rfl (rLimit p (setR R1 (R1.fi : Nat) ([tc 112], false)).1 1 F_ w234 hsep.the hF hD.tab) ?_
      rintro _ w237 ⟨rfl, ht⟩
      obtain ⟨hD2, hHs⟩ := hstep _ _ ht
      have hH237 := hHs _ rfl hH234
      clear hHs hstep hsep hF
      replace hD := hD2
      clear hD2 ht
      refine ⟨_, rfl, ?_⟩
      intro a238 he238
      clear he236 a236 hH234
      refine wpList_nil (then_ok ?_)
      refine wp_seq ?_
      refine wp_region_held_drew (S := Hp (bare w) [⟨p13, 36, #[.slice Ao l.length co, .bool s]⟩, ⟨p3, 38, #[.int .i64 wh, .int .i64 i, .int .i64 tn, .slice Bx l.length cb, .bool s]⟩, ⟨p1, 33, #[.int .i64 R.mo, .int .i64 R.pl, .int .i64 R.fi, .slice A R.L.length c, .slice B (pgI R.P).length d]⟩]) (by kernel_rfl) ((hH237.drew).drop1 1 rfl) (fun _ => ?_)
      have hn : New w237 (World.drew w237) := (Fr.refl _ _).drew
      replace hD := (hD).new hn
      clear hn
      have hH239 := hH237.drew
      clear hH237
      generalize World.drew w237 = w239 at *
      refine hW (fuel := 4) (i := 0) (.pointer (some ⟨pq, 0, none⟩)) he238 rfl (by kernel_rfl) (fun _ _ _ h => h) (fun w' _ => rn_mv rfl (he238.op rfl) w') (hH239.drop1 1 rfl) ?_
      intro a240 he240
      clear he238 a238
      refine hW (fuel := 3) (i := 1) (.agg #[.int .i64 R.mo, .int .i64 R.pl, .int .i64 R.fi, .slice A R.L.length c, .slice B (pgI R.P).length d]) he240 rfl (by kernel_rfl) (fun _ _ _ h => h) (fun w' hw' => rn_ldp _ rfl (he240.op rfl) undQ rfl infoQ5 (hw'.at (i := 2) rfl) rfl) (hH239.drop1 1 rfl) ?_
      intro a241 he241
      clear he240 a240
      refine hW (fuel := 2) (i := 2) (.pointer (some ⟨pq, 0, none⟩)) he241 rfl (by kernel_rfl) (fun _ _ _ h => h) (fun w' _ => rn_asg rfl (he241.op rfl) w') (hH239.drop1 1 rfl) ?_
      intro a242 he242
      clear he241 a241
      refine hSetV (fuel := 1) (n := 3) 1 #[.int .i64 R.mo, .int .i64 R.pl, .int .i64 R.fi, .slice A R.L.length c, .slice B (pgI R.P).length d] (cs := #[.int .i64 R.mo, .int .i64 R.pl, .int .i64 R.fi, .slice A R.L.length c, .slice B (pgI R.P).length d]) he242 hH239 (by kernel_rfl) rfl rfl (wanted_plain rfl _) rfl rfl rfl rfl rfl (by kernel_rfl) (by kernel_rfl) (by kernel_rfl) rfl ?_
      intro w243 a244 hH243 hf he244
      replace hD := hD.setb (i := 1) rfl rfl hf
      replace hH243 : Hp (bare w) [⟨p13, 36, #[.slice Ao l.length co, .bool s]⟩, ⟨p6, 33, #[.int .i64 R.mo, .int .i64 R.pl, .int .i64 R.fi, .slice A R.L.length c, .slice B (pgI R.P).length d]⟩, ⟨p3, 38, #[.int .i64 wh, .int .i64 i, .int .i64 tn, .slice Bx l.length cb, .bool s]⟩, ⟨p1, 33, #[.int .i64 R.mo, .int .i64 R.pl, .int .i64 R.fi, .slice A R.L.length c, .slice B (pgI R.P).length d]⟩] w243 := hH243
      refine ⟨(hH243.drop1 1 rfl), ?_⟩
      clear hf
      clear he242 a242 hH239
      refine hW (fuel := 0) (i := 4) (.bool true) he244 rfl (by kernel_rfl) (fun _ _ _ h => h) (fun w' _ => rn_asg rfl (he244.op rfl) w') (hH243.drop1 1 rfl) ?_
      intro a245 he245
      clear he244 a244
      refine wpAnyH_done (by kernel_rfl) ?_ _
      refine then_ok ?_
      replace hD := hD.pick 6 rfl
      replace hD := hD.pick 6 rfl
      replace hD := hD.pick 5 rfl
      refine wp_ret ?_
      try simp only [Exit.then, Exit.inBlock, Exit.noGoto]
      exact ret_tct rfl he245 rfl rfl rfl (hH243.at (i := 1) rfl) undQ rfl infoQ5 ⟨pq, R, A, c, B, d, rfl, StepLe.refl R, (Dt.first (A := [ringD pq R, rdD (.slice A R.L.length c) R.L, rowG (.slice B (pgI R.P).length d) (pgI R.P)]) hD).turned⟩
end Go.Proofs.YtlpjhaghphmbeaaDoor
