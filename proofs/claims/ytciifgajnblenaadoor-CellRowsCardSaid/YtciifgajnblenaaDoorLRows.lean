/-
  CellRows.
-/
import Derived.Test.YtciifgajnblenaaDoorLKnown
import Derived.Test.YtciifgajnblenaaDoorHRn
import Derived.Test.YtciifgajnblenaaDoorDStain
import Derived.Test.YtciifgajnblenaaDoorCSlice
namespace Go.Proofs.YtciifgajnblenaaDoor
open Go.RowKit

set_option linter.unusedSimpArgs false in
set_option maxRecDepth 100000 in
set_option maxHeartbeats 1600000 in
theorem cellRows_walk (l : List Ce) (n b cap : Nat) (A : Option Addr) (w : World) (hr : RdC w b A n l) (hT : Tab w) :
    Calls Tryd.prog 6 #[.slice A n cap] w fun e w' => e = .returned (.bool true) ∧ Below w.heap.size w w' := by
  refine calls_args (vl := [Value.slice A n cap]) 38 Tryd.func6 rfl Tryd.ntmps6 (by kernel_rfl) (fun a he => ?_)
  have he0 : Env 38 [(0, Value.slice A n cap)] a := he
  clear he
  have hH := Hp.start w
  by_cases h40 : 40 < n
  · skip
    refine wp_seq ?_
    refine wp_region_lit ?_
    refine lV (Value.bool false) he0 rfl rfl (wanted_plain rfl _) (rn_asg rfl (he0.op rfl) w) ?_
    intro a1 he1
    clear he0 a
    refine wpList_nil ?_
    refine then_ok ?_
    refine wp_seq ?_
    refine wp_seq ?_
    refine wp_region_lit ?_
    refine lV (Value.slice A n cap) he1 rfl rfl (wanted_plain rfl _) (rn_mv rfl (he1.op rfl) w) ?_
    intro a2 he2
    clear he1 a1
    refine lV (Value.int .i64 n) he2 rfl rfl (wanted_plain rfl _) (rn_lenC rfl (he2.op rfl) w) ?_
    intro a3 he3
    clear he2 a2
    refine lV (Value.bool true) he3 rfl rfl (wanted_plain rfl _) (rn_gtr rfl (he3.op rfl) (he3.op rfl) (decide_eq_true (by omega)) w) ?_
    intro a4 he4
    clear he3 a3
    refine wpList_nil ?_
    refine then_ok ?_
    refine wp_cond_true (he4.op rfl) ?_
    refine wp_seq ?_
    refine wp_region_lit ?_
    refine lC he4 rfl rfl Tryd.func13 (by kernel_rfl) rfl rfl (wanted_plain rfl _) rfl (known_any w (hT.new hH.new)) ?_
    intro w5 a6 hn he6
    have hH5 := hH.call hn
    clear he4 a4 hH hn
    refine lV (Value.bool true) he6 rfl rfl (wanted_plain rfl _) (rn_asg rfl (he6.op rfl) w5) ?_
    intro a7 he7
    clear he6 a6
    refine wpList_nil ?_
    refine then_ok ?_
    refine wp_ret ?_
    try simp only [Exit.then, Exit.inBlock]
    exact ret_env rfl he7 rfl ⟨rfl, hH5.new.new_below⟩
  · skip
    refine wp_seq ?_
    refine wp_region_lit ?_
    refine lV (Value.bool false) he0 rfl rfl (wanted_plain rfl _) (rn_asg rfl (he0.op rfl) w) ?_
    intro a8 he8
    clear he0 a
    refine wpList_nil ?_
    refine then_ok ?_
    refine wp_seq ?_
    refine wp_seq ?_
    refine wp_region_lit ?_
    refine lV (Value.slice A n cap) he8 rfl rfl (wanted_plain rfl _) (rn_mv rfl (he8.op rfl) w) ?_
    intro a9 he9
    clear he8 a8
    refine lV (Value.int .i64 n) he9 rfl rfl (wanted_plain rfl _) (rn_lenC rfl (he9.op rfl) w) ?_
    intro a10 he10
    clear he9 a9
    refine lV (Value.bool false) he10 rfl rfl (wanted_plain rfl _) (rn_gtr rfl (he10.op rfl) (he10.op rfl) (decide_eq_false (by omega)) w) ?_
    intro a11 he11
    clear he10 a10
    refine wpList_nil ?_
    refine then_ok ?_
    refine wp_cond_false (he11.op rfl) ?_
    refine wp_skip ?_
    refine then_ok ?_
    have hl := hr.1
    refine wp_seq ?_
    refine wp_region_lit ?_
    refine lV (Value.slice A n cap) he11 rfl rfl (wanted_plain rfl _) (rn_mv rfl (he11.op rfl) w) ?_
    intro a12 he12
    clear he11 a11
    refine lApp (l := []) he12 rfl rfl (wanted_plain rfl _) rfl rfl (World.ownsRow_nil w w.heap.size 30 16) rfl (hr.new hH.new) (by omega) (Nat.le_refl _) ?_
    intro vo wo a14 ho hgr he14
    have hn : New w wo := Fr.grown (Fr.refl _ _) hgr (fun k h => by cases h)
    rw [Nat.zero_add, List.nil_append] at ho
    obtain ⟨bo, Ao, co, rfl, -, hro⟩ := own_rdc ho hl
    have hHo := hH.call hn
    clear hn hgr ho he12 a12 hH
    refine lV (Value.slice Ao n co) he14 rfl rfl (wanted_plain rfl _) (rn_asg rfl (he14.op rfl) wo) ?_
    intro a15 he15
    clear he14 a14
    refine wpList_nil ?_
    refine then_ok ?_
    have he16 : Env 38 [(3, Value.slice Ao n co), (0, Value.slice A n cap)] a15 := he15.mem ⟨rfl, rfl, trivial⟩
    clear he15
    as_aux_lemma =>
      refine wp_seq ?_
      refine wp_seq ?_
      refine wp_region_lit ?_
      refine lV (Value.slice Ao n co) he16 rfl rfl (wanted_plain rfl _) (rn_mv rfl (he16.op rfl) wo) ?_
      intro a17 he17
      clear he16 a15
      refine lC he17 rfl rfl Tryd.func22 (by kernel_rfl) rfl rfl (wanted_plain rfl _) rfl (CRow_any l n _ _ _ wo hro (by omega) (hT.new hHo.new)) ?_
      intro w18 a19 hn he19
      have hH18 := hHo.call hn
      replace hro := hro.new hn
      clear he17 a17 hHo hn
      refine lV (Value.slice A n cap) he19 rfl rfl (wanted_plain rfl _) (rn_mv rfl (he19.op rfl) w18) ?_
      intro a20 he20
      clear he19 a19
      refine lC he20 rfl rfl Tryd.func23 (by kernel_rfl) rfl rfl (wanted_plain rfl _) rfl (RRow_any l n _ _ _ w18 (hr.new hH18.new) (by omega)) ?_
      intro w21 a22 hn he22
      have hH21 := hH18.call hn
      replace hro := hro.new hn
      clear he20 a20 hH18 hn
      refine lV (Value.bool false) he22 rfl rfl (wanted_plain rfl _) (rn_neB rfl (he22.op rfl) (he22.op rfl) (by simp) w21) ?_
      intro a23 he23
      clear he22 a22
      refine lV (Value.bool false) he23 rfl rfl (wanted_plain rfl _) (rn_mv rfl (he23.op rfl) w21) ?_
      intro a24 he24
      clear he23 a23
      refine lV (Value.slice Ao n co) he24 rfl rfl (he24.want rfl rfl rfl rfl rfl) (rn_mv rfl (he24.op rfl) w21) ?_
      intro a25 he25
      clear he24 a24
      refine lC he25 rfl rfl Tryd.func24 (by kernel_rfl) rfl rfl (he25.want rfl rfl rfl rfl rfl) rfl (CTexts_any l n _ _ _ w21 hro (by omega)) ?_
      intro w26 a27 hn he27
      have hH26 := hH21.call hn
      replace hro := hro.new hn
      clear he25 a25 hH21 hn
      refine lV (Value.slice A n cap) he27 rfl rfl (he27.want rfl rfl rfl rfl rfl) (rn_mv rfl (he27.op rfl) w26) ?_
      intro a28 he28
      clear he27 a27
      refine lC he28 rfl rfl Tryd.func25 (by kernel_rfl) rfl rfl (he28.want rfl rfl rfl rfl rfl) rfl (RTexts_any l n _ _ _ w26 (hr.new hH26.new) (by omega)) ?_
      intro w29 a30 hn he30
      have hH29 := hH26.call hn
      replace hro := hro.new hn
      clear he28 a28 hH26 hn
      refine lV (Value.bool false) he30 rfl rfl (he30.want rfl rfl rfl rfl rfl) (rn_neq rfl (he30.op rfl) (he30.op rfl) w29) ?_
      intro a31 he31
      clear he30 a30
      refine lV (Value.bool false) he31 rfl rfl (wanted_plain rfl _) (rn_pk0 rfl (he31.op rfl) (he31.op rfl) w29) ?_
      intro a32 he32
      clear he31 a31
      refine wpList_nil ?_
      refine then_ok ?_
      refine wp_cond_false (he32.op rfl) ?_
      refine wp_skip ?_
      refine then_ok ?_
      have he33 : Env 38 [(3, Value.slice Ao n co), (0, Value.slice A n cap)] a32 := he32.mem ⟨rfl, rfl, trivial⟩
      clear he32
      as_aux_lemma =>
        refine wp_seq ?_
        refine wp_region_lit ?_
        refine lV (Value.slice Ao n co) he33 rfl rfl (wanted_plain rfl _) (rn_mv rfl (he33.op rfl) w29) ?_
        intro a34 he34
        clear he33 a32
        have hlf : (fixL l).length = n := (fix_len none l).trans hl
        have hro0 := hro
        have hwx := hH29.new
        refine lCx he34 rfl rfl Tryd.func26 (by kernel_rfl) rfl rfl (wanted_plain rfl _) rfl (CFix_any l n _ _ _ w29 hro (by omega)) ?_
        rintro _ w35 ⟨v, rfl, hox, hn⟩
        obtain ⟨bx, Ax, cx, rfl, -, hrx⟩ := own_rdc hox hlf
        refine ⟨_, rfl, ?_⟩
        intro a36 he36
        have hH35 := hH29.call hn
        replace hro := hro.new hn
        clear he34 a34 hH29
        have hnx := hn
        clear hn
        clear hro
        refine lV (Value.slice Ax n cx) he36 rfl rfl (wanted_plain rfl _) (rn_asg rfl (he36.op rfl) w35) ?_
        intro a37 he37
        clear he36 a36
        refine wpList_nil ?_
        refine then_ok ?_
        have he38 : Env 38 [(4, Value.slice Ax n cx), (3, Value.slice Ao n co), (0, Value.slice A n cap)] a37 := he37.mem ⟨rfl, rfl, rfl, trivial⟩
        clear he37
        as_aux_lemma =>
          refine wp_seq ?_
          refine wp_seq ?_
          refine wp_region_lit ?_
          refine lV (Value.slice Ax n cx) he38 rfl rfl (wanted_plain rfl _) (rn_mv rfl (he38.op rfl) w35) ?_
          intro a39 he39
          clear he38 a37
          refine lV (Value.slice A n cap) he39 rfl rfl (wanted_plain rfl _) (rn_mv rfl (he39.op rfl) w35) ?_
          intro a40 he40
          clear he39 a39
          refine lCx he40 rfl rfl Tryd.func28 (by kernel_rfl) rfl rfl (wanted_plain rfl _) rfl (RFix_any l n _ _ _ w35 (hr.new hH35.new) (by omega)) ?_
          rintro _ w41 ⟨v, rfl, hoy, hn⟩
          obtain ⟨by_, Ay, cy, rfl, -, hry⟩ := own_rdc hoy hlf
          clear hoy
          refine ⟨_, rfl, ?_⟩
          intro a42 he42
          have hH41 := hH35.call hn
          replace hrx := hrx.new hn
          replace hox := own_fr hox hn (fun _ _ h => h)
          replace hnx := New.trans hnx hn
          clear he40 a40 hH35
          clear hn
          refine lC he42 rfl rfl Tryd.func27 (by kernel_rfl) rfl rfl (wanted_plain rfl _) rfl (SameK (fixL l) (fixL l) n n _ _ _ _ _ _ w41 hrx hry rfl (by omega) (by omega)) ?_
          intro w43 a44 hn he44
          have hH43 := hH41.call hn
          replace hrx := hrx.new hn
          replace hox := own_fr hox hn (fun _ _ h => h)
          replace hnx := New.trans hnx hn
          clear he42 a42 hH41 hn
          refine lV (Value.bool false) he44 rfl rfl (wanted_plain rfl _) (rn_not (b := true) rfl (he44.op rfl) w43) ?_
          intro a45 he45
          clear he44 a44
          refine wpList_nil ?_
          refine then_ok ?_
          refine wp_cond_false (he45.op rfl) ?_
          refine wp_skip ?_
          refine then_ok ?_
          have he46 : Env 38 [(4, Value.slice Ax n cx), (3, Value.slice Ao n co), (0, Value.slice A n cap)] a45 := he45.mem ⟨rfl, rfl, rfl, trivial⟩
          clear he45
          clear hry hrx
          as_aux_lemma =>
            refine wp_seq ?_
            refine wp_region_lit ?_
            refine lV (Value.slice Ax n cx) he46 rfl rfl (wanted_plain rfl _) (rn_mv rfl (he46.op rfl) w43) ?_
            intro a47 he47
            clear he46 a45
            refine lCx he47 rfl rfl Tryd.func29 (by kernel_rfl) rfl rfl (wanted_plain rfl _) rfl (Stain_any n _ _ _ w43 hox (ty_flat _ n hlf) (by omega)) ?_
            rintro _ w48 ⟨rfl, hf⟩
            refine ⟨_, rfl, ?_⟩
            intro a49 he49
            clear he47 a47
            have hH50 : Hp w [] w48 := ⟨new_low hwx hH43.new hf, by simp, by simp⟩
            have hro := hro0.low hnx hf
            clear hro0 hf hnx hox hwx hH43
            refine wpList_nil ?_
            refine then_ok ?_
            have he51 : Env 38 [(3, Value.slice Ao n co), (0, Value.slice A n cap)] a49 := he49.mem ⟨rfl, rfl, trivial⟩
            clear he49
            as_aux_lemma =>
              refine wp_seq ?_
              refine wp_region_lit ?_
              refine lV (Value.slice Ao n co) he51 rfl rfl (wanted_plain rfl _) (rn_mv rfl (he51.op rfl) w48) ?_
              intro a52 he52
              clear he51 a49
              refine lV (Value.slice A n cap) he52 rfl rfl (wanted_plain rfl _) (rn_mv rfl (he52.op rfl) w48) ?_
              intro a53 he53
              clear he52 a52
              refine lC he53 rfl rfl Tryd.func27 (by kernel_rfl) rfl rfl (wanted_plain rfl _) rfl (SameK l l n n _ _ _ _ _ _ w48 hro (hr.new hH50.new) rfl (by omega) (by omega)) ?_
              intro w54 a55 hn he55
              have hH54 := hH50.call hn
              replace hro := hro.new hn
              clear he53 a53 hH50 hn
              refine lV (Value.bool true) he55 rfl rfl (wanted_plain rfl _) (rn_mv rfl (he55.op rfl) w54) ?_
              intro a56 he56
              clear he55 a55
              refine lC he56 rfl rfl Tryd.func13 (by kernel_rfl) rfl rfl (he56.want rfl rfl rfl rfl rfl) rfl (known_any w54 (hT.new hH54.new)) ?_
              intro w57 a58 hn he58
              have hH57 := hH54.call hn
              replace hro := hro.new hn
              clear he56 a56 hH54 hn
              refine lV (Value.bool true) he58 rfl rfl (wanted_plain rfl _) (rn_pk rfl (he58.op rfl) (he58.op rfl) w57) ?_
              intro a59 he59
              clear he58 a58
              refine lV (Value.bool true) he59 rfl rfl (wanted_plain rfl _) (rn_asg rfl (he59.op rfl) w57) ?_
              intro a60 he60
              clear he59 a59
              refine wpList_nil ?_
              refine then_ok ?_
              refine wp_ret ?_
              try simp only [Exit.then, Exit.inBlock]
              exact ret_env rfl he60 rfl ⟨rfl, hH57.new.new_below⟩

theorem cellRows_for (A : Option Addr) (n cap : Nat) (l : List Ce) (w : World) (h : RowC w A n l) (hT : Tab w) :
    Calls Tryd.prog 6 #[.slice A n cap] w fun e w' => e = .returned (.bool true) ∧ Below w.heap.size w w' := by
  obtain ⟨b, hr⟩ := h
  exact cellRows_walk l n b cap A w hr hT

end Go.Proofs.YtciifgajnblenaaDoor
