/-
  LineHolds.
-/
import Derived.Test.YtjcpdldaimebbaaDoorNStain
namespace Go.Proofs.YtjcpdldaimebbaaDoor
open Go.RowKit

theorem le_to {r : Lr} {l : List Ce} {s : Bool} {e0 : Int} {w w' : World} {e : Ending} (h : LeSaid r w e w') (hr : r = ⟨l, s, e0⟩) : (∃ A c, e = .returned (.tuple #[.agg #[.slice A l.length c, .bool s], .int .i64 e0]) ∧ OwnC w' w.heap.size (.slice A l.length c) l.length l) ∧ New w w' := by
  subst hr
  exact h
theorem putR_bad1 {l c : List Ce} {s : Bool} {k : Int} (h : rowB c = false) : putR l s k c = ⟨[], false, 2⟩ := by rw [putR, if_pos (by rw [h, Bool.and_false])]
theorem putR_bad2 {l c : List Ce} {s : Bool} {k : Int} (hv : okL l = true) (h : rowB c = true) (hk : (decide (0 ≤ k) && decide (k + c.length ≤ l.length)) = false) : putR l s k c = ⟨[], false, 3⟩ := by
  rw [putR, if_neg (by rw [hv, h]; decide), if_pos hk]
theorem putR_good {l c : List Ce} {s : Bool} {k : Nat} (hv : okL l = true) (h : rowB c = true) (hk : k + c.length ≤ l.length) : putR l s (k : Int) c = ⟨putL l k c, s, 0⟩ := by
  rw [putR, if_neg (by rw [hv, h]; decide), if_neg (by rw [decide_eq_true (by omega : (0 : Int) ≤ k), decide_eq_true (by omega : (k : Int) + c.length ≤ l.length)]; decide), Int.toNat_natCast]
theorem take_pad (l : List Ce) (k m : Nat) (h : k ≤ l.length) : (l ++ List.replicate m eC).take k = l.take k := by rw [List.take_append_of_le_length h]

set_option linter.unusedSimpArgs false in
set_option maxRecDepth 100000 in
set_option maxHeartbeats 1600000 in
theorem lineHolds_walk (x : Value) (l : List Ce) (so : Bool) (at_ : Int) (h0 : -9223372036854775808 ≤ at_) (h9 : at_ ≤ 9223372036854775807) (z : Value) (d : List Ce) (mo : Nat) (hmo : mo ≤ 255) (w : World) (hx : SlC w x l) (hz : SlC w z d) (hT : Tab w) :
    Calls Tryd.prog 8 #[.agg #[x, .bool so], .int .i64 at_, z, .int .u8 mo] w fun e w' => e = .returned (.bool true) ∧ Below w.heap.size w w' := by
  obtain ⟨A, cap, b, e_, hc, hr⟩ := id hx
  subst e_
  obtain ⟨D, cd, bd, e_, hcd, hd⟩ := id hz
  subst e_
  refine calls_args (vl := [Value.agg #[Value.slice A l.length cap, Value.bool so], Value.int .i64 at_, Value.slice D d.length cd, Value.int .u8 (mo : Int)]) 193 Tryd.func8 rfl Tryd.ntmps8 (by kernel_rfl) (fun a he => ?_)
  have he0 : Env 193 [(0, Value.agg #[Value.slice A l.length cap, Value.bool so]), (1, Value.int .i64 at_), (2, Value.slice D d.length cd), (3, Value.int .u8 (mo : Int))] a := he
  clear he
  have hH := Hp.start w
  refine wp_seq ?_
  refine wp_region_lit ?_
  refine lNew (fun p => .pointer (some ⟨p, 0, none⟩)) he0 hH rfl rfl (wanted_plain rfl _) (rn_boxL rfl (he0.op rfl) w) ?_
  intro p1 w1 a2 hn hH1 he2
  clear he0 a hH hn
  refine lV (Value.bool false) he2 rfl rfl (wanted_plain rfl _) (rn_asg rfl (he2.op rfl) w1) ?_
  intro a3 he3
  clear he2 a2
  refine wpList_nil ?_
  refine then_ok ?_
  by_cases h1 : l.length ≤ 40
  · skip
    by_cases h2 : d.length ≤ 40
    · skip
      by_cases h3 : mo ≤ 100
      · skip
        refine wp_seq ?_
        refine wp_seq ?_
        refine wp_region_lit ?_
        refine lV (Value.agg #[Value.slice A l.length cap, Value.bool so]) he3 rfl rfl (wanted_plain rfl _) (rn_ldp [Value.slice A l.length cap, Value.bool so] rfl (he3.op rfl) undL rfl infoL2 (hH1.at (i := 0) rfl) rfl) ?_
        intro a4 he4
        clear he3 a3
        refine lC he4 rfl rfl Tryd.func19 (by kernel_rfl) rfl rfl (wanted_plain rfl _) rfl (small_s _ l so true (decide_eq_true h1) w1 (hx.new hH1.new)) ?_
        intro w5 a6 hn he6
        have hH5 := hH1.call hn
        clear he4 a4 hH1 hn
        refine lV (Value.bool false) he6 rfl rfl (wanted_plain rfl _) (rn_not (b := true) rfl (he6.op rfl) w5) ?_
        intro a7 he7
        clear he6 a6
        refine lV (Value.bool false) he7 rfl rfl (wanted_plain rfl _) (rn_mv rfl (he7.op rfl) w5) ?_
        intro a8 he8
        clear he7 a7
        refine lV (Value.slice D d.length cd) he8 rfl rfl (he8.want rfl rfl rfl rfl rfl) (rn_mv rfl (he8.op rfl) w5) ?_
        intro a9 he9
        clear he8 a8
        refine lV (Value.int .i64 (d.length : Nat)) he9 rfl rfl (he9.want rfl rfl rfl rfl rfl) (rn_lenC rfl (he9.op rfl) w5) ?_
        intro a10 he10
        clear he9 a9
        refine lV (Value.bool false) he10 rfl rfl (he10.want rfl rfl rfl rfl rfl) (rn_gtr rfl (he10.op rfl) (he10.op rfl) (decide_eq_false (by omega)) w5) ?_
        intro a11 he11
        clear he10 a10
        refine lV (Value.bool false) he11 rfl rfl (wanted_plain rfl _) (rn_pk0 rfl (he11.op rfl) (he11.op rfl) w5) ?_
        intro a12 he12
        clear he11 a11
        refine lV (Value.bool false) he12 rfl rfl (wanted_plain rfl _) (rn_mv rfl (he12.op rfl) w5) ?_
        intro a13 he13
        clear he12 a12
        refine lV (Value.int .u8 (mo : Int)) he13 rfl rfl (he13.want rfl rfl rfl rfl rfl) (rn_mv rfl (he13.op rfl) w5) ?_
        intro a14 he14
        clear he13 a13
        refine lV (Value.bool false) he14 rfl rfl (he14.want rfl rfl rfl rfl rfl) (rn_gt8 rfl (he14.op rfl) (he14.op rfl) (decide_eq_false (by omega)) w5) ?_
        intro a15 he15
        clear he14 a14
        refine lV (Value.bool false) he15 rfl rfl (wanted_plain rfl _) (rn_pk0 rfl (he15.op rfl) (he15.op rfl) w5) ?_
        intro a16 he16
        clear he15 a15
        refine wpList_nil ?_
        refine then_ok ?_
        refine wp_cond_false (he16.op rfl) ?_
        refine wp_skip ?_
        refine then_ok ?_
        have he17 : Env 193 [(4, Value.pointer (some ⟨p1, 0, none⟩)), (1, Value.int .i64 at_), (2, Value.slice D d.length cd), (3, Value.int .u8 (mo : Int))] a16 := he16.mem ⟨rfl, rfl, rfl, rfl, trivial⟩
        clear he16
        obtain ⟨v, hv⟩ : ∃ v, okL l = v := ⟨_, rfl⟩
        cases v with
        | false =>
          refine wp_seq ?_
          refine wp_seq ?_
          refine wp_region_lit ?_
          refine lV (Value.agg #[Value.slice A l.length cap, Value.bool so]) he17 rfl rfl (wanted_plain rfl _) (rn_ldp [Value.slice A l.length cap, Value.bool so] rfl (he17.op rfl) undL rfl infoL2 (hH5.at (i := 0) rfl) rfl) ?_
          intro a18 he18
          clear he17 a16
          refine lC he18 rfl rfl Tryd.func13 (by kernel_rfl) rfl rfl (wanted_plain rfl _) rfl (valid_s _ l so false hv w5 (hx.new hH5.new) (hT.new hH5.new)) ?_
          intro w19 a20 hn he20
          have hH19 := hH5.call hn
          clear he18 a18 hH5 hn
          refine lV (Value.bool true) he20 rfl rfl (wanted_plain rfl _) (rn_not (b := false) rfl (he20.op rfl) w19) ?_
          intro a21 he21
          clear he20 a20
          refine wpList_nil ?_
          refine then_ok ?_
          refine wp_cond_true (he21.op rfl) ?_
          refine wp_seq ?_
          refine wp_region_lit ?_
          refine lC he21 rfl rfl Tryd.func9 (by kernel_rfl) rfl rfl (wanted_plain rfl _) rfl (known_any w19 (hT.new hH19.new)) ?_
          intro w22 a23 hn he23
          have hH22 := hH19.call hn
          clear he21 a21 hH19 hn
          refine lV (Value.bool true) he23 rfl rfl (wanted_plain rfl _) (rn_asg rfl (he23.op rfl) w22) ?_
          intro a24 he24
          clear he23 a23
          refine wpList_nil ?_
          refine then_ok ?_
          refine wp_ret ?_
          try simp only [Exit.then, Exit.inBlock]
          exact ret_env rfl he24 rfl ⟨rfl, hH22.new.new_below⟩
        | true =>
          refine wp_seq ?_
          refine wp_seq ?_
          refine wp_region_lit ?_
          refine lV (Value.agg #[Value.slice A l.length cap, Value.bool so]) he17 rfl rfl (wanted_plain rfl _) (rn_ldp [Value.slice A l.length cap, Value.bool so] rfl (he17.op rfl) undL rfl infoL2 (hH5.at (i := 0) rfl) rfl) ?_
          intro a25 he25
          clear he17 a16
          refine lC he25 rfl rfl Tryd.func13 (by kernel_rfl) rfl rfl (wanted_plain rfl _) rfl (valid_s _ l so true hv w5 (hx.new hH5.new) (hT.new hH5.new)) ?_
          intro w26 a27 hn he27
          have hH26 := hH5.call hn
          clear he25 a25 hH5 hn
          refine lV (Value.bool false) he27 rfl rfl (wanted_plain rfl _) (rn_not (b := true) rfl (he27.op rfl) w26) ?_
          intro a28 he28
          clear he27 a27
          refine wpList_nil ?_
          refine then_ok ?_
          refine wp_cond_false (he28.op rfl) ?_
          refine wp_skip ?_
          refine then_ok ?_
          have he29 : Env 193 [(4, Value.pointer (some ⟨p1, 0, none⟩)), (1, Value.int .i64 at_), (2, Value.slice D d.length cd), (3, Value.int .u8 (mo : Int))] a28 := he28.mem ⟨rfl, rfl, rfl, rfl, trivial⟩
          clear he28
          as_aux_lemma =>
            have hrow := okL_row hv
            have hul := used_le l
            have hcl := used_cutlen l
            have hX : okL (l.take (usedN l)) = true := row_cut_ok hv
            have hXu := used_cut l
            have hXX : List.take (usedN (l.take (usedN l))) (l.take (usedN l)) = (l.take (usedN l)) := by rw [hXu, List.take_of_length_le (by omega)]
            have hWl : (l ++ List.replicate mo eC).length = l.length + mo := by rw [List.length_append, List.length_replicate]
            have hW : okL (l ++ List.replicate mo eC) = true := okL_mk (by omega) (row_append hrow (row_pad mo))
            have hWu := used_pad l mo
            have f1 : trimR l so = ⟨l.take (usedN l), so, 0⟩ := trimR_ok hv
            have f2 : trimR (l.take (usedN l)) so = ⟨(l.take (usedN l)), so, 0⟩ := by rw [trimR_ok hX, hXX]
            have f3 : fitR l so (l.length : Nat) = ⟨l, so, 0⟩ := by rw [fitR_ok hv (by omega) (by omega), Int.toNat_natCast]; have h := fitL_wide hrow 0; rw [Nat.add_zero, List.replicate_zero, List.append_nil] at h; rw [h]
            have f4 : fitR l so ((l.length + mo : Nat) : Int) = ⟨(l ++ List.replicate mo eC), so, 0⟩ := by rw [fitR_ok hv (by omega) (by omega), Int.toNat_natCast, fitL_wide hrow mo]
            obtain ⟨t, ht⟩ : ∃ t, runesBytes (textsC (l.take (usedN l))) = t := ⟨_, rfl⟩
            have tX : runesBytes (textsC (List.take (usedN (l.take (usedN l))) (l.take (usedN l)))) = t := by rw [hXX, ht]
            have tW : runesBytes (textsC (List.take (usedN (l ++ List.replicate mo eC)) (l ++ List.replicate mo eC))) = t := by rw [hWu, take_pad l _ _ hul, ht]
            refine wp_seq ?_
            refine wp_region_lit ?_
            refine lV (Value.agg #[Value.slice A l.length cap, Value.bool so]) he29 rfl rfl (wanted_plain rfl _) (rn_ldp [Value.slice A l.length cap, Value.bool so] rfl (he29.op rfl) undL rfl infoL2 (hH26.at (i := 0) rfl) rfl) ?_
            intro a30 he30
            clear he29 a28
            have hzhoX := hH26.new.size
            refine lCx he30 rfl rfl Tryd.func30 (by kernel_rfl) rfl rfl (wanted_plain rfl _) rfl (Calls.mono (trim_l _ l so (by omega) w26 (hx.new hH26.new) (hT.new hH26.new)) (fun _ _ h => le_to h f1)) ?_
            rintro _ w31 ⟨⟨Ax, cx, rfl, hoX⟩, hn⟩
            replace hoX := own_base hoX (fun k_ hk_ => Nat.le_trans hzhoX (own_blk hoX k_ hk_))
            clear hzhoX
            refine ⟨_, rfl, ?_⟩
            intro a32 he32
            have hH31 := hH26.call hn
            clear he30 a30 hH26
            clear hn
            refine lV (Value.tuple #[Value.agg #[Value.slice Ax (l.take (usedN l)).length cx, Value.bool so], Value.int .i64 0]) he32 rfl rfl (wanted_plain rfl _) (rn_mv rfl (he32.op rfl) w31) ?_
            intro a33 he33
            clear he32 a32
            refine lV (Value.agg #[Value.slice Ax (l.take (usedN l)).length cx, Value.bool so]) he33 rfl rfl (wanted_plain rfl _) (rn_ext rfl (he33.op rfl) rfl w31) ?_
            intro a34 he34
            clear he33 a33
            refine lV (Value.int .i64 0) he34 rfl rfl (wanted_plain rfl _) (rn_ext rfl (he34.op rfl) rfl w31) ?_
            intro a35 he35
            clear he34 a34
            refine lNew (fun p => .pointer (some ⟨p, 0, none⟩)) he35 hH31 rfl rfl (wanted_plain rfl _) (rn_allocL rfl w31) ?_
            intro p36 w36 a37 hn hH36 he37
            replace hoX := own_fr hoX hn (fun _ _ h => h)
            clear he35 a35 hH31 hn
            refine lSetF 0 #[Value.slice Ax (l.take (usedN l)).length cx, Value.bool so] (cs := #[Value.slice Ax (l.take (usedN l)).length cx, Value.bool so]) he37 hH36 rfl (wanted_plain rfl _) rfl rfl rfl rfl rfl (by kernel_rfl) (by kernel_rfl) (by kernel_rfl) rfl ?_
            intro w38 a39 hH38 hf he39
            replace hoX := own_fr hoX hf (fun k_ hk_ e_ => own_far hoX (hH36.at (i := 0) rfl) (show 60 ≠ 27 from by decide) (hk_.trans (congrArg some e_)))
            replace hH38 : Hp w [⟨p36, 27, #[Value.slice Ax (l.take (usedN l)).length cx, Value.bool so]⟩, ⟨p1, 27, #[Value.slice A l.length cap, Value.bool so]⟩] w38 := hH38
            clear hf
            clear he37 a37 hH36
            refine lV (Value.int .i64 0) he39 rfl rfl (wanted_plain rfl _) (rn_asg rfl (he39.op rfl) w38) ?_
            intro a40 he40
            clear he39 a39
            refine wpList_nil ?_
            refine then_ok ?_
            have he41 : Env 193 [(10, Value.int .i64 0), (9, Value.pointer (some ⟨p36, 0, none⟩)), (4, Value.pointer (some ⟨p1, 0, none⟩)), (1, Value.int .i64 at_), (2, Value.slice D d.length cd), (3, Value.int .u8 (mo : Int))] a40 := he40.mem ⟨rfl, rfl, rfl, rfl, rfl, rfl, trivial⟩
            clear he40
            as_aux_lemma =>
              refine wp_seq ?_
              refine wp_region_lit ?_
              refine lV (Value.agg #[Value.slice Ax (l.take (usedN l)).length cx, Value.bool so]) he41 rfl rfl (wanted_plain rfl _) (rn_ldp [Value.slice Ax (l.take (usedN l)).length cx, Value.bool so] rfl (he41.op rfl) undL rfl infoL2 (hH38.at (i := 0) rfl) rfl) ?_
              intro a42 he42
              clear he41 a40
              have hzhoY := hH38.new.size
              refine lCx he42 rfl rfl Tryd.func30 (by kernel_rfl) rfl rfl (wanted_plain rfl _) rfl (Calls.mono (trim_l _ (l.take (usedN l)) so (by omega) w38 (SlC.own hoX) (hT.new hH38.new)) (fun _ _ h => le_to h f2)) ?_
              rintro _ w43 ⟨⟨Ay, cy, rfl, hoY⟩, hn⟩
              replace hoY := own_base hoY (fun k_ hk_ => Nat.le_trans hzhoY (own_blk hoY k_ hk_))
              clear hzhoY
              refine ⟨_, rfl, ?_⟩
              intro a44 he44
              have hH43 := hH38.call hn
              replace hoX := own_fr hoX hn (fun _ _ h => h)
              clear he42 a42 hH38
              clear hn
              refine lV (Value.tuple #[Value.agg #[Value.slice Ay (l.take (usedN l)).length cy, Value.bool so], Value.int .i64 0]) he44 rfl rfl (wanted_plain rfl _) (rn_mv rfl (he44.op rfl) w43) ?_
              intro a45 he45
              clear he44 a44
              refine lV (Value.agg #[Value.slice Ay (l.take (usedN l)).length cy, Value.bool so]) he45 rfl rfl (wanted_plain rfl _) (rn_ext rfl (he45.op rfl) rfl w43) ?_
              intro a46 he46
              clear he45 a45
              refine lV (Value.int .i64 0) he46 rfl rfl (wanted_plain rfl _) (rn_ext rfl (he46.op rfl) rfl w43) ?_
              intro a47 he47
              clear he46 a46
              refine lNew (fun p => .pointer (some ⟨p, 0, none⟩)) he47 hH43 rfl rfl (wanted_plain rfl _) (rn_allocL rfl w43) ?_
              intro p48 w48 a49 hn hH48 he49
              replace hoX := own_fr hoX hn (fun _ _ h => h)
              replace hoY := own_fr hoY hn (fun _ _ h => h)
              clear he47 a47 hH43 hn
              refine lSetF 0 #[Value.slice Ay (l.take (usedN l)).length cy, Value.bool so] (cs := #[Value.slice Ay (l.take (usedN l)).length cy, Value.bool so]) he49 hH48 rfl (wanted_plain rfl _) rfl rfl rfl rfl rfl (by kernel_rfl) (by kernel_rfl) (by kernel_rfl) rfl ?_
              intro w50 a51 hH50 hf he51
              replace hoX := own_fr hoX hf (fun k_ hk_ e_ => own_far hoX (hH48.at (i := 0) rfl) (show 60 ≠ 27 from by decide) (hk_.trans (congrArg some e_)))
              replace hoY := own_fr hoY hf (fun k_ hk_ e_ => own_far hoY (hH48.at (i := 0) rfl) (show 60 ≠ 27 from by decide) (hk_.trans (congrArg some e_)))
              replace hH50 : Hp w [⟨p48, 27, #[Value.slice Ay (l.take (usedN l)).length cy, Value.bool so]⟩, ⟨p36, 27, #[Value.slice Ax (l.take (usedN l)).length cx, Value.bool so]⟩, ⟨p1, 27, #[Value.slice A l.length cap, Value.bool so]⟩] w50 := hH50
              clear hf
              clear he49 a49 hH48
              refine lV (Value.int .i64 0) he51 rfl rfl (wanted_plain rfl _) (rn_asg rfl (he51.op rfl) w50) ?_
              intro a52 he52
              clear he51 a51
              refine wpList_nil ?_
              refine then_ok ?_
              have he53 : Env 193 [(12, Value.int .i64 0), (11, Value.pointer (some ⟨p48, 0, none⟩)), (10, Value.int .i64 0), (9, Value.pointer (some ⟨p36, 0, none⟩)), (4, Value.pointer (some ⟨p1, 0, none⟩)), (1, Value.int .i64 at_), (2, Value.slice D d.length cd), (3, Value.int .u8 (mo : Int))] a52 := he52.mem ⟨rfl, rfl, rfl, rfl, rfl, rfl, rfl, rfl, trivial⟩
              clear he52
              as_aux_lemma =>
                refine wp_seq ?_
                refine wp_region_lit ?_
                refine lV (Value.agg #[Value.slice A l.length cap, Value.bool so]) he53 rfl rfl (wanted_plain rfl _) (rn_ldp [Value.slice A l.length cap, Value.bool so] rfl (he53.op rfl) undL rfl infoL2 (hH50.at (i := 2) rfl) rfl) ?_
                intro a54 he54
                clear he53 a52
                refine lV (Value.pointer (some ⟨p1, 0, none⟩)) he54 rfl rfl (wanted_plain rfl _) (rn_faL0 rfl (he54.op rfl) rfl w50) ?_
                intro a55 he55
                clear he54 a54
                refine lV (Value.slice A l.length cap) he55 rfl rfl (wanted_plain rfl _) (rn_ldS rfl (he55.op rfl) (hH50.at (i := 2) rfl) rfl) ?_
                intro a56 he56
                clear he55 a55
                refine lV (Value.int .i64 (l.length : Nat)) he56 rfl rfl (wanted_plain rfl _) (rn_lenC rfl (he56.op rfl) w50) ?_
                intro a57 he57
                clear he56 a56
                have hzhoZ := hH50.new.size
                refine lCx he57 rfl rfl Tryd.func32 (by kernel_rfl) rfl rfl (wanted_plain rfl _) rfl (Calls.mono (fit_l _ l so (l.length : Nat) w50 (hx.new hH50.new) (hT.new hH50.new)) (fun _ _ h => le_to h f3)) ?_
                rintro _ w58 ⟨⟨Az, cz, rfl, hoZ⟩, hn⟩
                replace hoZ := own_base hoZ (fun k_ hk_ => Nat.le_trans hzhoZ (own_blk hoZ k_ hk_))
                clear hzhoZ
                refine ⟨_, rfl, ?_⟩
                intro a59 he59
                have hH58 := hH50.call hn
                replace hoX := own_fr hoX hn (fun _ _ h => h)
                replace hoY := own_fr hoY hn (fun _ _ h => h)
                clear he57 a57 hH50
                clear hn
                refine lV (Value.tuple #[Value.agg #[Value.slice Az l.length cz, Value.bool so], Value.int .i64 0]) he59 rfl rfl (wanted_plain rfl _) (rn_mv rfl (he59.op rfl) w58) ?_
                intro a60 he60
                clear he59 a59
                refine lV (Value.agg #[Value.slice Az l.length cz, Value.bool so]) he60 rfl rfl (wanted_plain rfl _) (rn_ext rfl (he60.op rfl) rfl w58) ?_
                intro a61 he61
                clear he60 a60
                refine lV (Value.int .i64 0) he61 rfl rfl (wanted_plain rfl _) (rn_ext rfl (he61.op rfl) rfl w58) ?_
                intro a62 he62
                clear he61 a61
                refine lNew (fun p => .pointer (some ⟨p, 0, none⟩)) he62 hH58 rfl rfl (wanted_plain rfl _) (rn_allocL rfl w58) ?_
                intro p63 w63 a64 hn hH63 he64
                replace hoX := own_fr hoX hn (fun _ _ h => h)
                replace hoY := own_fr hoY hn (fun _ _ h => h)
                replace hoZ := own_fr hoZ hn (fun _ _ h => h)
                clear he62 a62 hH58 hn
                refine lSetF 0 #[Value.slice Az l.length cz, Value.bool so] (cs := #[Value.slice Az l.length cz, Value.bool so]) he64 hH63 rfl (wanted_plain rfl _) rfl rfl rfl rfl rfl (by kernel_rfl) (by kernel_rfl) (by kernel_rfl) rfl ?_
                intro w65 a66 hH65 hf he66
                replace hoX := own_fr hoX hf (fun k_ hk_ e_ => own_far hoX (hH63.at (i := 0) rfl) (show 60 ≠ 27 from by decide) (hk_.trans (congrArg some e_)))
                replace hoY := own_fr hoY hf (fun k_ hk_ e_ => own_far hoY (hH63.at (i := 0) rfl) (show 60 ≠ 27 from by decide) (hk_.trans (congrArg some e_)))
                replace hoZ := own_fr hoZ hf (fun k_ hk_ e_ => own_far hoZ (hH63.at (i := 0) rfl) (show 60 ≠ 27 from by decide) (hk_.trans (congrArg some e_)))
                replace hH65 : Hp w [⟨p63, 27, #[Value.slice Az l.length cz, Value.bool so]⟩, ⟨p48, 27, #[Value.slice Ay (l.take (usedN l)).length cy, Value.bool so]⟩, ⟨p36, 27, #[Value.slice Ax (l.take (usedN l)).length cx, Value.bool so]⟩, ⟨p1, 27, #[Value.slice A l.length cap, Value.bool so]⟩] w65 := hH65
                clear hf
                clear he64 a64 hH63
                refine lV (Value.int .i64 0) he66 rfl rfl (wanted_plain rfl _) (rn_asg rfl (he66.op rfl) w65) ?_
                intro a67 he67
                clear he66 a66
                refine wpList_nil ?_
                refine then_ok ?_
                have he68 : Env 193 [(14, Value.int .i64 0), (13, Value.pointer (some ⟨p63, 0, none⟩)), (12, Value.int .i64 0), (11, Value.pointer (some ⟨p48, 0, none⟩)), (10, Value.int .i64 0), (9, Value.pointer (some ⟨p36, 0, none⟩)), (4, Value.pointer (some ⟨p1, 0, none⟩)), (1, Value.int .i64 at_), (2, Value.slice D d.length cd), (3, Value.int .u8 (mo : Int))] a67 := he67.mem ⟨rfl, rfl, rfl, rfl, rfl, rfl, rfl, rfl, rfl, rfl, trivial⟩
                clear he67
                as_aux_lemma =>
                  refine wp_seq ?_
                  refine wp_region_lit ?_
                  refine lV (Value.agg #[Value.slice A l.length cap, Value.bool so]) he68 rfl rfl (wanted_plain rfl _) (rn_ldp [Value.slice A l.length cap, Value.bool so] rfl (he68.op rfl) undL rfl infoL2 (hH65.at (i := 3) rfl) rfl) ?_
                  intro a69 he69
                  clear he68 a67
                  refine lV (Value.pointer (some ⟨p1, 0, none⟩)) he69 rfl rfl (wanted_plain rfl _) (rn_faL0 rfl (he69.op rfl) rfl w65) ?_
                  intro a70 he70
                  clear he69 a69
                  refine lV (Value.slice A l.length cap) he70 rfl rfl (wanted_plain rfl _) (rn_ldS rfl (he70.op rfl) (hH65.at (i := 3) rfl) rfl) ?_
                  intro a71 he71
                  clear he70 a70
                  refine lV (Value.int .i64 (l.length : Nat)) he71 rfl rfl (wanted_plain rfl _) (rn_lenC rfl (he71.op rfl) w65) ?_
                  intro a72 he72
                  clear he71 a71
                  refine lV (Value.int .u8 (mo : Int)) he72 rfl rfl (wanted_plain rfl _) (rn_mv rfl (he72.op rfl) w65) ?_
                  intro a73 he73
                  clear he72 a72
                  refine lV (Value.int .i64 (mo : Int)) he73 rfl rfl (wanted_plain rfl _) (rn_cv8I rfl (he73.op rfl) (IntWalk.i64_in _ ⟨by omega, by omega⟩) w65) ?_
                  intro a74 he74
                  clear he73 a73
                  refine lV (Value.int .i64 ((l.length + mo : Nat) : Int)) he74 rfl rfl (wanted_plain rfl _) (rn_add1 rfl (he74.op rfl) (he74.op rfl) (by rw [IntWalk.i64_in _ ⟨by omega, by omega⟩]; omega) w65) ?_
                  intro a75 he75
                  clear he74 a74
                  have hzhoW := hH65.new.size
                  refine lCx he75 rfl rfl Tryd.func32 (by kernel_rfl) rfl rfl (wanted_plain rfl _) rfl (Calls.mono (fit_l _ l so ((l.length + mo : Nat) : Int) w65 (hx.new hH65.new) (hT.new hH65.new)) (fun _ _ h => le_to h f4)) ?_
                  rintro _ w76 ⟨⟨Aw, cw, rfl, hoW⟩, hn⟩
                  replace hoW := own_base hoW (fun k_ hk_ => Nat.le_trans hzhoW (own_blk hoW k_ hk_))
                  clear hzhoW
                  refine ⟨_, rfl, ?_⟩
                  intro a77 he77
                  have hH76 := hH65.call hn
                  replace hoX := own_fr hoX hn (fun _ _ h => h)
                  replace hoY := own_fr hoY hn (fun _ _ h => h)
                  replace hoZ := own_fr hoZ hn (fun _ _ h => h)
                  clear he75 a75 hH65
                  clear hn
                  refine lV (Value.tuple #[Value.agg #[Value.slice Aw (l ++ List.replicate mo eC).length cw, Value.bool so], Value.int .i64 0]) he77 rfl rfl (wanted_plain rfl _) (rn_mv rfl (he77.op rfl) w76) ?_
                  intro a78 he78
                  clear he77 a77
                  refine lV (Value.agg #[Value.slice Aw (l ++ List.replicate mo eC).length cw, Value.bool so]) he78 rfl rfl (wanted_plain rfl _) (rn_ext rfl (he78.op rfl) rfl w76) ?_
                  intro a79 he79
                  clear he78 a78
                  refine lV (Value.int .i64 0) he79 rfl rfl (wanted_plain rfl _) (rn_ext rfl (he79.op rfl) rfl w76) ?_
                  intro a80 he80
                  clear he79 a79
                  refine lNew (fun p => .pointer (some ⟨p, 0, none⟩)) he80 hH76 rfl rfl (wanted_plain rfl _) (rn_allocL rfl w76) ?_
                  intro p81 w81 a82 hn hH81 he82
                  replace hoX := own_fr hoX hn (fun _ _ h => h)
                  replace hoY := own_fr hoY hn (fun _ _ h => h)
                  replace hoZ := own_fr hoZ hn (fun _ _ h => h)
                  replace hoW := own_fr hoW hn (fun _ _ h => h)
                  clear he80 a80 hH76 hn
                  refine lSetF 0 #[Value.slice Aw (l ++ List.replicate mo eC).length cw, Value.bool so] (cs := #[Value.slice Aw (l ++ List.replicate mo eC).length cw, Value.bool so]) he82 hH81 rfl (wanted_plain rfl _) rfl rfl rfl rfl rfl (by kernel_rfl) (by kernel_rfl) (by kernel_rfl) rfl ?_
                  intro w83 a84 hH83 hf he84
                  replace hoX := own_fr hoX hf (fun k_ hk_ e_ => own_far hoX (hH81.at (i := 0) rfl) (show 60 ≠ 27 from by decide) (hk_.trans (congrArg some e_)))
                  replace hoY := own_fr hoY hf (fun k_ hk_ e_ => own_far hoY (hH81.at (i := 0) rfl) (show 60 ≠ 27 from by decide) (hk_.trans (congrArg some e_)))
                  replace hoZ := own_fr hoZ hf (fun k_ hk_ e_ => own_far hoZ (hH81.at (i := 0) rfl) (show 60 ≠ 27 from by decide) (hk_.trans (congrArg some e_)))
                  replace hoW := own_fr hoW hf (fun k_ hk_ e_ => own_far hoW (hH81.at (i := 0) rfl) (show 60 ≠ 27 from by decide) (hk_.trans (congrArg some e_)))
                  replace hH83 : Hp w [⟨p81, 27, #[Value.slice Aw (l ++ List.replicate mo eC).length cw, Value.bool so]⟩, ⟨p63, 27, #[Value.slice Az l.length cz, Value.bool so]⟩, ⟨p48, 27, #[Value.slice Ay (l.take (usedN l)).length cy, Value.bool so]⟩, ⟨p36, 27, #[Value.slice Ax (l.take (usedN l)).length cx, Value.bool so]⟩, ⟨p1, 27, #[Value.slice A l.length cap, Value.bool so]⟩] w83 := hH83
                  clear hf
                  clear he82 a82 hH81
                  refine lV (Value.int .i64 0) he84 rfl rfl (wanted_plain rfl _) (rn_asg rfl (he84.op rfl) w83) ?_
                  intro a85 he85
                  clear he84 a84
                  refine wpList_nil ?_
                  refine then_ok ?_
                  have he86 : Env 193 [(16, Value.int .i64 0), (15, Value.pointer (some ⟨p81, 0, none⟩)), (14, Value.int .i64 0), (13, Value.pointer (some ⟨p63, 0, none⟩)), (12, Value.int .i64 0), (11, Value.pointer (some ⟨p48, 0, none⟩)), (10, Value.int .i64 0), (9, Value.pointer (some ⟨p36, 0, none⟩)), (4, Value.pointer (some ⟨p1, 0, none⟩)), (1, Value.int .i64 at_), (2, Value.slice D d.length cd), (3, Value.int .u8 (mo : Int))] a85 := he85.mem ⟨rfl, rfl, rfl, rfl, rfl, rfl, rfl, rfl, rfl, rfl, rfl, rfl, trivial⟩
                  clear he85
                  as_aux_lemma =>
                    refine wp_seq ?_
                    refine wp_seq ?_
                    refine wp_region_lit ?_
                    refine lV (Value.int .i64 0) he86 rfl rfl (wanted_plain rfl _) (rn_mv rfl (he86.op rfl) w83) ?_
                    intro a87 he87
                    clear he86 a85
                    refine lV (Value.bool false) he87 rfl rfl (wanted_plain rfl _) (rn_neE rfl (he87.op rfl) (he87.op rfl) (by decide) w83) ?_
                    intro a88 he88
                    clear he87 a87
                    refine lV (Value.bool false) he88 rfl rfl (wanted_plain rfl _) (rn_mv rfl (he88.op rfl) w83) ?_
                    intro a89 he89
                    clear he88 a88
                    refine lV (Value.int .i64 0) he89 rfl rfl (he89.want rfl rfl rfl rfl rfl) (rn_mv rfl (he89.op rfl) w83) ?_
                    intro a90 he90
                    clear he89 a89
                    refine lV (Value.bool false) he90 rfl rfl (he90.want rfl rfl rfl rfl rfl) (rn_neE rfl (he90.op rfl) (he90.op rfl) (by decide) w83) ?_
                    intro a91 he91
                    clear he90 a90
                    refine lV (Value.bool false) he91 rfl rfl (wanted_plain rfl _) (rn_pk0 rfl (he91.op rfl) (he91.op rfl) w83) ?_
                    intro a92 he92
                    clear he91 a91
                    refine lV (Value.bool false) he92 rfl rfl (wanted_plain rfl _) (rn_mv rfl (he92.op rfl) w83) ?_
                    intro a93 he93
                    clear he92 a92
                    refine lV (Value.int .i64 0) he93 rfl rfl (he93.want rfl rfl rfl rfl rfl) (rn_mv rfl (he93.op rfl) w83) ?_
                    intro a94 he94
                    clear he93 a93
                    refine lV (Value.bool false) he94 rfl rfl (he94.want rfl rfl rfl rfl rfl) (rn_neE rfl (he94.op rfl) (he94.op rfl) (by decide) w83) ?_
                    intro a95 he95
                    clear he94 a94
                    refine lV (Value.bool false) he95 rfl rfl (wanted_plain rfl _) (rn_pk0 rfl (he95.op rfl) (he95.op rfl) w83) ?_
                    intro a96 he96
                    clear he95 a95
                    refine lV (Value.bool false) he96 rfl rfl (wanted_plain rfl _) (rn_mv rfl (he96.op rfl) w83) ?_
                    intro a97 he97
                    clear he96 a96
                    refine lV (Value.int .i64 0) he97 rfl rfl (he97.want rfl rfl rfl rfl rfl) (rn_mv rfl (he97.op rfl) w83) ?_
                    intro a98 he98
                    clear he97 a97
                    refine lV (Value.bool false) he98 rfl rfl (he98.want rfl rfl rfl rfl rfl) (rn_neE rfl (he98.op rfl) (he98.op rfl) (by decide) w83) ?_
                    intro a99 he99
                    clear he98 a98
                    refine lV (Value.bool false) he99 rfl rfl (wanted_plain rfl _) (rn_pk0 rfl (he99.op rfl) (he99.op rfl) w83) ?_
                    intro a100 he100
                    clear he99 a99
                    refine lV (Value.bool false) he100 rfl rfl (wanted_plain rfl _) (rn_mv rfl (he100.op rfl) w83) ?_
                    intro a101 he101
                    clear he100 a100
                    refine lV (Value.agg #[Value.slice Ax (l.take (usedN l)).length cx, Value.bool so]) he101 rfl rfl (he101.want rfl rfl rfl rfl rfl) (rn_ldp [Value.slice Ax (l.take (usedN l)).length cx, Value.bool so] rfl (he101.op rfl) undL rfl infoL2 (hH83.at (i := 3) rfl) rfl) ?_
                    intro a102 he102
                    clear he101 a101
                    refine lC he102 rfl rfl Tryd.func13 (by kernel_rfl) rfl rfl (he102.want rfl rfl rfl rfl rfl) rfl (valid_s _ (l.take (usedN l)) so true hX w83 (SlC.own hoX) (hT.new hH83.new)) ?_
                    intro w103 a104 hn he104
                    have hH103 := hH83.call hn
                    replace hoX := own_fr hoX hn (fun _ _ h => h)
                    replace hoY := own_fr hoY hn (fun _ _ h => h)
                    replace hoZ := own_fr hoZ hn (fun _ _ h => h)
                    replace hoW := own_fr hoW hn (fun _ _ h => h)
                    clear he102 a102 hH83 hn
                    refine lV (Value.bool false) he104 rfl rfl (he104.want rfl rfl rfl rfl rfl) (rn_not (b := true) rfl (he104.op rfl) w103) ?_
                    intro a105 he105
                    clear he104 a104
                    refine lV (Value.bool false) he105 rfl rfl (wanted_plain rfl _) (rn_pk0 rfl (he105.op rfl) (he105.op rfl) w103) ?_
                    intro a106 he106
                    clear he105 a105
                    refine lV (Value.bool false) he106 rfl rfl (wanted_plain rfl _) (rn_mv rfl (he106.op rfl) w103) ?_
                    intro a107 he107
                    clear he106 a106
                    refine lV (Value.agg #[Value.slice Aw (l ++ List.replicate mo eC).length cw, Value.bool so]) he107 rfl rfl (he107.want rfl rfl rfl rfl rfl) (rn_ldp [Value.slice Aw (l ++ List.replicate mo eC).length cw, Value.bool so] rfl (he107.op rfl) undL rfl infoL2 (hH103.at (i := 0) rfl) rfl) ?_
                    intro a108 he108
                    clear he107 a107
                    refine lC he108 rfl rfl Tryd.func13 (by kernel_rfl) rfl rfl (he108.want rfl rfl rfl rfl rfl) rfl (valid_s _ (l ++ List.replicate mo eC) so true hW w103 (SlC.own hoW) (hT.new hH103.new)) ?_
                    intro w109 a110 hn he110
                    have hH109 := hH103.call hn
                    replace hoX := own_fr hoX hn (fun _ _ h => h)
                    replace hoY := own_fr hoY hn (fun _ _ h => h)
                    replace hoZ := own_fr hoZ hn (fun _ _ h => h)
                    replace hoW := own_fr hoW hn (fun _ _ h => h)
                    clear he108 a108 hH103 hn
                    refine lV (Value.bool false) he110 rfl rfl (he110.want rfl rfl rfl rfl rfl) (rn_not (b := true) rfl (he110.op rfl) w109) ?_
                    intro a111 he111
                    clear he110 a110
                    refine lV (Value.bool false) he111 rfl rfl (wanted_plain rfl _) (rn_pk0 rfl (he111.op rfl) (he111.op rfl) w109) ?_
                    intro a112 he112
                    clear he111 a111
                    refine lV (Value.bool false) he112 rfl rfl (wanted_plain rfl _) (rn_mv rfl (he112.op rfl) w109) ?_
                    intro a113 he113
                    clear he112 a112
                    refine lV (Value.agg #[Value.slice Ax (l.take (usedN l)).length cx, Value.bool so]) he113 rfl rfl (he113.want rfl rfl rfl rfl rfl) (rn_ldp [Value.slice Ax (l.take (usedN l)).length cx, Value.bool so] rfl (he113.op rfl) undL rfl infoL2 (hH109.at (i := 3) rfl) rfl) ?_
                    intro a114 he114
                    clear he113 a113
                    refine lV (Value.agg #[Value.slice Ay (l.take (usedN l)).length cy, Value.bool so]) he114 rfl rfl (he114.want rfl rfl rfl rfl rfl) (rn_ldp [Value.slice Ay (l.take (usedN l)).length cy, Value.bool so] rfl (he114.op rfl) undL rfl infoL2 (hH109.at (i := 2) rfl) rfl) ?_
                    intro a115 he115
                    clear he114 a114
                    refine lC he115 rfl rfl Tryd.func25 (by kernel_rfl) rfl rfl (he115.want rfl rfl rfl rfl rfl) rfl (same_s _ (l.take (usedN l)) so _ (l.take (usedN l)) so true (by simp) (by omega) (by omega) w109 (SlC.own hoX) (SlC.own hoY)) ?_
                    intro w116 a117 hn he117
                    have hH116 := hH109.call hn
                    replace hoX := own_fr hoX hn (fun _ _ h => h)
                    replace hoY := own_fr hoY hn (fun _ _ h => h)
                    replace hoZ := own_fr hoZ hn (fun _ _ h => h)
                    replace hoW := own_fr hoW hn (fun _ _ h => h)
                    clear he115 a115 hH109 hn
                    refine lV (Value.bool false) he117 rfl rfl (he117.want rfl rfl rfl rfl rfl) (rn_not (b := true) rfl (he117.op rfl) w116) ?_
                    intro a118 he118
                    clear he117 a117
                    refine lV (Value.bool false) he118 rfl rfl (wanted_plain rfl _) (rn_pk0 rfl (he118.op rfl) (he118.op rfl) w116) ?_
                    intro a119 he119
                    clear he118 a118
                    refine lV (Value.bool false) he119 rfl rfl (wanted_plain rfl _) (rn_mv rfl (he119.op rfl) w116) ?_
                    intro a120 he120
                    clear he119 a119
                    refine lV (Value.agg #[Value.slice Az l.length cz, Value.bool so]) he120 rfl rfl (he120.want rfl rfl rfl rfl rfl) (rn_ldp [Value.slice Az l.length cz, Value.bool so] rfl (he120.op rfl) undL rfl infoL2 (hH116.at (i := 1) rfl) rfl) ?_
                    intro a121 he121
                    clear he120 a120
                    refine lV (Value.agg #[Value.slice A l.length cap, Value.bool so]) he121 rfl rfl (he121.want rfl rfl rfl rfl rfl) (rn_ldp [Value.slice A l.length cap, Value.bool so] rfl (he121.op rfl) undL rfl infoL2 (hH116.at (i := 4) rfl) rfl) ?_
                    intro a122 he122
                    clear he121 a121
                    refine lC he122 rfl rfl Tryd.func25 (by kernel_rfl) rfl rfl (he122.want rfl rfl rfl rfl rfl) rfl (same_s _ l so _ l so true (by simp) (by omega) (by omega) w116 (SlC.own hoZ) (hx.new hH116.new)) ?_
                    intro w123 a124 hn he124
                    have hH123 := hH116.call hn
                    replace hoX := own_fr hoX hn (fun _ _ h => h)
                    replace hoY := own_fr hoY hn (fun _ _ h => h)
                    replace hoZ := own_fr hoZ hn (fun _ _ h => h)
                    replace hoW := own_fr hoW hn (fun _ _ h => h)
                    clear he122 a122 hH116 hn
                    refine lV (Value.bool false) he124 rfl rfl (he124.want rfl rfl rfl rfl rfl) (rn_not (b := true) rfl (he124.op rfl) w123) ?_
                    intro a125 he125
                    clear he124 a124
                    refine lV (Value.bool false) he125 rfl rfl (wanted_plain rfl _) (rn_pk0 rfl (he125.op rfl) (he125.op rfl) w123) ?_
                    intro a126 he126
                    clear he125 a125
                    refine lV (Value.bool false) he126 rfl rfl (wanted_plain rfl _) (rn_mv rfl (he126.op rfl) w123) ?_
                    intro a127 he127
                    clear he126 a126
                    refine lV (Value.pointer (some ⟨p81, 0, none⟩)) he127 rfl rfl (he127.want rfl rfl rfl rfl rfl) (rn_faL0 rfl (he127.op rfl) rfl w123) ?_
                    intro a128 he128
                    clear he127 a127
                    refine lV (Value.slice Aw (l ++ List.replicate mo eC).length cw) he128 rfl rfl (he128.want rfl rfl rfl rfl rfl) (rn_ldS rfl (he128.op rfl) (hH123.at (i := 0) rfl) rfl) ?_
                    intro a129 he129
                    clear he128 a128
                    refine lV (Value.int .i64 ((l ++ List.replicate mo eC).length : Nat)) he129 rfl rfl (he129.want rfl rfl rfl rfl rfl) (rn_lenC rfl (he129.op rfl) w123) ?_
                    intro a130 he130
                    clear he129 a129
                    refine lV (Value.pointer (some ⟨p1, 0, none⟩)) he130 rfl rfl (he130.want rfl rfl rfl rfl rfl) (rn_faL0 rfl (he130.op rfl) rfl w123) ?_
                    intro a131 he131
                    clear he130 a130
                    refine lV (Value.slice A l.length cap) he131 rfl rfl (he131.want rfl rfl rfl rfl rfl) (rn_ldS rfl (he131.op rfl) (hH123.at (i := 4) rfl) rfl) ?_
                    intro a132 he132
                    clear he131 a131
                    refine lV (Value.int .i64 (l.length : Nat)) he132 rfl rfl (he132.want rfl rfl rfl rfl rfl) (rn_lenC rfl (he132.op rfl) w123) ?_
                    intro a133 he133
                    clear he132 a132
                    refine lV (Value.int .u8 (mo : Int)) he133 rfl rfl (he133.want rfl rfl rfl rfl rfl) (rn_mv rfl (he133.op rfl) w123) ?_
                    intro a134 he134
                    clear he133 a133
                    refine lV (Value.int .i64 (mo : Int)) he134 rfl rfl (he134.want rfl rfl rfl rfl rfl) (rn_cv8I rfl (he134.op rfl) (IntWalk.i64_in _ ⟨by omega, by omega⟩) w123) ?_
                    intro a135 he135
                    clear he134 a134
                    refine lV (Value.int .i64 ((l.length + mo : Nat) : Int)) he135 rfl rfl (he135.want rfl rfl rfl rfl rfl) (rn_add1 rfl (he135.op rfl) (he135.op rfl) (by rw [IntWalk.i64_in _ ⟨by omega, by omega⟩]; omega) w123) ?_
                    intro a136 he136
                    clear he135 a135
                    refine lV (Value.bool false) he136 rfl rfl (he136.want rfl rfl rfl rfl rfl) (rn_neI rfl (he136.op rfl) (he136.op rfl) (by rw [hWl]; simp) w123) ?_
                    intro a137 he137
                    clear he136 a136
                    refine lV (Value.bool false) he137 rfl rfl (wanted_plain rfl _) (rn_pk0 rfl (he137.op rfl) (he137.op rfl) w123) ?_
                    intro a138 he138
                    clear he137 a137
                    refine wpList_nil ?_
                    refine then_ok ?_
                    refine wp_cond_false (he138.op rfl) ?_
                    refine wp_skip ?_
                    refine then_ok ?_
                    clear hoY hoZ
                    have he139 : Env 193 [(15, Value.pointer (some ⟨p81, 0, none⟩)), (9, Value.pointer (some ⟨p36, 0, none⟩)), (4, Value.pointer (some ⟨p1, 0, none⟩)), (1, Value.int .i64 at_), (2, Value.slice D d.length cd)] a138 := he138.mem ⟨rfl, rfl, rfl, rfl, rfl, trivial⟩
                    clear he138
                    as_aux_lemma =>
                      refine wp_seq ?_
                      refine wp_seq ?_
                      refine wp_region_held_drew (S := Hp w [⟨p81, 27, #[Value.slice Aw (l ++ List.replicate mo eC).length cw, Value.bool so]⟩, ⟨p63, 27, #[Value.slice Az l.length cz, Value.bool so]⟩, ⟨p48, 27, #[Value.slice Ay (l.take (usedN l)).length cy, Value.bool so]⟩, ⟨p36, 27, #[Value.slice Ax (l.take (usedN l)).length cx, Value.bool so]⟩, ⟨p1, 27, #[Value.slice A l.length cap, Value.bool so]⟩]) (by kernel_rfl) (hH123.drew) (fun _ => ?_)
                      have hn : New w123 (World.drew w123) := (Fr.refl _ _).drew
                      replace hoX := own_fr hoX hn (fun _ _ h => h)
                      replace hoW := own_fr hoW hn (fun _ _ h => h)
                      clear hn
                      have hH140 := hH123.drew
                      clear hH123
                      generalize World.drew w123 = w140 at *
                      refine hV (fuel := 19) (i := 0) (Value.agg #[Value.slice Ax (l.take (usedN l)).length cx, Value.bool so]) he139 rfl rfl rfl (by kernel_rfl) (by kernel_rfl) (by kernel_rfl) (fun _ _ _ h => h) (wanted_plain rfl _) (fun w' hw' => rn_ldp [Value.slice Ax (l.take (usedN l)).length cx, Value.bool so] rfl (he139.op rfl) undL rfl infoL2 (hw'.at (i := 3) rfl) rfl) hH140 ?_
                      intro a141 he141
                      clear he139 a138
                      refine hV (fuel := 18) (i := 2) (Value.agg #[Value.slice A l.length cap, Value.bool so]) he141 rfl rfl rfl (by kernel_rfl) (by kernel_rfl) (by kernel_rfl) (fun _ _ _ h => h) (wanted_plain rfl _) (fun w' hw' => rn_ldp [Value.slice A l.length cap, Value.bool so] rfl (he141.op rfl) undL rfl infoL2 (hw'.at (i := 4) rfl) rfl) hH140 ?_
                      intro a142 he142
                      clear he141 a141
                      refine hC (fuel := 17) (i := 1) he142 (by kernel_rfl) rfl rfl rfl Tryd.func22 (by kernel_rfl) rfl rfl (wanted_plain rfl _) rfl (text_s _ (l.take (usedN l)) so t tX (by omega) w140 (SlC.own hoX)) ?_
                      rintro _ w143 ⟨rfl, hn⟩
                      have hH143 := hH140.call hn
                      replace hoX := own_fr hoX hn (fun _ _ h => h)
                      replace hoW := own_fr hoW hn (fun _ _ h => h)
                      refine ⟨_, rfl, hH143, ?_⟩
                      intro a144 he144
                      clear he142 a142 hH140 hn
                      refine hC (fuel := 16) (i := 3) he144 (by kernel_rfl) rfl rfl rfl Tryd.func22 (by kernel_rfl) rfl rfl (wanted_plain rfl _) rfl (text_s _ l so t ht (by omega) w143 (hx.new hH143.new)) ?_
                      rintro _ w145 ⟨rfl, hn⟩
                      have hH145 := hH143.call hn
                      replace hoX := own_fr hoX hn (fun _ _ h => h)
                      replace hoW := own_fr hoW hn (fun _ _ h => h)
                      refine ⟨_, rfl, hH145, ?_⟩
                      intro a146 he146
                      clear he144 a144 hH143 hn
                      refine hV (fuel := 15) (i := 4) (Value.bool false) he146 rfl rfl rfl (by kernel_rfl) (by kernel_rfl) (by kernel_rfl) (fun _ _ _ h => h) (wanted_plain rfl _) (fun w' _ => rn_neq rfl (he146.op rfl) (he146.op rfl) w') hH145 ?_
                      intro a147 he147
                      clear he146 a146
                      refine hV (fuel := 14) (i := 5) (Value.bool false) he147 rfl rfl rfl (by kernel_rfl) (by kernel_rfl) (by kernel_rfl) (fun _ _ _ h => h) (wanted_plain rfl _) (fun w' _ => rn_mv rfl (he147.op rfl) w') hH145 ?_
                      intro a148 he148
                      clear he147 a147
                      refine hV (fuel := 13) (i := 6) (Value.agg #[Value.slice Aw (l ++ List.replicate mo eC).length cw, Value.bool so]) he148 rfl rfl rfl (by kernel_rfl) (by kernel_rfl) (by kernel_rfl) (fun _ _ _ h => h) (he148.want rfl rfl rfl rfl rfl) (fun w' hw' => rn_ldp [Value.slice Aw (l ++ List.replicate mo eC).length cw, Value.bool so] rfl (he148.op rfl) undL rfl infoL2 (hw'.at (i := 0) rfl) rfl) hH145 ?_
                      intro a149 he149
                      clear he148 a148
                      refine hV (fuel := 12) (i := 8) (Value.agg #[Value.slice A l.length cap, Value.bool so]) he149 rfl rfl rfl (by kernel_rfl) (by kernel_rfl) (by kernel_rfl) (fun _ _ _ h => h) (he149.want rfl rfl rfl rfl rfl) (fun w' hw' => rn_ldp [Value.slice A l.length cap, Value.bool so] rfl (he149.op rfl) undL rfl infoL2 (hw'.at (i := 4) rfl) rfl) hH145 ?_
                      intro a150 he150
                      clear he149 a149
                      refine hC (fuel := 11) (i := 7) he150 (by kernel_rfl) rfl rfl rfl Tryd.func22 (by kernel_rfl) rfl rfl (he150.want rfl rfl rfl rfl rfl) rfl (text_s _ (l ++ List.replicate mo eC) so t tW (by omega) w145 (SlC.own hoW)) ?_
                      rintro _ w151 ⟨rfl, hn⟩
                      have hH151 := hH145.call hn
                      replace hoX := own_fr hoX hn (fun _ _ h => h)
                      replace hoW := own_fr hoW hn (fun _ _ h => h)
                      refine ⟨_, rfl, hH151, ?_⟩
                      intro a152 he152
                      clear he150 a150 hH145 hn
                      refine hC (fuel := 10) (i := 9) he152 (by kernel_rfl) rfl rfl rfl Tryd.func22 (by kernel_rfl) rfl rfl (he152.want rfl rfl rfl rfl rfl) rfl (text_s _ l so t ht (by omega) w151 (hx.new hH151.new)) ?_
                      rintro _ w153 ⟨rfl, hn⟩
                      have hH153 := hH151.call hn
                      replace hoX := own_fr hoX hn (fun _ _ h => h)
                      replace hoW := own_fr hoW hn (fun _ _ h => h)
                      refine ⟨_, rfl, hH153, ?_⟩
                      intro a154 he154
                      clear he152 a152 hH151 hn
                      refine hV (fuel := 9) (i := 10) (Value.bool false) he154 rfl rfl rfl (by kernel_rfl) (by kernel_rfl) (by kernel_rfl) (fun _ _ _ h => h) (he154.want rfl rfl rfl rfl rfl) (fun w' _ => rn_neq rfl (he154.op rfl) (he154.op rfl) w') hH153 ?_
                      intro a155 he155
                      clear he154 a154
                      refine hV (fuel := 8) (i := 11) (Value.bool false) he155 rfl rfl rfl (by kernel_rfl) (by kernel_rfl) (by kernel_rfl) (fun _ _ _ h => h) (wanted_plain rfl _) (fun w' _ => rn_pk0 rfl (he155.op rfl) (he155.op rfl) w') hH153 ?_
                      intro a156 he156
                      clear he155 a155
                      refine hV (fuel := 7) (i := 12) (Value.bool false) he156 rfl rfl rfl (by kernel_rfl) (by kernel_rfl) (by kernel_rfl) (fun _ _ _ h => h) (wanted_plain rfl _) (fun w' _ => rn_mv rfl (he156.op rfl) w') hH153 ?_
                      intro a157 he157
                      clear he156 a156
                      refine hV (fuel := 6) (i := 13) (Value.agg #[Value.slice A l.length cap, Value.bool so]) he157 rfl rfl rfl (by kernel_rfl) (by kernel_rfl) (by kernel_rfl) (fun _ _ _ h => h) (he157.want rfl rfl rfl rfl rfl) (fun w' hw' => rn_ldp [Value.slice A l.length cap, Value.bool so] rfl (he157.op rfl) undL rfl infoL2 (hw'.at (i := 4) rfl) rfl) hH153 ?_
                      intro a158 he158
                      clear he157 a157
                      refine hV (fuel := 5) (i := 15) (Value.pointer (some ⟨p36, 0, none⟩)) he158 rfl rfl rfl (by kernel_rfl) (by kernel_rfl) (by kernel_rfl) (fun _ _ _ h => h) (he158.want rfl rfl rfl rfl rfl) (fun w' _ => rn_faL0 rfl (he158.op rfl) rfl w') hH153 ?_
                      intro a159 he159
                      clear he158 a158
                      refine hV (fuel := 4) (i := 16) (Value.slice Ax (l.take (usedN l)).length cx) he159 rfl rfl rfl (by kernel_rfl) (by kernel_rfl) (by kernel_rfl) (fun _ _ _ h => h) (he159.want rfl rfl rfl rfl rfl) (fun w' hw' => rn_ldS rfl (he159.op rfl) (hw'.at (i := 3) rfl) rfl) hH153 ?_
                      intro a160 he160
                      clear he159 a159
                      refine hV (fuel := 3) (i := 17) (Value.int .i64 ((l.take (usedN l)).length : Nat)) he160 rfl rfl rfl (by kernel_rfl) (by kernel_rfl) (by kernel_rfl) (fun _ _ _ h => h) (he160.want rfl rfl rfl rfl rfl) (fun w' _ => rn_lenC rfl (he160.op rfl) w') hH153 ?_
                      intro a161 he161
                      clear he160 a160
                      refine hC (fuel := 2) (i := 14) he161 (by kernel_rfl) rfl rfl rfl Tryd.func20 (by kernel_rfl) rfl rfl (he161.want rfl rfl rfl rfl rfl) rfl (used_s _ l so _ rfl (by omega) w153 (hx.new hH153.new)) ?_
                      rintro _ w162 ⟨rfl, hn⟩
                      have hH162 := hH153.call hn
                      replace hoX := own_fr hoX hn (fun _ _ h => h)
                      replace hoW := own_fr hoW hn (fun _ _ h => h)
                      refine ⟨_, rfl, hH162, ?_⟩
                      intro a163 he163
                      clear he161 a161 hH153 hn
                      refine hV (fuel := 1) (i := 18) (Value.bool false) he163 rfl rfl rfl (by kernel_rfl) (by kernel_rfl) (by kernel_rfl) (fun _ _ _ h => h) (he163.want rfl rfl rfl rfl rfl) (fun w' _ => rn_neI rfl (he163.op rfl) (he163.op rfl) (by rw [hcl]; simp) w') hH162 ?_
                      intro a164 he164
                      clear he163 a163
                      refine hV (fuel := 0) (i := 19) (Value.bool false) he164 rfl rfl rfl (by kernel_rfl) (by kernel_rfl) (by kernel_rfl) (fun _ _ _ h => h) (wanted_plain rfl _) (fun w' _ => rn_pk0 rfl (he164.op rfl) (he164.op rfl) w') hH162 ?_
                      intro a165 he165
                      clear he164 a164
                      refine wpAnyH_done (by kernel_rfl) ?_ _
                      refine then_ok ?_
                      refine wp_cond_false (he165.op rfl) ?_
                      refine wp_skip ?_
                      refine then_ok ?_
                      clear hoX hoW
                      have he166 : Env 193 [(4, Value.pointer (some ⟨p1, 0, none⟩)), (1, Value.int .i64 at_), (2, Value.slice D d.length cd)] a165 := he165.mem ⟨rfl, rfl, rfl, trivial⟩
                      clear he165
                      as_aux_lemma =>
                        obtain ⟨u, hu⟩ : ∃ u, rowB d = u := ⟨_, rfl⟩
                        cases u with
                        | false =>
                          have hp : putR l so at_ d = ⟨[], false, 2⟩ := putR_bad1 hu
                          refine wp_seq ?_
                          refine wp_region_lit ?_
                          refine lV (Value.agg #[Value.slice A l.length cap, Value.bool so]) he166 rfl rfl (wanted_plain rfl _) (rn_ldp [Value.slice A l.length cap, Value.bool so] rfl (he166.op rfl) undL rfl infoL2 (hH162.at (i := 4) rfl) rfl) ?_
                          intro a167 he167
                          clear he166 a165
                          refine lV (Value.int .i64 at_) he167 rfl rfl (wanted_plain rfl _) (rn_mv rfl (he167.op rfl) w162) ?_
                          intro a168 he168
                          clear he167 a167
                          refine lV (Value.slice D d.length cd) he168 rfl rfl (wanted_plain rfl _) (rn_mv rfl (he168.op rfl) w162) ?_
                          intro a169 he169
                          clear he168 a168
                          have hzhoP := hH162.new.size
                          refine lCx he169 rfl rfl Tryd.func35 (by kernel_rfl) rfl rfl (wanted_plain rfl _) rfl (Calls.mono (put_l _ l so at_ h0 h9 _ d (by omega) w162 (hx.new hH162.new) (hz.new hH162.new) (hT.new hH162.new)) (fun _ _ h => le_to h hp)) ?_
                          rintro _ w170 ⟨⟨Ap, cp, rfl, hoP⟩, hn⟩
                          replace hoP := own_base hoP (fun k_ hk_ => Nat.le_trans hzhoP (own_blk hoP k_ hk_))
                          clear hzhoP
                          refine ⟨_, rfl, ?_⟩
                          intro a171 he171
                          have hH170 := hH162.call hn
                          clear he169 a169 hH162
                          clear hn
                          refine lV (Value.tuple #[Value.agg #[Value.slice Ap ([]).length cp, Value.bool false], Value.int .i64 2]) he171 rfl rfl (wanted_plain rfl _) (rn_mv rfl (he171.op rfl) w170) ?_
                          intro a172 he172
                          clear he171 a171
                          refine lV (Value.agg #[Value.slice Ap ([]).length cp, Value.bool false]) he172 rfl rfl (wanted_plain rfl _) (rn_ext rfl (he172.op rfl) rfl w170) ?_
                          intro a173 he173
                          clear he172 a172
                          refine lV (Value.int .i64 2) he173 rfl rfl (wanted_plain rfl _) (rn_ext rfl (he173.op rfl) rfl w170) ?_
                          intro a174 he174
                          clear he173 a173
                          refine lNew (fun p => .pointer (some ⟨p, 0, none⟩)) he174 hH170 rfl rfl (wanted_plain rfl _) (rn_allocL rfl w170) ?_
                          intro p175 w175 a176 hn hH175 he176
                          replace hoP := own_fr hoP hn (fun _ _ h => h)
                          clear he174 a174 hH170 hn
                          refine lSetF 0 #[Value.slice Ap ([]).length cp, Value.bool false] (cs := #[Value.slice Ap ([]).length cp, Value.bool false]) he176 hH175 rfl (wanted_plain rfl _) rfl rfl rfl rfl rfl (by kernel_rfl) (by kernel_rfl) (by kernel_rfl) rfl ?_
                          intro w177 a178 hH177 hf he178
                          replace hoP := own_fr hoP hf (fun k_ hk_ e_ => own_far hoP (hH175.at (i := 0) rfl) (show 60 ≠ 27 from by decide) (hk_.trans (congrArg some e_)))
                          replace hH177 : Hp w [⟨p175, 27, #[Value.slice Ap ([]).length cp, Value.bool false]⟩, ⟨p81, 27, #[Value.slice Aw (l ++ List.replicate mo eC).length cw, Value.bool so]⟩, ⟨p63, 27, #[Value.slice Az l.length cz, Value.bool so]⟩, ⟨p48, 27, #[Value.slice Ay (l.take (usedN l)).length cy, Value.bool so]⟩, ⟨p36, 27, #[Value.slice Ax (l.take (usedN l)).length cx, Value.bool so]⟩, ⟨p1, 27, #[Value.slice A l.length cap, Value.bool so]⟩] w177 := hH177
                          clear hf
                          clear he176 a176 hH175
                          refine lV (Value.int .i64 2) he178 rfl rfl (wanted_plain rfl _) (rn_asg rfl (he178.op rfl) w177) ?_
                          intro a179 he179
                          clear he178 a178
                          refine wpList_nil ?_
                          refine then_ok ?_
                          have he180 : Env 193 [(10, Value.int .i64 2), (17, Value.pointer (some ⟨p175, 0, none⟩)), (4, Value.pointer (some ⟨p1, 0, none⟩)), (1, Value.int .i64 at_), (2, Value.slice D d.length cd)] a179 := he179.mem ⟨rfl, rfl, rfl, rfl, rfl, trivial⟩
                          clear he179
                          as_aux_lemma =>
                            refine wp_seq ?_
                            refine wp_seq ?_
                            refine wp_region_lit ?_
                            refine lV (Value.int .i64 2) he180 rfl rfl (wanted_plain rfl _) (rn_mv rfl (he180.op rfl) w177) ?_
                            intro a181 he181
                            clear he180 a179
                            refine lV (Value.bool true) he181 rfl rfl (wanted_plain rfl _) (rn_neE rfl (he181.op rfl) (he181.op rfl) (by decide) w177) ?_
                            intro a182 he182
                            clear he181 a181
                            refine wpList_nil ?_
                            refine then_ok ?_
                            refine wp_cond_true (he182.op rfl) ?_
                            refine wp_seq ?_
                            refine wp_region_lit ?_
                            refine lV (Value.agg #[Value.slice Ap ([]).length cp, Value.bool false]) he182 rfl rfl (wanted_plain rfl _) (rn_ldp [Value.slice Ap ([]).length cp, Value.bool false] rfl (he182.op rfl) undL rfl infoL2 (hH177.at (i := 0) rfl) rfl) ?_
                            intro a183 he183
                            clear he182 a182
                            refine lV (Value.agg #[Value.slice none 0 0, Value.bool false]) he183 rfl rfl (wanted_plain rfl _) (rn_bL rfl  w177) ?_
                            intro a184 he184
                            clear he183 a183
                            refine lC he184 rfl rfl Tryd.func25 (by kernel_rfl) rfl rfl (wanted_plain rfl _) rfl (same_s _ [] false _ [] false true rfl (by decide) (by decide) w177 (SlC.own hoP) (SlC.nil _)) ?_
                            intro w185 a186 hn he186
                            have hH185 := hH177.call hn
                            replace hoP := own_fr hoP hn (fun _ _ h => h)
                            clear he184 a184 hH177 hn
                            refine lV (Value.bool true) he186 rfl rfl (wanted_plain rfl _) (rn_mv rfl (he186.op rfl) w185) ?_
                            intro a187 he187
                            clear he186 a186
                            refine lC he187 rfl rfl Tryd.func9 (by kernel_rfl) rfl rfl (he187.want rfl rfl rfl rfl rfl) rfl (known_any w185 (hT.new hH185.new)) ?_
                            intro w188 a189 hn he189
                            have hH188 := hH185.call hn
                            replace hoP := own_fr hoP hn (fun _ _ h => h)
                            clear he187 a187 hH185 hn
                            refine lV (Value.bool true) he189 rfl rfl (wanted_plain rfl _) (rn_pk rfl (he189.op rfl) (he189.op rfl) w188) ?_
                            intro a190 he190
                            clear he189 a189
                            refine lV (Value.bool true) he190 rfl rfl (wanted_plain rfl _) (rn_asg rfl (he190.op rfl) w188) ?_
                            intro a191 he191
                            clear he190 a190
                            refine wpList_nil ?_
                            refine then_ok ?_
                            refine wp_ret ?_
                            try simp only [Exit.then, Exit.inBlock]
                            exact ret_env rfl he191 rfl ⟨rfl, hH188.new.new_below⟩
                        | true =>
                          cases hk : (decide (0 ≤ at_) && decide (at_ + d.length ≤ l.length)) with
                          | false =>
                            have hp : putR l so at_ d = ⟨[], false, 3⟩ := putR_bad2 hv hu hk
                            refine wp_seq ?_
                            refine wp_region_lit ?_
                            refine lV (Value.agg #[Value.slice A l.length cap, Value.bool so]) he166 rfl rfl (wanted_plain rfl _) (rn_ldp [Value.slice A l.length cap, Value.bool so] rfl (he166.op rfl) undL rfl infoL2 (hH162.at (i := 4) rfl) rfl) ?_
                            intro a192 he192
                            clear he166 a165
                            refine lV (Value.int .i64 at_) he192 rfl rfl (wanted_plain rfl _) (rn_mv rfl (he192.op rfl) w162) ?_
                            intro a193 he193
                            clear he192 a192
                            refine lV (Value.slice D d.length cd) he193 rfl rfl (wanted_plain rfl _) (rn_mv rfl (he193.op rfl) w162) ?_
                            intro a194 he194
                            clear he193 a193
                            have hzhoP := hH162.new.size
                            refine lCx he194 rfl rfl Tryd.func35 (by kernel_rfl) rfl rfl (wanted_plain rfl _) rfl (Calls.mono (put_l _ l so at_ h0 h9 _ d (by omega) w162 (hx.new hH162.new) (hz.new hH162.new) (hT.new hH162.new)) (fun _ _ h => le_to h hp)) ?_
                            rintro _ w195 ⟨⟨Ap, cp, rfl, hoP⟩, hn⟩
                            replace hoP := own_base hoP (fun k_ hk_ => Nat.le_trans hzhoP (own_blk hoP k_ hk_))
                            clear hzhoP
                            refine ⟨_, rfl, ?_⟩
                            intro a196 he196
                            have hH195 := hH162.call hn
                            clear he194 a194 hH162
                            clear hn
                            refine lV (Value.tuple #[Value.agg #[Value.slice Ap ([]).length cp, Value.bool false], Value.int .i64 3]) he196 rfl rfl (wanted_plain rfl _) (rn_mv rfl (he196.op rfl) w195) ?_
                            intro a197 he197
                            clear he196 a196
                            refine lV (Value.agg #[Value.slice Ap ([]).length cp, Value.bool false]) he197 rfl rfl (wanted_plain rfl _) (rn_ext rfl (he197.op rfl) rfl w195) ?_
                            intro a198 he198
                            clear he197 a197
                            refine lV (Value.int .i64 3) he198 rfl rfl (wanted_plain rfl _) (rn_ext rfl (he198.op rfl) rfl w195) ?_
                            intro a199 he199
                            clear he198 a198
                            refine lNew (fun p => .pointer (some ⟨p, 0, none⟩)) he199 hH195 rfl rfl (wanted_plain rfl _) (rn_allocL rfl w195) ?_
                            intro p200 w200 a201 hn hH200 he201
                            replace hoP := own_fr hoP hn (fun _ _ h => h)
                            clear he199 a199 hH195 hn
                            refine lSetF 0 #[Value.slice Ap ([]).length cp, Value.bool false] (cs := #[Value.slice Ap ([]).length cp, Value.bool false]) he201 hH200 rfl (wanted_plain rfl _) rfl rfl rfl rfl rfl (by kernel_rfl) (by kernel_rfl) (by kernel_rfl) rfl ?_
                            intro w202 a203 hH202 hf he203
                            replace hoP := own_fr hoP hf (fun k_ hk_ e_ => own_far hoP (hH200.at (i := 0) rfl) (show 60 ≠ 27 from by decide) (hk_.trans (congrArg some e_)))
                            replace hH202 : Hp w [⟨p200, 27, #[Value.slice Ap ([]).length cp, Value.bool false]⟩, ⟨p81, 27, #[Value.slice Aw (l ++ List.replicate mo eC).length cw, Value.bool so]⟩, ⟨p63, 27, #[Value.slice Az l.length cz, Value.bool so]⟩, ⟨p48, 27, #[Value.slice Ay (l.take (usedN l)).length cy, Value.bool so]⟩, ⟨p36, 27, #[Value.slice Ax (l.take (usedN l)).length cx, Value.bool so]⟩, ⟨p1, 27, #[Value.slice A l.length cap, Value.bool so]⟩] w202 := hH202
                            clear hf
                            clear he201 a201 hH200
                            refine lV (Value.int .i64 3) he203 rfl rfl (wanted_plain rfl _) (rn_asg rfl (he203.op rfl) w202) ?_
                            intro a204 he204
                            clear he203 a203
                            refine wpList_nil ?_
                            refine then_ok ?_
                            have he205 : Env 193 [(10, Value.int .i64 3), (17, Value.pointer (some ⟨p200, 0, none⟩)), (4, Value.pointer (some ⟨p1, 0, none⟩)), (1, Value.int .i64 at_), (2, Value.slice D d.length cd)] a204 := he204.mem ⟨rfl, rfl, rfl, rfl, rfl, trivial⟩
                            clear he204
                            as_aux_lemma =>
                              refine wp_seq ?_
                              refine wp_seq ?_
                              refine wp_region_lit ?_
                              refine lV (Value.int .i64 3) he205 rfl rfl (wanted_plain rfl _) (rn_mv rfl (he205.op rfl) w202) ?_
                              intro a206 he206
                              clear he205 a204
                              refine lV (Value.bool true) he206 rfl rfl (wanted_plain rfl _) (rn_neE rfl (he206.op rfl) (he206.op rfl) (by decide) w202) ?_
                              intro a207 he207
                              clear he206 a206
                              refine wpList_nil ?_
                              refine then_ok ?_
                              refine wp_cond_true (he207.op rfl) ?_
                              refine wp_seq ?_
                              refine wp_region_lit ?_
                              refine lV (Value.agg #[Value.slice Ap ([]).length cp, Value.bool false]) he207 rfl rfl (wanted_plain rfl _) (rn_ldp [Value.slice Ap ([]).length cp, Value.bool false] rfl (he207.op rfl) undL rfl infoL2 (hH202.at (i := 0) rfl) rfl) ?_
                              intro a208 he208
                              clear he207 a207
                              refine lV (Value.agg #[Value.slice none 0 0, Value.bool false]) he208 rfl rfl (wanted_plain rfl _) (rn_bL rfl  w202) ?_
                              intro a209 he209
                              clear he208 a208
                              refine lC he209 rfl rfl Tryd.func25 (by kernel_rfl) rfl rfl (wanted_plain rfl _) rfl (same_s _ [] false _ [] false true rfl (by decide) (by decide) w202 (SlC.own hoP) (SlC.nil _)) ?_
                              intro w210 a211 hn he211
                              have hH210 := hH202.call hn
                              replace hoP := own_fr hoP hn (fun _ _ h => h)
                              clear he209 a209 hH202 hn
                              refine lV (Value.bool true) he211 rfl rfl (wanted_plain rfl _) (rn_mv rfl (he211.op rfl) w210) ?_
                              intro a212 he212
                              clear he211 a211
                              refine lC he212 rfl rfl Tryd.func9 (by kernel_rfl) rfl rfl (he212.want rfl rfl rfl rfl rfl) rfl (known_any w210 (hT.new hH210.new)) ?_
                              intro w213 a214 hn he214
                              have hH213 := hH210.call hn
                              replace hoP := own_fr hoP hn (fun _ _ h => h)
                              clear he212 a212 hH210 hn
                              refine lV (Value.bool true) he214 rfl rfl (wanted_plain rfl _) (rn_pk rfl (he214.op rfl) (he214.op rfl) w213) ?_
                              intro a215 he215
                              clear he214 a214
                              refine lV (Value.bool true) he215 rfl rfl (wanted_plain rfl _) (rn_asg rfl (he215.op rfl) w213) ?_
                              intro a216 he216
                              clear he215 a215
                              refine wpList_nil ?_
                              refine then_ok ?_
                              refine wp_ret ?_
                              try simp only [Exit.then, Exit.inBlock]
                              exact ret_env rfl he216 rfl ⟨rfl, hH213.new.new_below⟩
                          | true =>
                            simp only [Bool.and_eq_true, decide_eq_true_eq] at hk
                            obtain ⟨k, rfl⟩ : ∃ k : Nat, at_ = k := ⟨at_.toNat, by omega⟩
                            have hkd : k + d.length ≤ l.length := by omega
                            refine wp_seq ?_
                            refine wp_region_lit ?_
                            refine lV (Value.agg #[Value.slice A l.length cap, Value.bool so]) he166 rfl rfl (wanted_plain rfl _) (rn_ldp [Value.slice A l.length cap, Value.bool so] rfl (he166.op rfl) undL rfl infoL2 (hH162.at (i := 4) rfl) rfl) ?_
                            intro a217 he217
                            clear he166 a165
                            refine lV (Value.int .i64 (k : Int)) he217 rfl rfl (wanted_plain rfl _) (rn_mv rfl (he217.op rfl) w162) ?_
                            intro a218 he218
                            clear he217 a217
                            refine lV (Value.slice D d.length cd) he218 rfl rfl (wanted_plain rfl _) (rn_mv rfl (he218.op rfl) w162) ?_
                            intro a219 he219
                            clear he218 a218
                            have hzhoP := hH162.new.size
                            refine lCx he219 rfl rfl Tryd.func35 (by kernel_rfl) rfl rfl (wanted_plain rfl _) rfl (Calls.mono (put_l _ l so k h0 h9 _ d (by omega) w162 (hx.new hH162.new) (hz.new hH162.new) (hT.new hH162.new)) (fun _ _ h => le_to h (putR_good hv hu hkd))) ?_
                            rintro _ w220 ⟨⟨Ap, cp, rfl, hoP⟩, hn⟩
                            replace hoP := own_base hoP (fun k_ hk_ => Nat.le_trans hzhoP (own_blk hoP k_ hk_))
                            clear hzhoP
                            refine ⟨_, rfl, ?_⟩
                            intro a221 he221
                            have hH220 := hH162.call hn
                            clear he219 a219 hH162
                            clear hn
                            refine lV (Value.tuple #[Value.agg #[Value.slice Ap (putL l k d).length cp, Value.bool so], Value.int .i64 0]) he221 rfl rfl (wanted_plain rfl _) (rn_mv rfl (he221.op rfl) w220) ?_
                            intro a222 he222
                            clear he221 a221
                            refine lV (Value.agg #[Value.slice Ap (putL l k d).length cp, Value.bool so]) he222 rfl rfl (wanted_plain rfl _) (rn_ext rfl (he222.op rfl) rfl w220) ?_
                            intro a223 he223
                            clear he222 a222
                            refine lV (Value.int .i64 0) he223 rfl rfl (wanted_plain rfl _) (rn_ext rfl (he223.op rfl) rfl w220) ?_
                            intro a224 he224
                            clear he223 a223
                            refine lNew (fun p => .pointer (some ⟨p, 0, none⟩)) he224 hH220 rfl rfl (wanted_plain rfl _) (rn_allocL rfl w220) ?_
                            intro p225 w225 a226 hn hH225 he226
                            replace hoP := own_fr hoP hn (fun _ _ h => h)
                            clear he224 a224 hH220 hn
                            refine lSetF 0 #[Value.slice Ap (putL l k d).length cp, Value.bool so] (cs := #[Value.slice Ap (putL l k d).length cp, Value.bool so]) he226 hH225 rfl (wanted_plain rfl _) rfl rfl rfl rfl rfl (by kernel_rfl) (by kernel_rfl) (by kernel_rfl) rfl ?_
                            intro w227 a228 hH227 hf he228
                            replace hoP := own_fr hoP hf (fun k_ hk_ e_ => own_far hoP (hH225.at (i := 0) rfl) (show 60 ≠ 27 from by decide) (hk_.trans (congrArg some e_)))
                            replace hH227 : Hp w [⟨p225, 27, #[Value.slice Ap (putL l k d).length cp, Value.bool so]⟩, ⟨p81, 27, #[Value.slice Aw (l ++ List.replicate mo eC).length cw, Value.bool so]⟩, ⟨p63, 27, #[Value.slice Az l.length cz, Value.bool so]⟩, ⟨p48, 27, #[Value.slice Ay (l.take (usedN l)).length cy, Value.bool so]⟩, ⟨p36, 27, #[Value.slice Ax (l.take (usedN l)).length cx, Value.bool so]⟩, ⟨p1, 27, #[Value.slice A l.length cap, Value.bool so]⟩] w227 := hH227
                            clear hf
                            clear he226 a226 hH225
                            refine lV (Value.int .i64 0) he228 rfl rfl (wanted_plain rfl _) (rn_asg rfl (he228.op rfl) w227) ?_
                            intro a229 he229
                            clear he228 a228
                            refine wpList_nil ?_
                            refine then_ok ?_
                            have he230 : Env 193 [(10, Value.int .i64 0), (17, Value.pointer (some ⟨p225, 0, none⟩)), (4, Value.pointer (some ⟨p1, 0, none⟩)), (1, Value.int .i64 (k : Int)), (2, Value.slice D d.length cd)] a229 := he229.mem ⟨rfl, rfl, rfl, rfl, rfl, trivial⟩
                            clear he229
                            as_aux_lemma =>
                              have hpl : (putL l k d).length = l.length := putL_len hkd
                              have hpo : okL (putL l k d) = true := okL_mk (by omega) (putL_row hrow hu)
                              refine wp_seq ?_
                              refine wp_seq ?_
                              refine wp_region_lit ?_
                              refine lV (Value.int .i64 0) he230 rfl rfl (wanted_plain rfl _) (rn_mv rfl (he230.op rfl) w227) ?_
                              intro a231 he231
                              clear he230 a229
                              refine lV (Value.bool false) he231 rfl rfl (wanted_plain rfl _) (rn_neE rfl (he231.op rfl) (he231.op rfl) (by decide) w227) ?_
                              intro a232 he232
                              clear he231 a231
                              refine wpList_nil ?_
                              refine then_ok ?_
                              refine wp_cond_false (he232.op rfl) ?_
                              refine wp_skip ?_
                              refine then_ok ?_
                              refine wp_seq ?_
                              refine wp_seq ?_
                              refine wp_region_lit ?_
                              refine lV (Value.int .i64 (k : Int)) he232 rfl rfl (wanted_plain rfl _) (rn_mv rfl (he232.op rfl) w227) ?_
                              intro a233 he233
                              clear he232 a232
                              refine lV (Value.bool false) he233 rfl rfl (wanted_plain rfl _) (rn_lss rfl (he233.op rfl) (he233.op rfl) (decide_eq_false (by omega)) w227) ?_
                              intro a234 he234
                              clear he233 a233
                              refine lV (Value.bool false) he234 rfl rfl (wanted_plain rfl _) (rn_mv rfl (he234.op rfl) w227) ?_
                              intro a235 he235
                              clear he234 a234
                              refine lV (Value.pointer (some ⟨p225, 0, none⟩)) he235 rfl rfl (he235.want rfl rfl rfl rfl rfl) (rn_faL0 rfl (he235.op rfl) rfl w227) ?_
                              intro a236 he236
                              clear he235 a235
                              refine lV (Value.slice Ap (putL l k d).length cp) he236 rfl rfl (he236.want rfl rfl rfl rfl rfl) (rn_ldS rfl (he236.op rfl) (hH227.at (i := 0) rfl) rfl) ?_
                              intro a237 he237
                              clear he236 a236
                              refine lV (Value.int .i64 ((putL l k d).length : Nat)) he237 rfl rfl (he237.want rfl rfl rfl rfl rfl) (rn_lenC rfl (he237.op rfl) w227) ?_
                              intro a238 he238
                              clear he237 a237
                              refine lV (Value.pointer (some ⟨p1, 0, none⟩)) he238 rfl rfl (he238.want rfl rfl rfl rfl rfl) (rn_faL0 rfl (he238.op rfl) rfl w227) ?_
                              intro a239 he239
                              clear he238 a238
                              refine lV (Value.slice A l.length cap) he239 rfl rfl (he239.want rfl rfl rfl rfl rfl) (rn_ldS rfl (he239.op rfl) (hH227.at (i := 5) rfl) rfl) ?_
                              intro a240 he240
                              clear he239 a239
                              refine lV (Value.int .i64 (l.length : Nat)) he240 rfl rfl (he240.want rfl rfl rfl rfl rfl) (rn_lenC rfl (he240.op rfl) w227) ?_
                              intro a241 he241
                              clear he240 a240
                              refine lV (Value.bool false) he241 rfl rfl (he241.want rfl rfl rfl rfl rfl) (rn_neI rfl (he241.op rfl) (he241.op rfl) (by rw [hpl]; simp) w227) ?_
                              intro a242 he242
                              clear he241 a241
                              refine lV (Value.bool false) he242 rfl rfl (wanted_plain rfl _) (rn_pk0 rfl (he242.op rfl) (he242.op rfl) w227) ?_
                              intro a243 he243
                              clear he242 a242
                              refine lV (Value.bool false) he243 rfl rfl (wanted_plain rfl _) (rn_mv rfl (he243.op rfl) w227) ?_
                              intro a244 he244
                              clear he243 a243
                              refine lV (Value.int .i64 (k : Int)) he244 rfl rfl (he244.want rfl rfl rfl rfl rfl) (rn_mv rfl (he244.op rfl) w227) ?_
                              intro a245 he245
                              clear he244 a244
                              refine lV (Value.pointer (some ⟨p225, 0, none⟩)) he245 rfl rfl (he245.want rfl rfl rfl rfl rfl) (rn_faL0 rfl (he245.op rfl) rfl w227) ?_
                              intro a246 he246
                              clear he245 a245
                              refine lV (Value.slice Ap (putL l k d).length cp) he246 rfl rfl (he246.want rfl rfl rfl rfl rfl) (rn_ldS rfl (he246.op rfl) (hH227.at (i := 0) rfl) rfl) ?_
                              intro a247 he247
                              clear he246 a246
                              refine lV (Value.int .i64 ((putL l k d).length : Nat)) he247 rfl rfl (he247.want rfl rfl rfl rfl rfl) (rn_lenC rfl (he247.op rfl) w227) ?_
                              intro a248 he248
                              clear he247 a247
                              refine lV (Value.slice D d.length cd) he248 rfl rfl (he248.want rfl rfl rfl rfl rfl) (rn_mv rfl (he248.op rfl) w227) ?_
                              intro a249 he249
                              clear he248 a248
                              refine lV (Value.int .i64 (d.length : Nat)) he249 rfl rfl (he249.want rfl rfl rfl rfl rfl) (rn_lenC rfl (he249.op rfl) w227) ?_
                              intro a250 he250
                              clear he249 a249
                              refine lV (Value.int .i64 ((l.length : Int) - (d.length : Int))) he250 rfl rfl (he250.want rfl rfl rfl rfl rfl) (rn_subI rfl (he250.op rfl) (he250.op rfl) (by rw [hpl, IntWalk.i64_in _ ⟨by omega, by omega⟩]) w227) ?_
                              intro a251 he251
                              clear he250 a250
                              refine lV (Value.bool false) he251 rfl rfl (he251.want rfl rfl rfl rfl rfl) (rn_gtr rfl (he251.op rfl) (he251.op rfl) (decide_eq_false (by omega)) w227) ?_
                              intro a252 he252
                              clear he251 a251
                              refine lV (Value.bool false) he252 rfl rfl (wanted_plain rfl _) (rn_pk0 rfl (he252.op rfl) (he252.op rfl) w227) ?_
                              intro a253 he253
                              clear he252 a252
                              refine lV (Value.bool false) he253 rfl rfl (wanted_plain rfl _) (rn_mv rfl (he253.op rfl) w227) ?_
                              intro a254 he254
                              clear he253 a253
                              refine lV (Value.agg #[Value.slice Ap (putL l k d).length cp, Value.bool so]) he254 rfl rfl (he254.want rfl rfl rfl rfl rfl) (rn_ldp [Value.slice Ap (putL l k d).length cp, Value.bool so] rfl (he254.op rfl) undL rfl infoL2 (hH227.at (i := 0) rfl) rfl) ?_
                              intro a255 he255
                              clear he254 a254
                              refine lC he255 rfl rfl Tryd.func13 (by kernel_rfl) rfl rfl (he255.want rfl rfl rfl rfl rfl) rfl (valid_s _ (putL l k d) so true hpo w227 (SlC.own hoP) (hT.new hH227.new)) ?_
                              intro w256 a257 hn he257
                              have hH256 := hH227.call hn
                              replace hoP := own_fr hoP hn (fun _ _ h => h)
                              clear he255 a255 hH227 hn
                              refine lV (Value.bool false) he257 rfl rfl (he257.want rfl rfl rfl rfl rfl) (rn_not (b := true) rfl (he257.op rfl) w256) ?_
                              intro a258 he258
                              clear he257 a257
                              refine lV (Value.bool false) he258 rfl rfl (wanted_plain rfl _) (rn_pk0 rfl (he258.op rfl) (he258.op rfl) w256) ?_
                              intro a259 he259
                              clear he258 a258
                              refine wpList_nil ?_
                              refine then_ok ?_
                              refine wp_cond_false (he259.op rfl) ?_
                              refine wp_skip ?_
                              refine then_ok ?_
                              have he260 : Env 193 [(17, Value.pointer (some ⟨p225, 0, none⟩)), (4, Value.pointer (some ⟨p1, 0, none⟩)), (1, Value.int .i64 (k : Int)), (2, Value.slice D d.length cd)] a259 := he259.mem ⟨rfl, rfl, rfl, rfl, trivial⟩
                              clear he259
                              as_aux_lemma =>
                                refine wp_seq ?_
                                refine wp_region_lit ?_
                                obtain ⟨bp, hrp, hcp⟩ := own_rdK hoP
                                refine lV (Value.pointer (some ⟨p225, 0, none⟩)) he260 rfl rfl (wanted_plain rfl _) (rn_faL0 rfl (he260.op rfl) rfl w256) ?_
                                intro a261 he261
                                clear he260 a259
                                refine lV (Value.slice Ap (putL l k d).length cp) he261 rfl rfl (wanted_plain rfl _) (rn_ldS rfl (he261.op rfl) (hH256.at (i := 0) rfl) rfl) ?_
                                intro a262 he262
                                clear he261 a261
                                refine lV (Value.int .i64 (k : Int)) he262 rfl rfl (wanted_plain rfl _) (rn_mv rfl (he262.op rfl) w256) ?_
                                intro a263 he263
                                clear he262 a262
                                refine lV (Value.int .i64 (k : Int)) he263 rfl rfl (wanted_plain rfl _) (rn_mv rfl (he263.op rfl) w256) ?_
                                intro a264 he264
                                clear he263 a263
                                refine lV (Value.slice D d.length cd) he264 rfl rfl (wanted_plain rfl _) (rn_mv rfl (he264.op rfl) w256) ?_
                                intro a265 he265
                                clear he264 a264
                                refine lV (Value.int .i64 (d.length : Nat)) he265 rfl rfl (wanted_plain rfl _) (rn_lenC rfl (he265.op rfl) w256) ?_
                                intro a266 he266
                                clear he265 a265
                                refine lV (Value.int .i64 ((k + d.length : Nat) : Int)) he266 rfl rfl (wanted_plain rfl _) (rn_add1 rfl (he266.op rfl) (he266.op rfl) (by rw [IntWalk.i64_in _ ⟨by omega, by omega⟩]; omega) w256) ?_
                                intro a267 he267
                                clear he266 a266
                                obtain ⟨Ac, eAc, rAc⟩ := sllh_rd (c := cp) (k := k) (m := (k + d.length)) hrp (by omega) (by omega) (by omega)
                                refine lV (Value.slice Ac ((k + d.length) - k) (cp - k)) he267 rfl rfl (wanted_plain rfl _) (rn_sllh (k := k) (m := (k + d.length)) rfl (he267.op rfl) (he267.op rfl) (he267.op rfl) (by omega) (by omega) eAc w256) ?_
                                intro a268 he268
                                clear he267 a267
                                have hmid : List.take (k + d.length - k) (List.drop k (putL l k d)) = d := by rw [Nat.add_sub_cancel_left]; exact putL_mid hkd
                                rw [hmid] at rAc
                                refine lV (Value.slice D d.length cd) he268 rfl rfl (wanted_plain rfl _) (rn_mv rfl (he268.op rfl) w256) ?_
                                intro a269 he269
                                clear he268 a268
                                refine lC he269 rfl rfl Tryd.func36 (by kernel_rfl) rfl rfl (wanted_plain rfl _) rfl (sameC_s _ d _ d true (by simp) (by omega) (by omega) w256 (SlC.mk rAc (by omega)) (hz.new hH256.new)) ?_
                                intro w270 a271 hn he271
                                have hH270 := hH256.call hn
                                replace hoP := own_fr hoP hn (fun _ _ h => h)
                                replace hrp := hrp.new hn
                                replace rAc := rAc.new hn
                                clear he269 a269 hH256 hn
                                refine lV (Value.bool true) he271 rfl rfl (wanted_plain rfl _) (rn_mv rfl (he271.op rfl) w270) ?_
                                intro a272 he272
                                clear he271 a271
                                refine lV (Value.pointer (some ⟨p225, 1, none⟩)) he272 rfl rfl (he272.want rfl rfl rfl rfl rfl) (rn_faL1 rfl (he272.op rfl) rfl w270) ?_
                                intro a273 he273
                                clear he272 a272
                                refine lV (Value.bool so) he273 rfl rfl (he273.want rfl rfl rfl rfl rfl) (rn_ldB rfl (he273.op rfl) (hH270.at (i := 0) rfl) rfl) ?_
                                intro a274 he274
                                clear he273 a273
                                refine lV (Value.pointer (some ⟨p1, 1, none⟩)) he274 rfl rfl (he274.want rfl rfl rfl rfl rfl) (rn_faL1 rfl (he274.op rfl) rfl w270) ?_
                                intro a275 he275
                                clear he274 a274
                                refine lV (Value.bool so) he275 rfl rfl (he275.want rfl rfl rfl rfl rfl) (rn_ldB rfl (he275.op rfl) (hH270.at (i := 5) rfl) rfl) ?_
                                intro a276 he276
                                clear he275 a275
                                refine lV (Value.bool true) he276 rfl rfl (he276.want rfl rfl rfl rfl rfl) (rn_eqB rfl (he276.op rfl) (he276.op rfl) (by simp) w270) ?_
                                intro a277 he277
                                clear he276 a276
                                refine lV (Value.bool true) he277 rfl rfl (wanted_plain rfl _) (rn_pk rfl (he277.op rfl) (he277.op rfl) w270) ?_
                                intro a278 he278
                                clear he277 a277
                                refine lV (Value.bool true) he278 rfl rfl (wanted_plain rfl _) (rn_mv rfl (he278.op rfl) w270) ?_
                                intro a279 he279
                                clear he278 a278
                                refine lC he279 rfl rfl Tryd.func9 (by kernel_rfl) rfl rfl (he279.want rfl rfl rfl rfl rfl) rfl (known_any w270 (hT.new hH270.new)) ?_
                                intro w280 a281 hn he281
                                have hH280 := hH270.call hn
                                replace hoP := own_fr hoP hn (fun _ _ h => h)
                                replace hrp := hrp.new hn
                                replace rAc := rAc.new hn
                                clear he279 a279 hH270 hn
                                refine lV (Value.bool true) he281 rfl rfl (wanted_plain rfl _) (rn_pk rfl (he281.op rfl) (he281.op rfl) w280) ?_
                                intro a282 he282
                                clear he281 a281
                                refine lV (Value.bool true) he282 rfl rfl (wanted_plain rfl _) (rn_asg rfl (he282.op rfl) w280) ?_
                                intro a283 he283
                                clear he282 a282
                                refine wpList_nil ?_
                                refine then_ok ?_
                                refine wp_ret ?_
                                try simp only [Exit.then, Exit.inBlock]
                                exact ret_env rfl he283 rfl ⟨rfl, hH280.new.new_below⟩
      · skip
        refine wp_seq ?_
        refine wp_seq ?_
        refine wp_region_lit ?_
        refine lV (Value.agg #[Value.slice A l.length cap, Value.bool so]) he3 rfl rfl (wanted_plain rfl _) (rn_ldp [Value.slice A l.length cap, Value.bool so] rfl (he3.op rfl) undL rfl infoL2 (hH1.at (i := 0) rfl) rfl) ?_
        intro a284 he284
        clear he3 a3
        refine lC he284 rfl rfl Tryd.func19 (by kernel_rfl) rfl rfl (wanted_plain rfl _) rfl (small_s _ l so true (decide_eq_true h1) w1 (hx.new hH1.new)) ?_
        intro w285 a286 hn he286
        have hH285 := hH1.call hn
        clear he284 a284 hH1 hn
        refine lV (Value.bool false) he286 rfl rfl (wanted_plain rfl _) (rn_not (b := true) rfl (he286.op rfl) w285) ?_
        intro a287 he287
        clear he286 a286
        refine lV (Value.bool false) he287 rfl rfl (wanted_plain rfl _) (rn_mv rfl (he287.op rfl) w285) ?_
        intro a288 he288
        clear he287 a287
        refine lV (Value.slice D d.length cd) he288 rfl rfl (he288.want rfl rfl rfl rfl rfl) (rn_mv rfl (he288.op rfl) w285) ?_
        intro a289 he289
        clear he288 a288
        refine lV (Value.int .i64 (d.length : Nat)) he289 rfl rfl (he289.want rfl rfl rfl rfl rfl) (rn_lenC rfl (he289.op rfl) w285) ?_
        intro a290 he290
        clear he289 a289
        refine lV (Value.bool false) he290 rfl rfl (he290.want rfl rfl rfl rfl rfl) (rn_gtr rfl (he290.op rfl) (he290.op rfl) (decide_eq_false (by omega)) w285) ?_
        intro a291 he291
        clear he290 a290
        refine lV (Value.bool false) he291 rfl rfl (wanted_plain rfl _) (rn_pk0 rfl (he291.op rfl) (he291.op rfl) w285) ?_
        intro a292 he292
        clear he291 a291
        refine lV (Value.bool false) he292 rfl rfl (wanted_plain rfl _) (rn_mv rfl (he292.op rfl) w285) ?_
        intro a293 he293
        clear he292 a292
        refine lV (Value.int .u8 (mo : Int)) he293 rfl rfl (he293.want rfl rfl rfl rfl rfl) (rn_mv rfl (he293.op rfl) w285) ?_
        intro a294 he294
        clear he293 a293
        refine lV (Value.bool true) he294 rfl rfl (he294.want rfl rfl rfl rfl rfl) (rn_gt8 rfl (he294.op rfl) (he294.op rfl) (decide_eq_true (by omega)) w285) ?_
        intro a295 he295
        clear he294 a294
        refine lV (Value.bool true) he295 rfl rfl (wanted_plain rfl _) (rn_pk0 rfl (he295.op rfl) (he295.op rfl) w285) ?_
        intro a296 he296
        clear he295 a295
        refine wpList_nil ?_
        refine then_ok ?_
        refine wp_cond_true (he296.op rfl) ?_
        refine wp_seq ?_
        refine wp_region_lit ?_
        refine lC he296 rfl rfl Tryd.func9 (by kernel_rfl) rfl rfl (wanted_plain rfl _) rfl (known_any w285 (hT.new hH285.new)) ?_
        intro w297 a298 hn he298
        have hH297 := hH285.call hn
        clear he296 a296 hH285 hn
        refine lV (Value.bool true) he298 rfl rfl (wanted_plain rfl _) (rn_asg rfl (he298.op rfl) w297) ?_
        intro a299 he299
        clear he298 a298
        refine wpList_nil ?_
        refine then_ok ?_
        refine wp_ret ?_
        try simp only [Exit.then, Exit.inBlock]
        exact ret_env rfl he299 rfl ⟨rfl, hH297.new.new_below⟩
    · skip
      by_cases h3 : mo ≤ 100
      · skip
        refine wp_seq ?_
        refine wp_seq ?_
        refine wp_region_lit ?_
        refine lV (Value.agg #[Value.slice A l.length cap, Value.bool so]) he3 rfl rfl (wanted_plain rfl _) (rn_ldp [Value.slice A l.length cap, Value.bool so] rfl (he3.op rfl) undL rfl infoL2 (hH1.at (i := 0) rfl) rfl) ?_
        intro a300 he300
        clear he3 a3
        refine lC he300 rfl rfl Tryd.func19 (by kernel_rfl) rfl rfl (wanted_plain rfl _) rfl (small_s _ l so true (decide_eq_true h1) w1 (hx.new hH1.new)) ?_
        intro w301 a302 hn he302
        have hH301 := hH1.call hn
        clear he300 a300 hH1 hn
        refine lV (Value.bool false) he302 rfl rfl (wanted_plain rfl _) (rn_not (b := true) rfl (he302.op rfl) w301) ?_
        intro a303 he303
        clear he302 a302
        refine lV (Value.bool false) he303 rfl rfl (wanted_plain rfl _) (rn_mv rfl (he303.op rfl) w301) ?_
        intro a304 he304
        clear he303 a303
        refine lV (Value.slice D d.length cd) he304 rfl rfl (he304.want rfl rfl rfl rfl rfl) (rn_mv rfl (he304.op rfl) w301) ?_
        intro a305 he305
        clear he304 a304
        refine lV (Value.int .i64 (d.length : Nat)) he305 rfl rfl (he305.want rfl rfl rfl rfl rfl) (rn_lenC rfl (he305.op rfl) w301) ?_
        intro a306 he306
        clear he305 a305
        refine lV (Value.bool true) he306 rfl rfl (he306.want rfl rfl rfl rfl rfl) (rn_gtr rfl (he306.op rfl) (he306.op rfl) (decide_eq_true (by omega)) w301) ?_
        intro a307 he307
        clear he306 a306
        refine lV (Value.bool true) he307 rfl rfl (wanted_plain rfl _) (rn_pk0 rfl (he307.op rfl) (he307.op rfl) w301) ?_
        intro a308 he308
        clear he307 a307
        refine lV (Value.bool true) he308 rfl rfl (wanted_plain rfl _) (rn_mv rfl (he308.op rfl) w301) ?_
        intro a309 he309
        clear he308 a308
        refine lSkip he309 rfl rfl (he309.wantNot rfl rfl rfl rfl rfl rfl) ?_
        intro a310 he310
        clear he309 a309
        refine lSkip he310 rfl rfl (he310.wantNot rfl rfl rfl rfl rfl rfl) ?_
        intro a311 he311
        clear he310 a310
        refine lV (Value.bool true) he311 rfl rfl (wanted_plain rfl _) (rn_pk rfl (he311.op rfl) (he311.op rfl) w301) ?_
        intro a312 he312
        clear he311 a311
        refine wpList_nil ?_
        refine then_ok ?_
        refine wp_cond_true (he312.op rfl) ?_
        refine wp_seq ?_
        refine wp_region_lit ?_
        refine lC he312 rfl rfl Tryd.func9 (by kernel_rfl) rfl rfl (wanted_plain rfl _) rfl (known_any w301 (hT.new hH301.new)) ?_
        intro w313 a314 hn he314
        have hH313 := hH301.call hn
        clear he312 a312 hH301 hn
        refine lV (Value.bool true) he314 rfl rfl (wanted_plain rfl _) (rn_asg rfl (he314.op rfl) w313) ?_
        intro a315 he315
        clear he314 a314
        refine wpList_nil ?_
        refine then_ok ?_
        refine wp_ret ?_
        try simp only [Exit.then, Exit.inBlock]
        exact ret_env rfl he315 rfl ⟨rfl, hH313.new.new_below⟩
      · skip
        refine wp_seq ?_
        refine wp_seq ?_
        refine wp_region_lit ?_
        refine lV (Value.agg #[Value.slice A l.length cap, Value.bool so]) he3 rfl rfl (wanted_plain rfl _) (rn_ldp [Value.slice A l.length cap, Value.bool so] rfl (he3.op rfl) undL rfl infoL2 (hH1.at (i := 0) rfl) rfl) ?_
        intro a316 he316
        clear he3 a3
        refine lC he316 rfl rfl Tryd.func19 (by kernel_rfl) rfl rfl (wanted_plain rfl _) rfl (small_s _ l so true (decide_eq_true h1) w1 (hx.new hH1.new)) ?_
        intro w317 a318 hn he318
        have hH317 := hH1.call hn
        clear he316 a316 hH1 hn
        refine lV (Value.bool false) he318 rfl rfl (wanted_plain rfl _) (rn_not (b := true) rfl (he318.op rfl) w317) ?_
        intro a319 he319
        clear he318 a318
        refine lV (Value.bool false) he319 rfl rfl (wanted_plain rfl _) (rn_mv rfl (he319.op rfl) w317) ?_
        intro a320 he320
        clear he319 a319
        refine lV (Value.slice D d.length cd) he320 rfl rfl (he320.want rfl rfl rfl rfl rfl) (rn_mv rfl (he320.op rfl) w317) ?_
        intro a321 he321
        clear he320 a320
        refine lV (Value.int .i64 (d.length : Nat)) he321 rfl rfl (he321.want rfl rfl rfl rfl rfl) (rn_lenC rfl (he321.op rfl) w317) ?_
        intro a322 he322
        clear he321 a321
        refine lV (Value.bool true) he322 rfl rfl (he322.want rfl rfl rfl rfl rfl) (rn_gtr rfl (he322.op rfl) (he322.op rfl) (decide_eq_true (by omega)) w317) ?_
        intro a323 he323
        clear he322 a322
        refine lV (Value.bool true) he323 rfl rfl (wanted_plain rfl _) (rn_pk0 rfl (he323.op rfl) (he323.op rfl) w317) ?_
        intro a324 he324
        clear he323 a323
        refine lV (Value.bool true) he324 rfl rfl (wanted_plain rfl _) (rn_mv rfl (he324.op rfl) w317) ?_
        intro a325 he325
        clear he324 a324
        refine lSkip he325 rfl rfl (he325.wantNot rfl rfl rfl rfl rfl rfl) ?_
        intro a326 he326
        clear he325 a325
        refine lSkip he326 rfl rfl (he326.wantNot rfl rfl rfl rfl rfl rfl) ?_
        intro a327 he327
        clear he326 a326
        refine lV (Value.bool true) he327 rfl rfl (wanted_plain rfl _) (rn_pk rfl (he327.op rfl) (he327.op rfl) w317) ?_
        intro a328 he328
        clear he327 a327
        refine wpList_nil ?_
        refine then_ok ?_
        refine wp_cond_true (he328.op rfl) ?_
        refine wp_seq ?_
        refine wp_region_lit ?_
        refine lC he328 rfl rfl Tryd.func9 (by kernel_rfl) rfl rfl (wanted_plain rfl _) rfl (known_any w317 (hT.new hH317.new)) ?_
        intro w329 a330 hn he330
        have hH329 := hH317.call hn
        clear he328 a328 hH317 hn
        refine lV (Value.bool true) he330 rfl rfl (wanted_plain rfl _) (rn_asg rfl (he330.op rfl) w329) ?_
        intro a331 he331
        clear he330 a330
        refine wpList_nil ?_
        refine then_ok ?_
        refine wp_ret ?_
        try simp only [Exit.then, Exit.inBlock]
        exact ret_env rfl he331 rfl ⟨rfl, hH329.new.new_below⟩
  · skip
    by_cases h2 : d.length ≤ 40
    · skip
      by_cases h3 : mo ≤ 100
      · skip
        refine wp_seq ?_
        refine wp_seq ?_
        refine wp_region_lit ?_
        refine lV (Value.agg #[Value.slice A l.length cap, Value.bool so]) he3 rfl rfl (wanted_plain rfl _) (rn_ldp [Value.slice A l.length cap, Value.bool so] rfl (he3.op rfl) undL rfl infoL2 (hH1.at (i := 0) rfl) rfl) ?_
        intro a332 he332
        clear he3 a3
        refine lC he332 rfl rfl Tryd.func19 (by kernel_rfl) rfl rfl (wanted_plain rfl _) rfl (small_s _ l so false (decide_eq_false h1) w1 (hx.new hH1.new)) ?_
        intro w333 a334 hn he334
        have hH333 := hH1.call hn
        clear he332 a332 hH1 hn
        refine lV (Value.bool true) he334 rfl rfl (wanted_plain rfl _) (rn_not (b := false) rfl (he334.op rfl) w333) ?_
        intro a335 he335
        clear he334 a334
        refine lV (Value.bool true) he335 rfl rfl (wanted_plain rfl _) (rn_mv rfl (he335.op rfl) w333) ?_
        intro a336 he336
        clear he335 a335
        refine lSkip he336 rfl rfl (he336.wantNot rfl rfl rfl rfl rfl rfl) ?_
        intro a337 he337
        clear he336 a336
        refine lSkip he337 rfl rfl (he337.wantNot rfl rfl rfl rfl rfl rfl) ?_
        intro a338 he338
        clear he337 a337
        refine lSkip he338 rfl rfl (he338.wantNot rfl rfl rfl rfl rfl rfl) ?_
        intro a339 he339
        clear he338 a338
        refine lV (Value.bool true) he339 rfl rfl (wanted_plain rfl _) (rn_pk rfl (he339.op rfl) (he339.op rfl) w333) ?_
        intro a340 he340
        clear he339 a339
        refine lV (Value.bool true) he340 rfl rfl (wanted_plain rfl _) (rn_mv rfl (he340.op rfl) w333) ?_
        intro a341 he341
        clear he340 a340
        refine lSkip he341 rfl rfl (he341.wantNot rfl rfl rfl rfl rfl rfl) ?_
        intro a342 he342
        clear he341 a341
        refine lSkip he342 rfl rfl (he342.wantNot rfl rfl rfl rfl rfl rfl) ?_
        intro a343 he343
        clear he342 a342
        refine lV (Value.bool true) he343 rfl rfl (wanted_plain rfl _) (rn_pk rfl (he343.op rfl) (he343.op rfl) w333) ?_
        intro a344 he344
        clear he343 a343
        refine wpList_nil ?_
        refine then_ok ?_
        refine wp_cond_true (he344.op rfl) ?_
        refine wp_seq ?_
        refine wp_region_lit ?_
        refine lC he344 rfl rfl Tryd.func9 (by kernel_rfl) rfl rfl (wanted_plain rfl _) rfl (known_any w333 (hT.new hH333.new)) ?_
        intro w345 a346 hn he346
        have hH345 := hH333.call hn
        clear he344 a344 hH333 hn
        refine lV (Value.bool true) he346 rfl rfl (wanted_plain rfl _) (rn_asg rfl (he346.op rfl) w345) ?_
        intro a347 he347
        clear he346 a346
        refine wpList_nil ?_
        refine then_ok ?_
        refine wp_ret ?_
        try simp only [Exit.then, Exit.inBlock]
        exact ret_env rfl he347 rfl ⟨rfl, hH345.new.new_below⟩
      · skip
        refine wp_seq ?_
        refine wp_seq ?_
        refine wp_region_lit ?_
        refine lV (Value.agg #[Value.slice A l.length cap, Value.bool so]) he3 rfl rfl (wanted_plain rfl _) (rn_ldp [Value.slice A l.length cap, Value.bool so] rfl (he3.op rfl) undL rfl infoL2 (hH1.at (i := 0) rfl) rfl) ?_
        intro a348 he348
        clear he3 a3
        refine lC he348 rfl rfl Tryd.func19 (by kernel_rfl) rfl rfl (wanted_plain rfl _) rfl (small_s _ l so false (decide_eq_false h1) w1 (hx.new hH1.new)) ?_
        intro w349 a350 hn he350
        have hH349 := hH1.call hn
        clear he348 a348 hH1 hn
        refine lV (Value.bool true) he350 rfl rfl (wanted_plain rfl _) (rn_not (b := false) rfl (he350.op rfl) w349) ?_
        intro a351 he351
        clear he350 a350
        refine lV (Value.bool true) he351 rfl rfl (wanted_plain rfl _) (rn_mv rfl (he351.op rfl) w349) ?_
        intro a352 he352
        clear he351 a351
        refine lSkip he352 rfl rfl (he352.wantNot rfl rfl rfl rfl rfl rfl) ?_
        intro a353 he353
        clear he352 a352
        refine lSkip he353 rfl rfl (he353.wantNot rfl rfl rfl rfl rfl rfl) ?_
        intro a354 he354
        clear he353 a353
        refine lSkip he354 rfl rfl (he354.wantNot rfl rfl rfl rfl rfl rfl) ?_
        intro a355 he355
        clear he354 a354
        refine lV (Value.bool true) he355 rfl rfl (wanted_plain rfl _) (rn_pk rfl (he355.op rfl) (he355.op rfl) w349) ?_
        intro a356 he356
        clear he355 a355
        refine lV (Value.bool true) he356 rfl rfl (wanted_plain rfl _) (rn_mv rfl (he356.op rfl) w349) ?_
        intro a357 he357
        clear he356 a356
        refine lSkip he357 rfl rfl (he357.wantNot rfl rfl rfl rfl rfl rfl) ?_
        intro a358 he358
        clear he357 a357
        refine lSkip he358 rfl rfl (he358.wantNot rfl rfl rfl rfl rfl rfl) ?_
        intro a359 he359
        clear he358 a358
        refine lV (Value.bool true) he359 rfl rfl (wanted_plain rfl _) (rn_pk rfl (he359.op rfl) (he359.op rfl) w349) ?_
        intro a360 he360
        clear he359 a359
        refine wpList_nil ?_
        refine then_ok ?_
        refine wp_cond_true (he360.op rfl) ?_
        refine wp_seq ?_
        refine wp_region_lit ?_
        refine lC he360 rfl rfl Tryd.func9 (by kernel_rfl) rfl rfl (wanted_plain rfl _) rfl (known_any w349 (hT.new hH349.new)) ?_
        intro w361 a362 hn he362
        have hH361 := hH349.call hn
        clear he360 a360 hH349 hn
        refine lV (Value.bool true) he362 rfl rfl (wanted_plain rfl _) (rn_asg rfl (he362.op rfl) w361) ?_
        intro a363 he363
        clear he362 a362
        refine wpList_nil ?_
        refine then_ok ?_
        refine wp_ret ?_
        try simp only [Exit.then, Exit.inBlock]
        exact ret_env rfl he363 rfl ⟨rfl, hH361.new.new_below⟩
    · skip
      by_cases h3 : mo ≤ 100
      · skip
        refine wp_seq ?_
        refine wp_seq ?_
        refine wp_region_lit ?_
        refine lV (Value.agg #[Value.slice A l.length cap, Value.bool so]) he3 rfl rfl (wanted_plain rfl _) (rn_ldp [Value.slice A l.length cap, Value.bool so] rfl (he3.op rfl) undL rfl infoL2 (hH1.at (i := 0) rfl) rfl) ?_
        intro a364 he364
        clear he3 a3
        refine lC he364 rfl rfl Tryd.func19 (by kernel_rfl) rfl rfl (wanted_plain rfl _) rfl (small_s _ l so false (decide_eq_false h1) w1 (hx.new hH1.new)) ?_
        intro w365 a366 hn he366
        have hH365 := hH1.call hn
        clear he364 a364 hH1 hn
        refine lV (Value.bool true) he366 rfl rfl (wanted_plain rfl _) (rn_not (b := false) rfl (he366.op rfl) w365) ?_
        intro a367 he367
        clear he366 a366
        refine lV (Value.bool true) he367 rfl rfl (wanted_plain rfl _) (rn_mv rfl (he367.op rfl) w365) ?_
        intro a368 he368
        clear he367 a367
        refine lSkip he368 rfl rfl (he368.wantNot rfl rfl rfl rfl rfl rfl) ?_
        intro a369 he369
        clear he368 a368
        refine lSkip he369 rfl rfl (he369.wantNot rfl rfl rfl rfl rfl rfl) ?_
        intro a370 he370
        clear he369 a369
        refine lSkip he370 rfl rfl (he370.wantNot rfl rfl rfl rfl rfl rfl) ?_
        intro a371 he371
        clear he370 a370
        refine lV (Value.bool true) he371 rfl rfl (wanted_plain rfl _) (rn_pk rfl (he371.op rfl) (he371.op rfl) w365) ?_
        intro a372 he372
        clear he371 a371
        refine lV (Value.bool true) he372 rfl rfl (wanted_plain rfl _) (rn_mv rfl (he372.op rfl) w365) ?_
        intro a373 he373
        clear he372 a372
        refine lSkip he373 rfl rfl (he373.wantNot rfl rfl rfl rfl rfl rfl) ?_
        intro a374 he374
        clear he373 a373
        refine lSkip he374 rfl rfl (he374.wantNot rfl rfl rfl rfl rfl rfl) ?_
        intro a375 he375
        clear he374 a374
        refine lV (Value.bool true) he375 rfl rfl (wanted_plain rfl _) (rn_pk rfl (he375.op rfl) (he375.op rfl) w365) ?_
        intro a376 he376
        clear he375 a375
        refine wpList_nil ?_
        refine then_ok ?_
        refine wp_cond_true (he376.op rfl) ?_
        refine wp_seq ?_
        refine wp_region_lit ?_
        refine lC he376 rfl rfl Tryd.func9 (by kernel_rfl) rfl rfl (wanted_plain rfl _) rfl (known_any w365 (hT.new hH365.new)) ?_
        intro w377 a378 hn he378
        have hH377 := hH365.call hn
        clear he376 a376 hH365 hn
        refine lV (Value.bool true) he378 rfl rfl (wanted_plain rfl _) (rn_asg rfl (he378.op rfl) w377) ?_
        intro a379 he379
        clear he378 a378
        refine wpList_nil ?_
        refine then_ok ?_
        refine wp_ret ?_
        try simp only [Exit.then, Exit.inBlock]
        exact ret_env rfl he379 rfl ⟨rfl, hH377.new.new_below⟩
      · skip
        refine wp_seq ?_
        refine wp_seq ?_
        refine wp_region_lit ?_
        refine lV (Value.agg #[Value.slice A l.length cap, Value.bool so]) he3 rfl rfl (wanted_plain rfl _) (rn_ldp [Value.slice A l.length cap, Value.bool so] rfl (he3.op rfl) undL rfl infoL2 (hH1.at (i := 0) rfl) rfl) ?_
        intro a380 he380
        clear he3 a3
        refine lC he380 rfl rfl Tryd.func19 (by kernel_rfl) rfl rfl (wanted_plain rfl _) rfl (small_s _ l so false (decide_eq_false h1) w1 (hx.new hH1.new)) ?_
        intro w381 a382 hn he382
        have hH381 := hH1.call hn
        clear he380 a380 hH1 hn
        refine lV (Value.bool true) he382 rfl rfl (wanted_plain rfl _) (rn_not (b := false) rfl (he382.op rfl) w381) ?_
        intro a383 he383
        clear he382 a382
        refine lV (Value.bool true) he383 rfl rfl (wanted_plain rfl _) (rn_mv rfl (he383.op rfl) w381) ?_
        intro a384 he384
        clear he383 a383
        refine lSkip he384 rfl rfl (he384.wantNot rfl rfl rfl rfl rfl rfl) ?_
        intro a385 he385
        clear he384 a384
        refine lSkip he385 rfl rfl (he385.wantNot rfl rfl rfl rfl rfl rfl) ?_
        intro a386 he386
        clear he385 a385
        refine lSkip he386 rfl rfl (he386.wantNot rfl rfl rfl rfl rfl rfl) ?_
        intro a387 he387
        clear he386 a386
        refine lV (Value.bool true) he387 rfl rfl (wanted_plain rfl _) (rn_pk rfl (he387.op rfl) (he387.op rfl) w381) ?_
        intro a388 he388
        clear he387 a387
        refine lV (Value.bool true) he388 rfl rfl (wanted_plain rfl _) (rn_mv rfl (he388.op rfl) w381) ?_
        intro a389 he389
        clear he388 a388
        refine lSkip he389 rfl rfl (he389.wantNot rfl rfl rfl rfl rfl rfl) ?_
        intro a390 he390
        clear he389 a389
        refine lSkip he390 rfl rfl (he390.wantNot rfl rfl rfl rfl rfl rfl) ?_
        intro a391 he391
        clear he390 a390
        refine lV (Value.bool true) he391 rfl rfl (wanted_plain rfl _) (rn_pk rfl (he391.op rfl) (he391.op rfl) w381) ?_
        intro a392 he392
        clear he391 a391
        refine wpList_nil ?_
        refine then_ok ?_
        refine wp_cond_true (he392.op rfl) ?_
        refine wp_seq ?_
        refine wp_region_lit ?_
        refine lC he392 rfl rfl Tryd.func9 (by kernel_rfl) rfl rfl (wanted_plain rfl _) rfl (known_any w381 (hT.new hH381.new)) ?_
        intro w393 a394 hn he394
        have hH393 := hH381.call hn
        clear he392 a392 hH381 hn
        refine lV (Value.bool true) he394 rfl rfl (wanted_plain rfl _) (rn_asg rfl (he394.op rfl) w393) ?_
        intro a395 he395
        clear he394 a394
        refine wpList_nil ?_
        refine then_ok ?_
        refine wp_ret ?_
        try simp only [Exit.then, Exit.inBlock]
        exact ret_env rfl he395 rfl ⟨rfl, hH393.new.new_below⟩

end Go.Proofs.YtjcpdldaimebbaaDoor
