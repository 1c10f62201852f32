/-
  LineNew, LineLongs.
-/
import Derived.Test.YtjcpdldaimebbaaDoorNStain
namespace Go.Proofs.YtjcpdldaimebbaaDoor
open Go.RowKit

section
variable {ops : Array Oper} {Q : Exit → Act → World → Prop} {a : Act} {w : World} {rest : List Oper} {o : Oper} {N k : Nat} {F : List (Nat × Value)}
/-- One number stored into a row of the call's own. -/
theorem lStOwn {base g cnt cap off sz : Nat} {e ty : TypeId} {xs : List Value} {v : Value} {x y : Operand} (he : Env N F a) (hown : w.ownsRow base e sz (.slice (some ⟨g, 0, none⟩) cnt cap) cnt xs) (hd : o.dst = none) (hw : Region.wanted o (yielded ops a.tmps) = true)
    (ho : o.op = .store ty x y) (hx : evO F x = some (.pointer (some ⟨g, off, none⟩))) (hy : evO F y = some v) (hv : v.cells = #[v]) (h1 : v.oneCell' = true) (hi : (Tryd.prog.info? ty).map (·.size) = some 1) (hoff : off < cnt * sz)
    (next : ∀ w' a', w'.ownsRow base e sz (.slice (some ⟨g, 0, none⟩) cnt cap) cnt (xs.set off v) → Fr (fun k => k = g) w w' → Env N F a' → wpList Tryd.prog ops Q rest a' w') : wpList Tryd.prog ops Q (o :: rest) a w := by
  rcases hown.2 with ⟨h', _⟩ | ⟨g', cap', cur, h', hb, hg, hnc, hcm, hcs, htake⟩
  · simp at h'
  · simp only [Value.slice.injEq, Option.some.injEq, Addr.mk.injEq, and_true, true_and] at h'
    obtain ⟨rfl, rfl⟩ := h'
    have hle : cnt * sz ≤ cap * sz := Nat.mul_le_mul_right _ hnc
    have hfit : off + 1 ≤ cur.size := by omega
    refine wpList_step fun K hK => ?_
    rw [if_pos hw]
    refine storeV_does (news := #[v]) ho (he.op hx) (he.op hy) hv hg hi hfit (fun u hu => by
      have : u = v := by simpa using hu
      rw [this]; exact h1) (fun w' hB hf _ => ?_)
    have hl : (lay cur off #[v]).toList = cur.toList.set off v := by
      rw [List.set_eq_take_append_cons_drop, if_pos (by rw [Array.length_toList]; omega)]
      simp [lay]
    have hown' : w'.ownsRow base e sz (.slice (some ⟨g, 0, none⟩) cnt cap) cnt (xs.set off v) := by
      refine ⟨by rw [List.length_set]; exact hown.1, .inr ⟨g, cap, lay cur off #[v], rfl, hb, hB, hnc, hcm, ?_, ?_⟩⟩
      · rw [lay_size _ _ _ hfit, hcs]
      · rw [hl, List.take_set, htake]
    exact hK _ _ (by rw [hd]; exact next _ _ hown' hf (he.put0 _))
end
theorem flat_setC (m : List Ce) (q : Ce) (x : Int) : (flatG rC (m ++ [q])).set (m.length * 16) (.int .i32 x) = flatG rC (m ++ [{ q with r := x }]) := by
  have hl : (flatG rC m).length = m.length * 16 := flatG_len rC m
  rw [flatG_append, flatG_append, List.set_append_right _ _ (by omega), hl, Nat.sub_self]
  rfl
theorem rep_last (N : Nat) (h : 0 < N) : List.replicate N eC = List.replicate (N - 1) eC ++ [eC] := by
  rw [← List.replicate_succ', show N - 1 + 1 = N by omega]
theorem row_a : rowB [aC] = true := by decide +kernel
theorem fit_one {N : Nat} (h : 1 ≤ N) : fitL (List.replicate 1 eC) N = List.replicate N eC := by
  have e := fitL_wide (row_pad 1) (N - 1)
  rw [List.length_replicate, show 1 + (N - 1) = N by omega] at e
  rw [e, List.replicate_append_replicate, show 1 + (N - 1) = N by omega]

set_option linter.unusedSimpArgs false in
set_option maxRecDepth 100000 in
set_option maxHeartbeats 1600000 in
theorem lineNew_walk (col : Int) (x : Value) (l : List Ce) (so : Bool) (w : World) (hx : SlC w x l) (hT : Tab w) :
    Calls Tryd.prog 3 #[.int .i64 col, x, .bool so] w fun e w' => e = .returned (.bool true) ∧ Below w.heap.size w w' := by
  obtain ⟨A, cap, b, e_, hc, hr⟩ := id hx
  subst e_
  refine calls_args (vl := [Value.int .i64 col, Value.slice A l.length cap, Value.bool so]) 62 Tryd.func3 rfl Tryd.ntmps3 (by kernel_rfl) (fun a he => ?_)
  have he0 : Env 62 [(0, Value.int .i64 col), (1, Value.slice A l.length cap), (2, Value.bool so)] a := he
  clear he
  have hH := Hp.start w
  refine wp_seq ?_
  refine wp_region_lit ?_
  refine lV (Value.bool false) he0 rfl rfl (wanted_plain rfl _) (rn_asg rfl (he0.op rfl) w) ?_
  intro a1 he1
  clear he0 a
  refine wpList_nil ?_
  refine then_ok ?_
  by_cases h1 : l.length ≤ 40
  · skip
    refine wp_seq ?_
    refine wp_seq ?_
    refine wp_region_lit ?_
    refine lV (Value.slice A l.length cap) he1 rfl rfl (wanted_plain rfl _) (rn_mv rfl (he1.op rfl) w) ?_
    intro a2 he2
    clear he1 a1
    refine lV (Value.int .i64 (l.length : Nat)) he2 rfl rfl (wanted_plain rfl _) (rn_lenC rfl (he2.op rfl) w) ?_
    intro a3 he3
    clear he2 a2
    refine lV (Value.bool false) he3 rfl rfl (wanted_plain rfl _) (rn_gtr rfl (he3.op rfl) (he3.op rfl) (decide_eq_false (by omega)) w) ?_
    intro a4 he4
    clear he3 a3
    refine wpList_nil ?_
    refine then_ok ?_
    refine wp_cond_false (he4.op rfl) ?_
    refine wp_skip ?_
    refine then_ok ?_
    have he5 : Env 62 [(0, Value.int .i64 col), (1, Value.slice A l.length cap), (2, Value.bool so)] a4 := he4.mem ⟨rfl, rfl, rfl, trivial⟩
    clear he4
    refine wp_seq ?_
    refine reg_cut (fun a w' => Env 62 [(0, Value.int .i64 col), (1, Value.slice A l.length cap), (2, Value.bool so)] a ∧ Hp w [] w') ?_ ?_
    · skip
      obtain ⟨u, hcu⟩ : ∃ u, (decide (0 ≤ col) && decide (col ≤ 1000)) = u := ⟨_, rfl⟩
      cases u with
      | false =>
        refine wp_seq ?_
        refine wp_region_lit ?_
        refine lV (Value.int .i64 col) he5 rfl rfl (wanted_plain rfl _) (rn_mv rfl (he5.op rfl) w) ?_
        intro a6 he6
        clear he5 a4
        refine lC he6 rfl rfl Tryd.func10 (by kernel_rfl) rfl rfl (wanted_plain rfl _) rfl (RColumns_b col false hcu w) ?_
        intro w7 a8 hn he8
        have hH7 := hH.call hn
        clear he6 a6 hH hn
        refine lV (Value.bool true) he8 rfl rfl (wanted_plain rfl _) (rn_not (b := false) rfl (he8.op rfl) w7) ?_
        intro a9 he9
        clear he8 a8
        refine wpList_nil ?_
        refine then_ok ?_
        refine wp_cond_true (he9.op rfl) ?_
        refine wp_seq ?_
        refine wp_region_lit ?_
        refine lV (Value.int .i64 col) he9 rfl rfl (wanted_plain rfl _) (rn_mv rfl (he9.op rfl) w7) ?_
        intro a10 he10
        clear he9 a9
        refine lV (Value.agg #[Value.slice none 0 0, Value.bool false]) he10 rfl rfl (wanted_plain rfl _) (rn_bL rfl  w7) ?_
        intro a11 he11
        clear he10 a10
        refine lC he11 rfl rfl Tryd.func11 (by kernel_rfl) rfl rfl (wanted_plain rfl _) rfl (news_s col _ [] false 2 true (by rw [newR, fitR_no (by rw [hcu]; rfl)]; rfl) (by decide) w7 (SlC.nil _) (hT.new hH7.new)) ?_
        intro w12 a13 hn he13
        have hH12 := hH7.call hn
        clear he11 a11 hH7 hn
        refine lV (Value.bool false) he13 rfl rfl (wanted_plain rfl _) (rn_not (b := true) rfl (he13.op rfl) w12) ?_
        intro a14 he14
        clear he13 a13
        refine wpList_nil ?_
        refine then_ok ?_
        refine wp_cond_false (he14.op rfl) ?_
        refine wp_skip ?_
        refine then_ok ?_
        exact ⟨he14.mem ⟨rfl, rfl, rfl, trivial⟩, hH12⟩
      | true =>
        refine wp_seq ?_
        refine wp_region_lit ?_
        refine lV (Value.int .i64 col) he5 rfl rfl (wanted_plain rfl _) (rn_mv rfl (he5.op rfl) w) ?_
        intro a15 he15
        clear he5 a4
        refine lC he15 rfl rfl Tryd.func10 (by kernel_rfl) rfl rfl (wanted_plain rfl _) rfl (RColumns_b col true hcu w) ?_
        intro w16 a17 hn he17
        have hH16 := hH.call hn
        clear he15 a15 hH hn
        refine lV (Value.bool false) he17 rfl rfl (wanted_plain rfl _) (rn_not (b := true) rfl (he17.op rfl) w16) ?_
        intro a18 he18
        clear he17 a17
        refine wpList_nil ?_
        refine then_ok ?_
        refine wp_cond_false (he18.op rfl) ?_
        refine wp_seq ?_
        simp only [Bool.and_eq_true, decide_eq_true_eq] at hcu
        refine wp_region_lit ?_
        refine lV (Value.int .i64 col) he18 rfl rfl (wanted_plain rfl _) (rn_mv rfl (he18.op rfl) w16) ?_
        intro a19 he19
        clear he18 a18
        refine lV (Value.int .i64 col) he19 rfl rfl (wanted_plain rfl _) (rn_mv rfl (he19.op rfl) w16) ?_
        intro a20 he20
        clear he19 a19
        have hzhoN := hH16.new.size
        refine lCx he20 rfl rfl Tryd.func12 (by kernel_rfl) rfl rfl (wanted_plain rfl _) rfl (RNew_any col (by omega) w16) ?_
        rintro _ w21 ⟨⟨An, cn, rfl, hoN⟩, hn⟩
        replace hoN := own_base hoN (fun k_ hk_ => Nat.le_trans hzhoN (own_blk hoN k_ hk_))
        clear hzhoN
        refine ⟨_, rfl, ?_⟩
        intro a22 he22
        have hH21 := hH16.call hn
        clear he20 a20 hH16
        clear hn
        refine lC he22 rfl rfl Tryd.func11 (by kernel_rfl) rfl rfl (wanted_plain rfl _) rfl (news_s col _ (List.replicate col.toNat eC) false 0 true (by rw [newR_ok hcu.1 hcu.2]; simp [isB]) (by rw [List.length_replicate]; omega) w21 (SlC.own hoN) (hT.new hH21.new)) ?_
        intro w23 a24 hn he24
        have hH23 := hH21.call hn
        replace hoN := own_fr hoN hn (fun _ _ h => h)
        clear he22 a22 hH21 hn
        refine lV (Value.bool false) he24 rfl rfl (wanted_plain rfl _) (rn_not (b := true) rfl (he24.op rfl) w23) ?_
        intro a25 he25
        clear he24 a24
        refine wpList_nil ?_
        refine then_ok ?_
        refine wp_cond_false (he25.op rfl) ?_
        refine wp_skip ?_
        refine then_ok ?_
        exact ⟨he25.mem ⟨rfl, rfl, rfl, trivial⟩, hH23⟩
    · skip
      rintro ac wc ⟨hec, hHc⟩
      clear he5 hH
      as_aux_lemma =>
        refine wp_seq ?_
        refine wp_region_lit ?_
        refine lV (Value.slice A l.length cap) hec rfl rfl (wanted_plain rfl _) (rn_mv rfl (hec.op rfl) wc) ?_
        intro a26 he26
        clear hec ac
        refine lV (Value.bool so) he26 rfl rfl (wanted_plain rfl _) (rn_mv rfl (he26.op rfl) wc) ?_
        intro a27 he27
        clear he26 a26
        refine lV (Value.agg #[Value.slice A l.length cap, Value.bool so]) he27 rfl rfl (wanted_plain rfl _) (rn_bL01 rfl (he27.op rfl) (he27.op rfl) wc) ?_
        intro a28 he28
        clear he27 a27
        refine lNew (fun p => .pointer (some ⟨p, 0, none⟩)) he28 hHc rfl rfl (wanted_plain rfl _) (rn_allocL rfl wc) ?_
        intro p29 w29 a30 hn hH29 he30
        clear he28 a28 hHc hn
        refine lSetF 0 #[Value.slice A l.length cap, Value.bool so] (cs := #[Value.slice A l.length cap, Value.bool so]) he30 hH29 rfl (wanted_plain rfl _) rfl rfl rfl rfl rfl (by kernel_rfl) (by kernel_rfl) (by kernel_rfl) rfl ?_
        intro w31 a32 hH31 hf he32
        replace hH31 : Hp w [⟨p29, 27, #[Value.slice A l.length cap, Value.bool so]⟩] w31 := hH31
        clear hf
        clear he30 a30 hH29
        refine wpList_nil ?_
        refine then_ok ?_
        have he33 : Env 62 [(7, Value.pointer (some ⟨p29, 0, none⟩)), (1, Value.slice A l.length cap), (2, Value.bool so)] a32 := he32.mem ⟨rfl, rfl, rfl, trivial⟩
        clear he32
        as_aux_lemma =>
          obtain ⟨v, hv⟩ : ∃ v, okL l = v := ⟨_, rfl⟩
          refine wp_seq ?_
          refine wp_seq ?_
          refine wp_region_held_drew (S := Hp w [⟨p29, 27, #[Value.slice A l.length cap, Value.bool so]⟩]) (by kernel_rfl) (hH31.drew) (fun _ => ?_)
          have hn : New w31 (World.drew w31) := (Fr.refl _ _).drew
          clear hn
          have hH34 := hH31.drew
          clear hH31
          generalize World.drew w31 = w34 at *
          refine hV (fuel := 4) (i := 0) (Value.agg #[Value.slice A l.length cap, Value.bool so]) he33 rfl rfl rfl (by kernel_rfl) (by kernel_rfl) (by kernel_rfl) (fun _ _ _ h => h) (wanted_plain rfl _) (fun w' hw' => rn_ldp [Value.slice A l.length cap, Value.bool so] rfl (he33.op rfl) undL rfl infoL2 (hw'.at (i := 0) rfl) rfl) hH34 ?_
          intro a35 he35
          clear he33 a32
          refine hV (fuel := 3) (i := 2) (Value.agg #[Value.slice A l.length cap, Value.bool so]) he35 rfl rfl rfl (by kernel_rfl) (by kernel_rfl) (by kernel_rfl) (fun _ _ _ h => h) (wanted_plain rfl _) (fun w' hw' => rn_ldp [Value.slice A l.length cap, Value.bool so] rfl (he35.op rfl) undL rfl infoL2 (hw'.at (i := 0) rfl) rfl) hH34 ?_
          intro a36 he36
          clear he35 a35
          refine hC (fuel := 2) (i := 1) he36 (by kernel_rfl) rfl rfl rfl Tryd.func13 (by kernel_rfl) rfl rfl (wanted_plain rfl _) rfl (valid_s _ l so v hv w34 (hx.new hH34.new) (hT.new hH34.new)) ?_
          rintro _ w37 ⟨rfl, hn⟩
          have hH37 := hH34.call hn
          refine ⟨_, rfl, hH37, ?_⟩
          intro a38 he38
          clear he36 a36 hH34 hn
          refine hC (fuel := 1) (i := 3) he38 (by kernel_rfl) rfl rfl rfl Tryd.func14 (by kernel_rfl) rfl rfl (wanted_plain rfl _) rfl (rvalid_s _ l so v hv w37 (hx.new hH37.new)) ?_
          rintro _ w39 ⟨rfl, hn⟩
          have hH39 := hH37.call hn
          refine ⟨_, rfl, hH39, ?_⟩
          intro a40 he40
          clear he38 a38 hH37 hn
          refine hV (fuel := 0) (i := 4) (Value.bool false) he40 rfl rfl rfl (by kernel_rfl) (by kernel_rfl) (by kernel_rfl) (fun _ _ _ h => h) (wanted_plain rfl _) (fun w' _ => rn_neB rfl (he40.op rfl) (he40.op rfl) (by simp) w') hH39 ?_
          intro a41 he41
          clear he40 a40
          refine wpAnyH_done (by kernel_rfl) ?_ _
          refine then_ok ?_
          refine wp_cond_false (he41.op rfl) ?_
          refine wp_skip ?_
          refine then_ok ?_
          have he42 : Env 62 [(7, Value.pointer (some ⟨p29, 0, none⟩)), (1, Value.slice A l.length cap), (2, Value.bool so)] a41 := he41.mem ⟨rfl, rfl, rfl, trivial⟩
          clear he41
          cases v with
          | false =>
            refine wp_seq ?_
            refine wp_seq ?_
            refine wp_region_lit ?_
            refine lV (Value.agg #[Value.slice A l.length cap, Value.bool so]) he42 rfl rfl (wanted_plain rfl _) (rn_ldp [Value.slice A l.length cap, Value.bool so] rfl (he42.op rfl) undL rfl infoL2 (hH39.at (i := 0) rfl) rfl) ?_
            intro a43 he43
            clear he42 a41
            refine lC he43 rfl rfl Tryd.func14 (by kernel_rfl) rfl rfl (wanted_plain rfl _) rfl (rvalid_s _ l so false hv w39 (hx.new hH39.new)) ?_
            intro w44 a45 hn he45
            have hH44 := hH39.call hn
            clear he43 a43 hH39 hn
            refine lV (Value.bool true) he45 rfl rfl (wanted_plain rfl _) (rn_not (b := false) rfl (he45.op rfl) w44) ?_
            intro a46 he46
            clear he45 a45
            refine wpList_nil ?_
            refine then_ok ?_
            refine wp_cond_true (he46.op rfl) ?_
            refine wp_seq ?_
            refine wp_region_lit ?_
            refine lV (Value.slice A l.length cap) he46 rfl rfl (wanted_plain rfl _) (rn_mv rfl (he46.op rfl) w44) ?_
            intro a47 he47
            clear he46 a46
            refine lV (Value.bool so) he47 rfl rfl (wanted_plain rfl _) (rn_mv rfl (he47.op rfl) w44) ?_
            intro a48 he48
            clear he47 a47
            refine lV (Value.agg #[Value.slice none 0 0, Value.bool false]) he48 rfl rfl (wanted_plain rfl _) (rn_bL rfl  w44) ?_
            intro a49 he49
            clear he48 a48
            refine lC he49 rfl rfl Tryd.func15 (by kernel_rfl) rfl rfl (wanted_plain rfl _) rfl (of_s _ l so _ [] false 2 true (by rw [ofR, if_neg (by rw [hv]; decide)]; rfl) (by omega) (by decide) w44 (hx.new hH44.new) (SlC.nil _) (hT.new hH44.new)) ?_
            intro w50 a51 hn he51
            have hH50 := hH44.call hn
            clear he49 a49 hH44 hn
            refine lV (Value.bool true) he51 rfl rfl (wanted_plain rfl _) (rn_mv rfl (he51.op rfl) w50) ?_
            intro a52 he52
            clear he51 a51
            refine lC he52 rfl rfl Tryd.func9 (by kernel_rfl) rfl rfl (he52.want rfl rfl rfl rfl rfl) rfl (known_any w50 (hT.new hH50.new)) ?_
            intro w53 a54 hn he54
            have hH53 := hH50.call hn
            clear he52 a52 hH50 hn
            refine lV (Value.bool true) he54 rfl rfl (wanted_plain rfl _) (rn_pk rfl (he54.op rfl) (he54.op rfl) w53) ?_
            intro a55 he55
            clear he54 a54
            refine lV (Value.bool true) he55 rfl rfl (wanted_plain rfl _) (rn_asg rfl (he55.op rfl) w53) ?_
            intro a56 he56
            clear he55 a55
            refine wpList_nil ?_
            refine then_ok ?_
            refine wp_ret ?_
            try simp only [Exit.then, Exit.inBlock]
            exact ret_env rfl he56 rfl ⟨rfl, hH53.new.new_below⟩
          | true =>
            refine wp_seq ?_
            refine wp_seq ?_
            refine wp_region_lit ?_
            refine lV (Value.agg #[Value.slice A l.length cap, Value.bool so]) he42 rfl rfl (wanted_plain rfl _) (rn_ldp [Value.slice A l.length cap, Value.bool so] rfl (he42.op rfl) undL rfl infoL2 (hH39.at (i := 0) rfl) rfl) ?_
            intro a57 he57
            clear he42 a41
            refine lC he57 rfl rfl Tryd.func14 (by kernel_rfl) rfl rfl (wanted_plain rfl _) rfl (rvalid_s _ l so true hv w39 (hx.new hH39.new)) ?_
            intro w58 a59 hn he59
            have hH58 := hH39.call hn
            clear he57 a57 hH39 hn
            refine lV (Value.bool false) he59 rfl rfl (wanted_plain rfl _) (rn_not (b := true) rfl (he59.op rfl) w58) ?_
            intro a60 he60
            clear he59 a59
            refine wpList_nil ?_
            refine then_ok ?_
            refine wp_cond_false (he60.op rfl) ?_
            refine wp_skip ?_
            refine then_ok ?_
            refine wp_seq ?_
            refine wp_region_lit ?_
            refine lV (Value.slice A l.length cap) he60 rfl rfl (wanted_plain rfl _) (rn_mv rfl (he60.op rfl) w58) ?_
            intro a61 he61
            clear he60 a60
            refine lEx he61 rfl rfl (wanted_plain rfl _) (rx_append (own_nil w58 w.heap.size) (hr.new hH58.new) rfl (he61.op rfl) (he61.op rfl) (by omega) hH58.new.size) ?_
            rintro vx wx ⟨hox, hgx, horx⟩
            have hHx := hH58.ownC (own_nil w58 w.heap.size) hgx (Nat.le_refl _) (by kernel_rfl)
            intro a62 he62
            clear he61 a61
            clear hgx horx
            rw [List.nil_append] at hox
            have hq_ := own_shape hox
            clear hox
            obtain ⟨Ao, co, rfl, hox⟩ := hq_
            refine lV (Value.slice Ao l.length co) he62 rfl rfl (wanted_plain rfl _) (rn_asg rfl (he62.op rfl) wx) ?_
            intro a63 he63
            clear he62 a62
            refine wpList_nil ?_
            refine then_ok ?_
            have he64 : Env 62 [(8, Value.slice Ao l.length co), (7, Value.pointer (some ⟨p29, 0, none⟩)), (1, Value.slice A l.length cap), (2, Value.bool so)] a63 := he63.mem ⟨rfl, rfl, rfl, rfl, trivial⟩
            clear he63
            as_aux_lemma =>
              have hol : (ofR l so).L.length ≤ 1000000 := by have := ofR_len l so; omega
              refine wp_seq ?_
              refine wp_region_lit ?_
              refine lV (Value.slice Ao l.length co) he64 rfl rfl (wanted_plain rfl _) (rn_mv rfl (he64.op rfl) wx) ?_
              intro a65 he65
              clear he64 a63
              refine lV (Value.bool so) he65 rfl rfl (wanted_plain rfl _) (rn_mv rfl (he65.op rfl) wx) ?_
              intro a66 he66
              clear he65 a65
              have hzhoY := hHx.new.size
              refine lCx he66 rfl rfl Tryd.func16 (by kernel_rfl) rfl rfl (wanted_plain rfl _) rfl (of_l _ l so wx (SlC.own hox) (hT.new hHx.new)) ?_
              rintro _ w67 ⟨⟨Ay, cy, rfl, hoY⟩, hn⟩
              have hnehoYhox := rows_apart hox hoY
              replace hoY := own_base hoY (fun k_ hk_ => Nat.le_trans hzhoY (own_blk hoY k_ hk_))
              clear hzhoY
              refine ⟨_, rfl, ?_⟩
              intro a68 he68
              have hH67 := hHx.call hn
              replace hox := own_fr hox hn (fun _ _ h => h)
              clear he66 a66 hHx
              clear hn
              refine lV (Value.tuple #[Value.agg #[Value.slice Ay ((ofR l so).L).length cy, Value.bool ((ofR l so).s)], Value.int .i64 ((ofR l so).e)]) he68 rfl rfl (wanted_plain rfl _) (rn_mv rfl (he68.op rfl) w67) ?_
              intro a69 he69
              clear he68 a68
              refine lV (Value.agg #[Value.slice Ay ((ofR l so).L).length cy, Value.bool ((ofR l so).s)]) he69 rfl rfl (wanted_plain rfl _) (rn_ext rfl (he69.op rfl) rfl w67) ?_
              intro a70 he70
              clear he69 a69
              refine lV (Value.int .i64 ((ofR l so).e)) he70 rfl rfl (wanted_plain rfl _) (rn_ext rfl (he70.op rfl) rfl w67) ?_
              intro a71 he71
              clear he70 a70
              refine lNew (fun p => .pointer (some ⟨p, 0, none⟩)) he71 hH67 rfl rfl (wanted_plain rfl _) (rn_allocL rfl w67) ?_
              intro p72 w72 a73 hn hH72 he73
              replace hox := own_fr hox hn (fun _ _ h => h)
              replace hoY := own_fr hoY hn (fun _ _ h => h)
              clear he71 a71 hH67 hn
              refine lSetF 0 #[Value.slice Ay ((ofR l so).L).length cy, Value.bool ((ofR l so).s)] (cs := #[Value.slice Ay ((ofR l so).L).length cy, Value.bool ((ofR l so).s)]) he73 hH72 rfl (wanted_plain rfl _) rfl rfl rfl rfl rfl (by kernel_rfl) (by kernel_rfl) (by kernel_rfl) rfl ?_
              intro w74 a75 hH74 hf he75
              replace hox := own_fr hox hf (fun k_ hk_ e_ => own_far hox (hH72.at (i := 0) rfl) (show 60 ≠ 27 from by decide) (hk_.trans (congrArg some e_)))
              replace hoY := own_fr hoY hf (fun k_ hk_ e_ => own_far hoY (hH72.at (i := 0) rfl) (show 60 ≠ 27 from by decide) (hk_.trans (congrArg some e_)))
              replace hH74 : Hp w [⟨p72, 27, #[Value.slice Ay ((ofR l so).L).length cy, Value.bool ((ofR l so).s)]⟩, ⟨p29, 27, #[Value.slice A l.length cap, Value.bool so]⟩] w74 := hH74
              clear hf
              clear he73 a73 hH72
              refine lV (Value.int .i64 ((ofR l so).e)) he75 rfl rfl (wanted_plain rfl _) (rn_asg rfl (he75.op rfl) w74) ?_
              intro a76 he76
              clear he75 a75
              refine wpList_nil ?_
              refine then_ok ?_
              have he77 : Env 62 [(10, Value.int .i64 ((ofR l so).e)), (9, Value.pointer (some ⟨p72, 0, none⟩)), (8, Value.slice Ao l.length co), (7, Value.pointer (some ⟨p29, 0, none⟩)), (1, Value.slice A l.length cap), (2, Value.bool so)] a76 := he76.mem ⟨rfl, rfl, rfl, rfl, rfl, rfl, trivial⟩
              clear he76
              as_aux_lemma =>
                refine wp_seq ?_
                refine wp_region_lit ?_
                refine lV (Value.slice Ao l.length co) he77 rfl rfl (wanted_plain rfl _) (rn_mv rfl (he77.op rfl) w74) ?_
                intro a78 he78
                clear he77 a76
                refine lCx he78 rfl rfl Tryd.func17 (by kernel_rfl) rfl rfl (wanted_plain rfl _) rfl (stainP hox (by omega)) ?_
                rintro _ w79 ⟨rfl, hf⟩
                have hH79 := hH74.ownV hox hf (Nat.le_refl _) (by kernel_rfl)
                replace hoY := own_fr hoY hf (fun k_ h1_ h2_ => by first | exact hnehoxhoY k_ h1_ h2_ | exact hnehoYhox k_ h2_ h1_)
                refine ⟨_, rfl, ?_⟩
                intro a80 he80
                clear he78 a78 hH74 hf hox
                refine wpList_nil ?_
                refine then_ok ?_
                have he81 : Env 62 [(10, Value.int .i64 ((ofR l so).e)), (9, Value.pointer (some ⟨p72, 0, none⟩)), (7, Value.pointer (some ⟨p29, 0, none⟩))] a80 := he80.mem ⟨rfl, rfl, rfl, trivial⟩
                clear he80
                refine wp_seq ?_
                refine wp_region_lit ?_
                refine lV (Value.agg #[Value.slice Ay ((ofR l so).L).length cy, Value.bool ((ofR l so).s)]) he81 rfl rfl (wanted_plain rfl _) (rn_ldp [Value.slice Ay ((ofR l so).L).length cy, Value.bool ((ofR l so).s)] rfl (he81.op rfl) undL rfl infoL2 (hH79.at (i := 0) rfl) rfl) ?_
                intro a82 he82
                clear he81 a80
                refine lV (Value.int .i64 ((ofR l so).e)) he82 rfl rfl (wanted_plain rfl _) (rn_mv rfl (he82.op rfl) w79) ?_
                intro a83 he83
                clear he82 a82
                refine lV (Value.agg #[Value.slice A l.length cap, Value.bool so]) he83 rfl rfl (wanted_plain rfl _) (rn_ldp [Value.slice A l.length cap, Value.bool so] rfl (he83.op rfl) undL rfl infoL2 (hH79.at (i := 1) rfl) rfl) ?_
                intro a84 he84
                clear he83 a83
                refine lC he84 rfl rfl Tryd.func18 (by kernel_rfl) rfl rfl (wanted_plain rfl _) rfl (is_s _ (ofR l so).L (ofR l so).s (ofR l so).e _ l so 0 true (by rw [ofR, if_pos hv]; simp [isB]) hol (by omega) w79 (SlC.own hoY) (hx.new hH79.new)) ?_
                intro w85 a86 hn he86
                have hH85 := hH79.call hn
                replace hoY := own_fr hoY hn (fun _ _ h => h)
                clear he84 a84 hH79 hn
                refine lV (Value.bool true) he86 rfl rfl (wanted_plain rfl _) (rn_mv rfl (he86.op rfl) w85) ?_
                intro a87 he87
                clear he86 a86
                refine lC he87 rfl rfl Tryd.func9 (by kernel_rfl) rfl rfl (he87.want rfl rfl rfl rfl rfl) rfl (known_any w85 (hT.new hH85.new)) ?_
                intro w88 a89 hn he89
                have hH88 := hH85.call hn
                replace hoY := own_fr hoY hn (fun _ _ h => h)
                clear he87 a87 hH85 hn
                refine lV (Value.bool true) he89 rfl rfl (wanted_plain rfl _) (rn_pk rfl (he89.op rfl) (he89.op rfl) w88) ?_
                intro a90 he90
                clear he89 a89
                refine lV (Value.bool true) he90 rfl rfl (wanted_plain rfl _) (rn_asg rfl (he90.op rfl) w88) ?_
                intro a91 he91
                clear he90 a90
                refine wpList_nil ?_
                refine then_ok ?_
                refine wp_ret ?_
                try simp only [Exit.then, Exit.inBlock]
                exact ret_env rfl he91 rfl ⟨rfl, hH88.new.new_below⟩
  · skip
    refine wp_seq ?_
    refine wp_seq ?_
    refine wp_region_lit ?_
    refine lV (Value.slice A l.length cap) he1 rfl rfl (wanted_plain rfl _) (rn_mv rfl (he1.op rfl) w) ?_
    intro a92 he92
    clear he1 a1
    refine lV (Value.int .i64 (l.length : Nat)) he92 rfl rfl (wanted_plain rfl _) (rn_lenC rfl (he92.op rfl) w) ?_
    intro a93 he93
    clear he92 a92
    refine lV (Value.bool true) he93 rfl rfl (wanted_plain rfl _) (rn_gtr rfl (he93.op rfl) (he93.op rfl) (decide_eq_true (by omega)) w) ?_
    intro a94 he94
    clear he93 a93
    refine wpList_nil ?_
    refine then_ok ?_
    refine wp_cond_true (he94.op rfl) ?_
    refine wp_seq ?_
    refine wp_region_lit ?_
    refine lC he94 rfl rfl Tryd.func9 (by kernel_rfl) rfl rfl (wanted_plain rfl _) rfl (known_any w (hT.new hH.new)) ?_
    intro w95 a96 hn he96
    have hH95 := hH.call hn
    clear he94 a94 hH hn
    refine lV (Value.bool true) he96 rfl rfl (wanted_plain rfl _) (rn_asg rfl (he96.op rfl) w95) ?_
    intro a97 he97
    clear he96 a96
    refine wpList_nil ?_
    refine then_ok ?_
    refine wp_ret ?_
    try simp only [Exit.then, Exit.inBlock]
    exact ret_env rfl he97 rfl ⟨rfl, hH95.new.new_below⟩

set_option linter.unusedSimpArgs false in
set_option maxRecDepth 100000 in
set_option maxHeartbeats 1600000 in
theorem lineLongs_walk (n : Int) (last : Bool) (w : World) (hT : Tab w) :
    Calls Tryd.prog 7 #[.int .i64 n, .bool last] w fun e w' => e = .returned (.bool true) ∧ Below w.heap.size w w' := by
  refine calls_args (vl := [Value.int .i64 n, Value.bool last]) 76 Tryd.func7 rfl Tryd.ntmps7 (by kernel_rfl) (fun a he => ?_)
  have he0 : Env 76 [(0, Value.int .i64 n), (1, Value.bool last)] a := he
  clear he
  have hH := Hp.start w
  refine wp_seq ?_
  refine wp_region_lit ?_
  refine lV (Value.bool false) he0 rfl rfl (wanted_plain rfl _) (rn_asg rfl (he0.op rfl) w) ?_
  intro a1 he1
  clear he0 a
  refine wpList_nil ?_
  refine then_ok ?_
  by_cases h1 : n < 998
  · skip
    refine wp_seq ?_
    refine wp_seq ?_
    refine wp_region_lit ?_
    refine lV (Value.int .i64 n) he1 rfl rfl (wanted_plain rfl _) (rn_mv rfl (he1.op rfl) w) ?_
    intro a2 he2
    clear he1 a1
    refine lV (Value.bool true) he2 rfl rfl (wanted_plain rfl _) (rn_lss rfl (he2.op rfl) (he2.op rfl) (decide_eq_true (by omega)) w) ?_
    intro a3 he3
    clear he2 a2
    refine lV (Value.bool true) he3 rfl rfl (wanted_plain rfl _) (rn_mv rfl (he3.op rfl) w) ?_
    intro a4 he4
    clear he3 a3
    refine lSkip he4 rfl rfl (he4.wantNot rfl rfl rfl rfl rfl rfl) ?_
    intro a5 he5
    clear he4 a4
    refine lSkip he5 rfl rfl (he5.wantNot rfl rfl rfl rfl rfl rfl) ?_
    intro a6 he6
    clear he5 a5
    refine lV (Value.bool true) he6 rfl rfl (wanted_plain rfl _) (rn_pk rfl (he6.op rfl) (he6.op rfl) w) ?_
    intro a7 he7
    clear he6 a6
    refine wpList_nil ?_
    refine then_ok ?_
    refine wp_cond_true (he7.op rfl) ?_
    refine wp_seq ?_
    refine wp_region_lit ?_
    refine lC he7 rfl rfl Tryd.func9 (by kernel_rfl) rfl rfl (wanted_plain rfl _) rfl (known_any w (hT.new hH.new)) ?_
    intro w8 a9 hn he9
    have hH8 := hH.call hn
    clear he7 a7 hH hn
    refine lV (Value.bool true) he9 rfl rfl (wanted_plain rfl _) (rn_asg rfl (he9.op rfl) w8) ?_
    intro a10 he10
    clear he9 a9
    refine wpList_nil ?_
    refine then_ok ?_
    refine wp_ret ?_
    try simp only [Exit.then, Exit.inBlock]
    exact ret_env rfl he10 rfl ⟨rfl, hH8.new.new_below⟩
  by_cases h2 : 1002 < n
  · skip
    refine wp_seq ?_
    refine wp_seq ?_
    refine wp_region_lit ?_
    refine lV (Value.int .i64 n) he1 rfl rfl (wanted_plain rfl _) (rn_mv rfl (he1.op rfl) w) ?_
    intro a11 he11
    clear he1 a1
    refine lV (Value.bool false) he11 rfl rfl (wanted_plain rfl _) (rn_lss rfl (he11.op rfl) (he11.op rfl) (decide_eq_false (by omega)) w) ?_
    intro a12 he12
    clear he11 a11
    refine lV (Value.bool false) he12 rfl rfl (wanted_plain rfl _) (rn_mv rfl (he12.op rfl) w) ?_
    intro a13 he13
    clear he12 a12
    refine lV (Value.int .i64 n) he13 rfl rfl (he13.want rfl rfl rfl rfl rfl) (rn_mv rfl (he13.op rfl) w) ?_
    intro a14 he14
    clear he13 a13
    refine lV (Value.bool true) he14 rfl rfl (he14.want rfl rfl rfl rfl rfl) (rn_gtr rfl (he14.op rfl) (he14.op rfl) (decide_eq_true (by omega)) w) ?_
    intro a15 he15
    clear he14 a14
    refine lV (Value.bool true) he15 rfl rfl (wanted_plain rfl _) (rn_pk0 rfl (he15.op rfl) (he15.op rfl) w) ?_
    intro a16 he16
    clear he15 a15
    refine wpList_nil ?_
    refine then_ok ?_
    refine wp_cond_true (he16.op rfl) ?_
    refine wp_seq ?_
    refine wp_region_lit ?_
    refine lC he16 rfl rfl Tryd.func9 (by kernel_rfl) rfl rfl (wanted_plain rfl _) rfl (known_any w (hT.new hH.new)) ?_
    intro w17 a18 hn he18
    have hH17 := hH.call hn
    clear he16 a16 hH hn
    refine lV (Value.bool true) he18 rfl rfl (wanted_plain rfl _) (rn_asg rfl (he18.op rfl) w17) ?_
    intro a19 he19
    clear he18 a18
    refine wpList_nil ?_
    refine then_ok ?_
    refine wp_ret ?_
    try simp only [Exit.then, Exit.inBlock]
    exact ret_env rfl he19 rfl ⟨rfl, hH17.new.new_below⟩
  · skip
    refine wp_seq ?_
    refine wp_seq ?_
    refine wp_region_lit ?_
    refine lV (Value.int .i64 n) he1 rfl rfl (wanted_plain rfl _) (rn_mv rfl (he1.op rfl) w) ?_
    intro a20 he20
    clear he1 a1
    refine lV (Value.bool false) he20 rfl rfl (wanted_plain rfl _) (rn_lss rfl (he20.op rfl) (he20.op rfl) (decide_eq_false (by omega)) w) ?_
    intro a21 he21
    clear he20 a20
    refine lV (Value.bool false) he21 rfl rfl (wanted_plain rfl _) (rn_mv rfl (he21.op rfl) w) ?_
    intro a22 he22
    clear he21 a21
    refine lV (Value.int .i64 n) he22 rfl rfl (he22.want rfl rfl rfl rfl rfl) (rn_mv rfl (he22.op rfl) w) ?_
    intro a23 he23
    clear he22 a22
    refine lV (Value.bool false) he23 rfl rfl (he23.want rfl rfl rfl rfl rfl) (rn_gtr rfl (he23.op rfl) (he23.op rfl) (decide_eq_false (by omega)) w) ?_
    intro a24 he24
    clear he23 a23
    refine lV (Value.bool false) he24 rfl rfl (wanted_plain rfl _) (rn_pk0 rfl (he24.op rfl) (he24.op rfl) w) ?_
    intro a25 he25
    clear he24 a24
    refine wpList_nil ?_
    refine then_ok ?_
    refine wp_cond_false (he25.op rfl) ?_
    refine wp_skip ?_
    refine then_ok ?_
    obtain ⟨N, rfl⟩ : ∃ N : Nat, n = N := ⟨n.toNat, by omega⟩
    have he26 : Env 76 [(0, Value.int .i64 (N : Int)), (1, Value.bool last)] a25 := he25.mem ⟨rfl, rfl, trivial⟩
    clear he25
    refine wp_seq ?_
    refine wp_region_lit ?_
    refine lV (Value.int .i64 (N : Int)) he26 rfl rfl (wanted_plain rfl _) (rn_mv rfl (he26.op rfl) w) ?_
    intro a27 he27
    clear he26 a25
    have hzhoL := hH.new.size
    refine lCx he27 rfl rfl Tryd.func12 (by kernel_rfl) rfl rfl (wanted_plain rfl _) rfl ((by have h := RNew_any (N : Int) (by omega) w; rwa [Int.toNat_natCast] at h)) ?_
    rintro _ w28 ⟨⟨Al, cl, rfl, hoL⟩, hn⟩
    replace hoL := own_base hoL (fun k_ hk_ => Nat.le_trans hzhoL (own_blk hoL k_ hk_))
    clear hzhoL
    refine ⟨_, rfl, ?_⟩
    intro a29 he29
    have hH28 := hH.call hn
    clear he27 a27 hH
    clear hn
    refine lNew (fun p => .pointer (some ⟨p, 0, none⟩)) he29 hH28 rfl rfl (wanted_plain rfl _) (rn_allocL rfl w28) ?_
    intro p30 w30 a31 hn hH30 he31
    replace hoL := own_fr hoL hn (fun _ _ h => h)
    clear he29 a29 hH28 hn
    refine lSetF 0 #[Value.slice Al (List.replicate N eC).length cl, Value.bool false] (cs := #[Value.slice Al (List.replicate N eC).length cl, Value.bool false]) he31 hH30 rfl (wanted_plain rfl _) rfl rfl rfl rfl rfl (by kernel_rfl) (by kernel_rfl) (by kernel_rfl) rfl ?_
    intro w32 a33 hH32 hf he33
    replace hoL := own_fr hoL hf (fun k_ hk_ e_ => own_far hoL (hH30.at (i := 0) rfl) (show 60 ≠ 27 from by decide) (hk_.trans (congrArg some e_)))
    replace hH32 : Hp w [⟨p30, 27, #[Value.slice Al (List.replicate N eC).length cl, Value.bool false]⟩] w32 := hH32
    clear hf
    clear he31 a31 hH30
    refine wpList_nil ?_
    refine then_ok ?_
    have he34 : Env 76 [(5, Value.pointer (some ⟨p30, 0, none⟩)), (0, Value.int .i64 (N : Int)), (1, Value.bool last)] a33 := he33.mem ⟨rfl, rfl, rfl, trivial⟩
    clear he33
    rw [List.length_replicate] at hoL hH32
    refine wp_seq ?_
    refine wp_region_lit ?_
    refine lV (Value.int .i64 0) he34 rfl rfl (wanted_plain rfl _) (rn_asg rfl (he34.op rfl) w32) ?_
    intro a35 he35
    clear he34 a33
    refine wpList_nil ?_
    refine then_ok ?_
    as_aux_lemma =>
      refine wp_seq ?_
      refine reg_cut (fun a w' => ∃ (L : List Ce) (u : Nat), L.length = N ∧ usedN L = u ∧ rowB L = true ∧ Env 76 [(0, Value.int .i64 (N : Int)), (5, Value.pointer (some ⟨p30, 0, none⟩)), (6, Value.int .i64 (u : Int))] a ∧ Hp w [⟨p30, 27, #[Value.slice Al N cl, Value.bool false]⟩] w' ∧ OwnC w' w.heap.size (.slice Al N cl) N L) ?_ ?_
      · skip
        refine wp_seq ?_
        refine wp_region_lit ?_
        refine lV (Value.bool last) he35 rfl rfl (wanted_plain rfl _) (rn_mv rfl (he35.op rfl) w32) ?_
        intro a36 he36
        clear he35 a35
        refine wpList_nil ?_
        refine then_ok ?_
        cases last with
        | false =>
          refine wp_cond_false (he36.op rfl) ?_
          refine wp_skip ?_
          refine then_ok ?_
          exact ⟨(List.replicate N eC), 0, List.length_replicate, by have h := used_pad [] N; simpa [usedN] using h, row_pad N, he36.mem ⟨rfl, rfl, rfl, trivial⟩, hH32, hoL⟩
        | true =>
          refine wp_cond_true (he36.op rfl) ?_
          obtain ⟨g, hA, hgb⟩ := own_addr hoL (by omega)
          subst hA
          refine wp_seq ?_
          refine wp_region_lit ?_
          refine lV (Value.pointer (some ⟨p30, 0, none⟩)) he36 rfl rfl (wanted_plain rfl _) (rn_faL0 rfl (he36.op rfl) rfl w32) ?_
          intro a37 he37
          clear he36 a36
          refine lV (Value.slice (some ⟨g, 0, none⟩) N cl) he37 rfl rfl (wanted_plain rfl _) (rn_ldS rfl (he37.op rfl) (hH32.at (i := 0) rfl) rfl) ?_
          intro a38 he38
          clear he37 a37
          refine lV (Value.int .i64 (N : Int)) he38 rfl rfl (wanted_plain rfl _) (rn_mv rfl (he38.op rfl) w32) ?_
          intro a39 he39
          clear he38 a38
          refine lV (Value.int .i64 ((N - 1 : Nat) : Int)) he39 rfl rfl (wanted_plain rfl _) (rn_subI rfl (he39.op rfl) (he39.op rfl) (by rw [IntWalk.i64_in _ ⟨by omega, by omega⟩]; omega) w32) ?_
          intro a40 he40
          clear he39 a39
          refine lV (Value.pointer (some ⟨g, (N - 1) * 16, none⟩)) he40 rfl rfl (wanted_plain rfl _) (rn_idx (A := ⟨g, 0, none⟩) (i := N - 1) rfl (he40.op rfl) (he40.op rfl) (by omega) (by rw [addr_add, Nat.zero_add]) w32) ?_
          intro a41 he41
          clear he40 a40
          refine lV (Value.pointer (some ⟨g, (N - 1) * 16, none⟩)) he41 rfl rfl (wanted_plain rfl _) (rn_faC0 rfl (he41.op rfl) (by rw [Nat.add_zero]) w32) ?_
          intro a42 he42
          clear he41 a41
          refine lStOwn he42 hoL rfl (wanted_plain rfl _) rfl rfl rfl rfl rfl (by kernel_rfl) (by omega) ?_
          intro wx a43 hox hf he43
          have hHx := hH32.ownF hoL hf (Nat.le_refl _) (by kernel_rfl)
          clear he42 a42 hH32 hf hoL
          have hfs := flat_setC (List.replicate (N - 1) eC) eC 97
          rw [← rep_last N (by omega), List.length_replicate] at hfs
          rw [hfs] at hox
          refine wpList_nil ?_
          refine then_ok ?_
          refine wp_region_lit ?_
          refine lV (Value.int .i64 (N : Int)) he43 rfl rfl (wanted_plain rfl _) (rn_mv rfl (he43.op rfl) wx) ?_
          intro a44 he44
          clear he43 a43
          refine lV (Value.int .i64 (N : Int)) he44 rfl rfl (wanted_plain rfl _) (rn_asg rfl (he44.op rfl) wx) ?_
          intro a45 he45
          clear he44 a44
          refine wpList_nil ?_
          refine then_ok ?_
          exact ⟨List.replicate (N - 1) eC ++ [aC], N, by rw [List.length_append, List.length_replicate]; simp; omega, by rw [used_snoc, if_neg (by decide +kernel), List.length_replicate]; omega, row_append (row_pad _) row_a, he45.mem ⟨rfl, rfl, rfl, trivial⟩, hHx, hox⟩
      · skip
        rintro ac wc ⟨L, u, hLn, hLu, hLr, hec, hHc, hoc⟩
        clear he35 hH32 hoL
        as_aux_lemma =>
          refine wp_seq ?_
          refine wp_seq ?_
          refine wp_region_lit ?_
          refine lV (Value.agg #[Value.slice Al N cl, Value.bool false]) hec rfl rfl (wanted_plain rfl _) (rn_ldp [Value.slice Al N cl, Value.bool false] rfl (hec.op rfl) undL rfl infoL2 (hHc.at (i := 0) rfl) rfl) ?_
          intro a46 he46
          clear hec ac
          refine lC he46 rfl rfl Tryd.func20 (by kernel_rfl) rfl rfl (wanted_plain rfl _) rfl (used_s _ L false u hLu (by omega) wc (SlC.own hoc)) ?_
          intro w47 a48 hn he48
          have hH47 := hHc.call hn
          replace hoc := own_fr hoc hn (fun _ _ h => h)
          clear he46 a46 hHc hn
          refine lV (Value.int .i64 (u : Int)) he48 rfl rfl (wanted_plain rfl _) (rn_mv rfl (he48.op rfl) w47) ?_
          intro a49 he49
          clear he48 a48
          refine lV (Value.bool false) he49 rfl rfl (wanted_plain rfl _) (rn_neI rfl (he49.op rfl) (he49.op rfl) (by simp) w47) ?_
          intro a50 he50
          clear he49 a49
          refine wpList_nil ?_
          refine then_ok ?_
          refine wp_cond_false (he50.op rfl) ?_
          refine wp_skip ?_
          refine then_ok ?_
          have he51 : Env 76 [(0, Value.int .i64 (N : Int)), (5, Value.pointer (some ⟨p30, 0, none⟩))] a50 := he50.mem ⟨rfl, rfl, trivial⟩
          clear he50
          as_aux_lemma =>
            by_cases h3 : 1000 < N
            · skip
              refine wp_seq ?_
              refine wp_seq ?_
              refine wp_region_lit ?_
              refine lV (Value.int .i64 (N : Int)) he51 rfl rfl (wanted_plain rfl _) (rn_mv rfl (he51.op rfl) w47) ?_
              intro a52 he52
              clear he51 a50
              refine lV (Value.bool true) he52 rfl rfl (wanted_plain rfl _) (rn_gtr rfl (he52.op rfl) (he52.op rfl) (decide_eq_true (by omega)) w47) ?_
              intro a53 he53
              clear he52 a52
              refine wpList_nil ?_
              refine then_ok ?_
              refine wp_cond_true (he53.op rfl) ?_
              have hv : okL L = false := by rw [okL, decide_eq_false (by omega)]; rfl
              refine wp_seq ?_
              refine wp_region_lit ?_
              refine lV (Value.agg #[Value.slice Al N cl, Value.bool false]) he53 rfl rfl (wanted_plain rfl _) (rn_ldp [Value.slice Al N cl, Value.bool false] rfl (he53.op rfl) undL rfl infoL2 (hH47.at (i := 0) rfl) rfl) ?_
              intro a54 he54
              clear he53 a53
              refine lC he54 rfl rfl Tryd.func13 (by kernel_rfl) rfl rfl (wanted_plain rfl _) rfl (valid_s _ L false false hv w47 (SlC.own hoc) (hT.new hH47.new)) ?_
              intro w55 a56 hn he56
              have hH55 := hH47.call hn
              replace hoc := own_fr hoc hn (fun _ _ h => h)
              clear he54 a54 hH47 hn
              refine lV (Value.bool true) he56 rfl rfl (wanted_plain rfl _) (rn_not (b := false) rfl (he56.op rfl) w55) ?_
              intro a57 he57
              clear he56 a56
              refine lV (Value.bool true) he57 rfl rfl (wanted_plain rfl _) (rn_mv rfl (he57.op rfl) w55) ?_
              intro a58 he58
              clear he57 a57
              refine lV (Value.pointer (some ⟨p30, 0, none⟩)) he58 rfl rfl (he58.want rfl rfl rfl rfl rfl) (rn_faL0 rfl (he58.op rfl) rfl w55) ?_
              intro a59 he59
              clear he58 a58
              refine lV (Value.slice Al N cl) he59 rfl rfl (he59.want rfl rfl rfl rfl rfl) (rn_ldS rfl (he59.op rfl) (hH55.at (i := 0) rfl) rfl) ?_
              intro a60 he60
              clear he59 a59
              refine lV (Value.agg #[Value.slice none 0 0, Value.bool false]) he60 rfl rfl (he60.want rfl rfl rfl rfl rfl) (rn_bL rfl  w55) ?_
              intro a61 he61
              clear he60 a60
              refine lC he61 rfl rfl Tryd.func15 (by kernel_rfl) rfl rfl (he61.want rfl rfl rfl rfl rfl) rfl (of_s _ L false _ [] false 2 true (by rw [ofR, if_neg (by rw [hv]; decide)]; rfl) (by omega) (by decide) w55 (SlC.own hoc) (SlC.nil _) (hT.new hH55.new)) ?_
              intro w62 a63 hn he63
              have hH62 := hH55.call hn
              replace hoc := own_fr hoc hn (fun _ _ h => h)
              clear he61 a61 hH55 hn
              refine lV (Value.bool true) he63 rfl rfl (wanted_plain rfl _) (rn_pk rfl (he63.op rfl) (he63.op rfl) w62) ?_
              intro a64 he64
              clear he63 a63
              refine lV (Value.bool true) he64 rfl rfl (wanted_plain rfl _) (rn_mv rfl (he64.op rfl) w62) ?_
              intro a65 he65
              clear he64 a64
              refine lV (Value.int .i64 (N : Int)) he65 rfl rfl (he65.want rfl rfl rfl rfl rfl) (rn_mv rfl (he65.op rfl) w62) ?_
              intro a66 he66
              clear he65 a65
              refine lV (Value.agg #[Value.slice none 0 0, Value.bool false]) he66 rfl rfl (he66.want rfl rfl rfl rfl rfl) (rn_bL rfl  w62) ?_
              intro a67 he67
              clear he66 a66
              refine lC he67 rfl rfl Tryd.func11 (by kernel_rfl) rfl rfl (he67.want rfl rfl rfl rfl rfl) rfl (news_s (N : Int) _ [] false 2 true (by rw [newR, fitR_no (by rw [decide_eq_false (by omega : ¬ (N : Int) ≤ 1000), Bool.and_false]; rfl)]; rfl) (by decide) w62 (SlC.nil _) (hT.new hH62.new)) ?_
              intro w68 a69 hn he69
              have hH68 := hH62.call hn
              replace hoc := own_fr hoc hn (fun _ _ h => h)
              clear he67 a67 hH62 hn
              refine lV (Value.bool true) he69 rfl rfl (wanted_plain rfl _) (rn_pk rfl (he69.op rfl) (he69.op rfl) w68) ?_
              intro a70 he70
              clear he69 a69
              refine lV (Value.bool true) he70 rfl rfl (wanted_plain rfl _) (rn_mv rfl (he70.op rfl) w68) ?_
              intro a71 he71
              clear he70 a70
              refine lV (Value.agg #[Value.slice Al N cl, Value.bool false]) he71 rfl rfl (he71.want rfl rfl rfl rfl rfl) (rn_ldp [Value.slice Al N cl, Value.bool false] rfl (he71.op rfl) undL rfl infoL2 (hH68.at (i := 0) rfl) rfl) ?_
              intro a72 he72
              clear he71 a71
              refine lV (Value.agg #[Value.slice none 0 0, Value.bool false]) he72 rfl rfl (he72.want rfl rfl rfl rfl rfl) (rn_bL rfl  w68) ?_
              intro a73 he73
              clear he72 a72
              refine lC he73 rfl rfl Tryd.func28 (by kernel_rfl) rfl rfl (he73.want rfl rfl rfl rfl rfl) rfl (trims_s _ L false _ [] false 2 true (by rw [trimR_no hv]; rfl) (by omega) (by decide) w68 (SlC.own hoc) (SlC.nil _) (hT.new hH68.new)) ?_
              intro w74 a75 hn he75
              have hH74 := hH68.call hn
              replace hoc := own_fr hoc hn (fun _ _ h => h)
              clear he73 a73 hH68 hn
              refine lV (Value.bool true) he75 rfl rfl (wanted_plain rfl _) (rn_pk rfl (he75.op rfl) (he75.op rfl) w74) ?_
              intro a76 he76
              clear he75 a75
              refine lV (Value.bool true) he76 rfl rfl (wanted_plain rfl _) (rn_mv rfl (he76.op rfl) w74) ?_
              intro a77 he77
              clear he76 a76
              refine lC he77 rfl rfl Tryd.func9 (by kernel_rfl) rfl rfl (he77.want rfl rfl rfl rfl rfl) rfl (known_any w74 (hT.new hH74.new)) ?_
              intro w78 a79 hn he79
              have hH78 := hH74.call hn
              replace hoc := own_fr hoc hn (fun _ _ h => h)
              clear he77 a77 hH74 hn
              refine lV (Value.bool true) he79 rfl rfl (wanted_plain rfl _) (rn_pk rfl (he79.op rfl) (he79.op rfl) w78) ?_
              intro a80 he80
              clear he79 a79
              refine lV (Value.bool true) he80 rfl rfl (wanted_plain rfl _) (rn_asg rfl (he80.op rfl) w78) ?_
              intro a81 he81
              clear he80 a80
              refine wpList_nil ?_
              refine then_ok ?_
              refine wp_ret ?_
              try simp only [Exit.then, Exit.inBlock]
              exact ret_env rfl he81 rfl ⟨rfl, hH78.new.new_below⟩
            · skip
              refine wp_seq ?_
              refine wp_seq ?_
              refine wp_region_lit ?_
              refine lV (Value.int .i64 (N : Int)) he51 rfl rfl (wanted_plain rfl _) (rn_mv rfl (he51.op rfl) w47) ?_
              intro a82 he82
              clear he51 a50
              refine lV (Value.bool false) he82 rfl rfl (wanted_plain rfl _) (rn_gtr rfl (he82.op rfl) (he82.op rfl) (decide_eq_false (by omega)) w47) ?_
              intro a83 he83
              clear he82 a82
              refine wpList_nil ?_
              refine then_ok ?_
              refine wp_cond_false (he83.op rfl) ?_
              refine wp_skip ?_
              refine then_ok ?_
              have hv : okL L = true := okL_mk (by omega) hLr
              have hu0 := used_le L
              have hz : (L.take (usedN L)).length ≤ 1000000 := by rw [List.length_take]; omega
              refine wp_seq ?_
              refine wp_region_held_drew (S := Hp w [⟨p30, 27, #[Value.slice Al N cl, Value.bool false]⟩]) (by kernel_rfl) (hH47.drew) (fun _ => ?_)
              have hn : New w47 (World.drew w47) := (Fr.refl _ _).drew
              replace hoc := own_fr hoc hn (fun _ _ h => h)
              clear hn
              have hH84 := hH47.drew
              clear hH47
              generalize World.drew w47 = w84 at *
              refine hV (fuel := 24) (i := 0) (Value.agg #[Value.slice Al N cl, Value.bool false]) he83 rfl rfl rfl (by kernel_rfl) (by kernel_rfl) (by kernel_rfl) (fun _ _ _ h => h) (wanted_plain rfl _) (fun w' hw' => rn_ldp [Value.slice Al N cl, Value.bool false] rfl (he83.op rfl) undL rfl infoL2 (hw'.at (i := 0) rfl) rfl) hH84 ?_
              intro a85 he85
              clear he83 a83
              refine hC (fuel := 23) (i := 1) he85 (by kernel_rfl) rfl rfl rfl Tryd.func13 (by kernel_rfl) rfl rfl (wanted_plain rfl _) rfl (valid_s _ L false true hv w84 (SlC.own hoc) (hT.new hH84.new)) ?_
              rintro _ w86 ⟨rfl, hn⟩
              have hH86 := hH84.call hn
              replace hoc := own_fr hoc hn (fun _ _ h => h)
              refine ⟨_, rfl, hH86, ?_⟩
              intro a87 he87
              clear he85 a85 hH84 hn
              refine hV (fuel := 22) (i := 2) (Value.bool true) he87 rfl rfl rfl (by kernel_rfl) (by kernel_rfl) (by kernel_rfl) (fun _ _ _ h => h) (wanted_plain rfl _) (fun w' _ => rn_mv rfl (he87.op rfl) w') hH86 ?_
              intro a88 he88
              clear he87 a87
              refine hV (fuel := 21) (i := 3) (Value.pointer (some ⟨p30, 0, none⟩)) he88 rfl rfl rfl (by kernel_rfl) (by kernel_rfl) (by kernel_rfl) (fun _ _ _ h => h) (he88.want rfl rfl rfl rfl rfl) (fun w' _ => rn_faL0 rfl (he88.op rfl) rfl w') hH86 ?_
              intro a89 he89
              clear he88 a88
              refine hV (fuel := 20) (i := 4) (Value.slice Al N cl) he89 rfl rfl rfl (by kernel_rfl) (by kernel_rfl) (by kernel_rfl) (fun _ _ _ h => h) (he89.want rfl rfl rfl rfl rfl) (fun w' hw' => rn_ldS rfl (he89.op rfl) (hw'.at (i := 0) rfl) rfl) hH86 ?_
              intro a90 he90
              clear he89 a89
              refine hV (fuel := 19) (i := 5) (Value.agg #[Value.slice Al N cl, Value.bool false]) he90 rfl rfl rfl (by kernel_rfl) (by kernel_rfl) (by kernel_rfl) (fun _ _ _ h => h) (he90.want rfl rfl rfl rfl rfl) (fun w' hw' => rn_ldp [Value.slice Al N cl, Value.bool false] rfl (he90.op rfl) undL rfl infoL2 (hw'.at (i := 0) rfl) rfl) hH86 ?_
              intro a91 he91
              clear he90 a90
              refine hC (fuel := 18) (i := 6) he91 (by kernel_rfl) rfl rfl rfl Tryd.func15 (by kernel_rfl) rfl rfl (he91.want rfl rfl rfl rfl rfl) rfl (of_s _ L false _ L false 0 true (by rw [ofR, if_pos hv]; simp [isB]) (by omega) (by omega) w86 (SlC.own hoc) (SlC.own hoc) (hT.new hH86.new)) ?_
              rintro _ w92 ⟨rfl, hn⟩
              have hH92 := hH86.call hn
              replace hoc := own_fr hoc hn (fun _ _ h => h)
              refine ⟨_, rfl, hH92, ?_⟩
              intro a93 he93
              clear he91 a91 hH86 hn
              refine hV (fuel := 17) (i := 7) (Value.bool true) he93 rfl rfl rfl (by kernel_rfl) (by kernel_rfl) (by kernel_rfl) (fun _ _ _ h => h) (wanted_plain rfl _) (fun w' _ => rn_pk rfl (he93.op rfl) (he93.op rfl) w') hH92 ?_
              intro a94 he94
              clear he93 a93
              refine hV (fuel := 16) (i := 8) (Value.bool true) he94 rfl rfl rfl (by kernel_rfl) (by kernel_rfl) (by kernel_rfl) (fun _ _ _ h => h) (wanted_plain rfl _) (fun w' _ => rn_mv rfl (he94.op rfl) w') hH92 ?_
              intro a95 he95
              clear he94 a94
              refine hV (fuel := 15) (i := 10) (Value.int .i64 (N : Int)) he95 rfl rfl rfl (by kernel_rfl) (by kernel_rfl) (by kernel_rfl) (fun _ _ _ h => h) (he95.want rfl rfl rfl rfl rfl) (fun w' _ => rn_mv rfl (he95.op rfl) w') hH92 ?_
              intro a96 he96
              clear he95 a95
              refine hV (fuel := 14) (i := 11) (Value.int .i64 (N : Int)) he96 rfl rfl rfl (by kernel_rfl) (by kernel_rfl) (by kernel_rfl) (fun _ _ _ h => h) (he96.want rfl rfl rfl rfl rfl) (fun w' _ => rn_mv rfl (he96.op rfl) w') hH92 ?_
              intro a97 he97
              clear he96 a96
              have hzhoa := hH92.new.size
              refine hC (fuel := 13) (i := 9) he97 (by kernel_rfl) rfl rfl rfl Tryd.func12 (by kernel_rfl) rfl rfl (he97.want rfl rfl rfl rfl rfl) rfl (RNew_any 1 (by omega) w92) ?_
              rintro _ w98 ⟨⟨Aa, ca, rfl, hoa⟩, hn⟩
              replace hoa := own_base hoa (fun k_ hk_ => Nat.le_trans hzhoa (own_blk hoa k_ hk_))
              clear hzhoa
              have hH98 := hH92.call hn
              replace hoc := own_fr hoc hn (fun _ _ h => h)
              refine ⟨_, rfl, hH98, ?_⟩
              intro a99 he99
              clear he97 a97 hH92 hn
              have hzhob := hH98.new.size
              refine hC (fuel := 12) (i := 12) he99 (by kernel_rfl) rfl rfl rfl Tryd.func12 (by kernel_rfl) rfl rfl (he99.want rfl rfl rfl rfl rfl) rfl ((by have h := RNew_any (N : Int) (by omega) w98; rwa [Int.toNat_natCast] at h)) ?_
              rintro _ w100 ⟨⟨Ab, cb, rfl, hob⟩, hn⟩
              replace hob := own_base hob (fun k_ hk_ => Nat.le_trans hzhob (own_blk hob k_ hk_))
              clear hzhob
              have hH100 := hH98.call hn
              replace hoc := own_fr hoc hn (fun _ _ h => h)
              replace hoa := own_fr hoa hn (fun _ _ h => h)
              refine ⟨_, rfl, hH100, ?_⟩
              intro a101 he101
              clear he99 a99 hH98 hn
              refine hC (fuel := 11) (i := 13) he101 (by kernel_rfl) rfl rfl rfl Tryd.func29 (by kernel_rfl) rfl rfl (he101.want rfl rfl rfl rfl rfl) rfl (fits_s _ (List.replicate 1 eC) false (N : Int) _ (List.replicate N eC) false 0 true (by rw [fitR_ok (okL_mk (by decide) (row_pad 1)) (by omega) (by omega), Int.toNat_natCast, fit_one (by omega)]; simp [isB]) (by rw [List.length_replicate]; omega) w100 (SlC.own hoa) (SlC.own hob) (hT.new hH100.new)) ?_
              rintro _ w102 ⟨rfl, hn⟩
              have hH102 := hH100.call hn
              replace hoc := own_fr hoc hn (fun _ _ h => h)
              replace hoa := own_fr hoa hn (fun _ _ h => h)
              replace hob := own_fr hob hn (fun _ _ h => h)
              refine ⟨_, rfl, hH102, ?_⟩
              intro a103 he103
              clear he101 a101 hH100 hn
              refine hV (fuel := 10) (i := 14) (Value.bool true) he103 rfl rfl rfl (by kernel_rfl) (by kernel_rfl) (by kernel_rfl) (fun _ _ _ h => h) (wanted_plain rfl _) (fun w' _ => rn_pk rfl (he103.op rfl) (he103.op rfl) w') hH102 ?_
              intro a104 he104
              clear he103 a103
              refine hV (fuel := 9) (i := 15) (Value.bool true) he104 rfl rfl rfl (by kernel_rfl) (by kernel_rfl) (by kernel_rfl) (fun _ _ _ h => h) (wanted_plain rfl _) (fun w' _ => rn_mv rfl (he104.op rfl) w') hH102 ?_
              intro a105 he105
              clear he104 a104
              refine hV (fuel := 8) (i := 16) (Value.agg #[Value.slice Al N cl, Value.bool false]) he105 rfl rfl rfl (by kernel_rfl) (by kernel_rfl) (by kernel_rfl) (fun _ _ _ h => h) (he105.want rfl rfl rfl rfl rfl) (fun w' hw' => rn_ldp [Value.slice Al N cl, Value.bool false] rfl (he105.op rfl) undL rfl infoL2 (hw'.at (i := 0) rfl) rfl) hH102 ?_
              intro a106 he106
              clear he105 a105
              refine hV (fuel := 7) (i := 17) (Value.agg #[Value.slice Al N cl, Value.bool false]) he106 rfl rfl rfl (by kernel_rfl) (by kernel_rfl) (by kernel_rfl) (fun _ _ _ h => h) (he106.want rfl rfl rfl rfl rfl) (fun w' hw' => rn_ldp [Value.slice Al N cl, Value.bool false] rfl (he106.op rfl) undL rfl infoL2 (hw'.at (i := 0) rfl) rfl) hH102 ?_
              intro a107 he107
              clear he106 a106
              have hzhot := hH102.new.size
              refine hC (fuel := 6) (i := 18) he107 (by kernel_rfl) rfl rfl rfl Tryd.func31 (by kernel_rfl) rfl rfl (he107.want rfl rfl rfl rfl rfl) rfl (rtrim_l _ L false (by omega) w102 (SlC.own hoc)) ?_
              rintro _ w108 ⟨⟨At, ct, rfl, hot⟩, hn⟩
              replace hot := own_base hot (fun k_ hk_ => Nat.le_trans hzhot (own_blk hot k_ hk_))
              clear hzhot
              have hH108 := hH102.call hn
              replace hoc := own_fr hoc hn (fun _ _ h => h)
              replace hoa := own_fr hoa hn (fun _ _ h => h)
              replace hob := own_fr hob hn (fun _ _ h => h)
              refine ⟨_, rfl, hH108, ?_⟩
              intro a109 he109
              clear he107 a107 hH102 hn
              refine hC (fuel := 5) (i := 19) he109 (by kernel_rfl) rfl rfl rfl Tryd.func28 (by kernel_rfl) rfl rfl (he109.want rfl rfl rfl rfl rfl) rfl (trims_s _ L false _ (L.take (usedN L)) false 0 true (by rw [trimR_ok hv]; simp [isB]) (by omega) hz w108 (SlC.own hoc) (SlC.own hot) (hT.new hH108.new)) ?_
              rintro _ w110 ⟨rfl, hn⟩
              have hH110 := hH108.call hn
              replace hoc := own_fr hoc hn (fun _ _ h => h)
              replace hoa := own_fr hoa hn (fun _ _ h => h)
              replace hob := own_fr hob hn (fun _ _ h => h)
              replace hot := own_fr hot hn (fun _ _ h => h)
              refine ⟨_, rfl, hH110, ?_⟩
              intro a111 he111
              clear he109 a109 hH108 hn
              refine hV (fuel := 4) (i := 20) (Value.bool true) he111 rfl rfl rfl (by kernel_rfl) (by kernel_rfl) (by kernel_rfl) (fun _ _ _ h => h) (wanted_plain rfl _) (fun w' _ => rn_pk rfl (he111.op rfl) (he111.op rfl) w') hH110 ?_
              intro a112 he112
              clear he111 a111
              refine hV (fuel := 3) (i := 21) (Value.bool true) he112 rfl rfl rfl (by kernel_rfl) (by kernel_rfl) (by kernel_rfl) (fun _ _ _ h => h) (wanted_plain rfl _) (fun w' _ => rn_mv rfl (he112.op rfl) w') hH110 ?_
              intro a113 he113
              clear he112 a112
              refine hC (fuel := 2) (i := 22) he113 (by kernel_rfl) rfl rfl rfl Tryd.func9 (by kernel_rfl) rfl rfl (he113.want rfl rfl rfl rfl rfl) rfl (known_any w110 (hT.new hH110.new)) ?_
              rintro _ w114 ⟨rfl, hn⟩
              have hH114 := hH110.call hn
              replace hoc := own_fr hoc hn (fun _ _ h => h)
              replace hoa := own_fr hoa hn (fun _ _ h => h)
              replace hob := own_fr hob hn (fun _ _ h => h)
              replace hot := own_fr hot hn (fun _ _ h => h)
              refine ⟨_, rfl, hH114, ?_⟩
              intro a115 he115
              clear he113 a113 hH110 hn
              refine hV (fuel := 1) (i := 23) (Value.bool true) he115 rfl rfl rfl (by kernel_rfl) (by kernel_rfl) (by kernel_rfl) (fun _ _ _ h => h) (wanted_plain rfl _) (fun w' _ => rn_pk rfl (he115.op rfl) (he115.op rfl) w') hH114 ?_
              intro a116 he116
              clear he115 a115
              refine hV (fuel := 0) (i := 24) (Value.bool true) he116 rfl rfl rfl (by kernel_rfl) (by kernel_rfl) (by kernel_rfl) (fun _ _ _ h => h) (wanted_plain rfl _) (fun w' _ => rn_asg rfl (he116.op rfl) w') hH114 ?_
              intro a117 he117
              clear he116 a116
              refine wpAnyH_done (by kernel_rfl) ?_ _
              refine then_ok ?_
              refine wp_ret ?_
              try simp only [Exit.then, Exit.inBlock]
              exact ret_env rfl he117 rfl ⟨rfl, hH114.new.new_below⟩

end Go.Proofs.YtjcpdldaimebbaaDoor
