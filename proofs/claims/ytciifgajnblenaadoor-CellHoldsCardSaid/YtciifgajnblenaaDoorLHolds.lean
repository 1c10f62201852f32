/-
  CellHolds.
-/
import Derived.Test.YtciifgajnblenaaDoorLKnown
import Derived.Test.YtciifgajnblenaaDoorHMath
import Derived.Test.YtciifgajnblenaaDoorHLoop
import Derived.Test.YtciifgajnblenaaDoorCSlice
namespace Go.Proofs.YtciifgajnblenaaDoor
open Go.RowKit

set_option linter.unusedSimpArgs false in
set_option linter.unusedVariables false in
set_option maxRecDepth 100000 in
set_option maxHeartbeats 1600000 in
theorem cellHolds_walk (la lb : List Ce) (na ba ca nb bb cb : Nat) (Aa Ab : Option Addr) (r m : Int) (p : Pn) (w : World) (ha : RdC w ba Aa na la) (hb : RdC w bb Ab nb lb) (hT : Tab w) :
    Calls Tryd.prog 7 #[.slice Aa na ca, .slice Ab nb cb, .int .i32 r, .int .i32 m, p.v] w fun e w' => e = .returned (.bool true) ∧ Below w.heap.size w w' := by
  refine calls_args (vl := [Value.slice Aa na ca, Value.slice Ab nb cb, Value.int .i32 r, Value.int .i32 m, Pn.v p]) 144 Tryd.func7 rfl Tryd.ntmps7 (by kernel_rfl) (fun a he => ?_)
  have he0 : Env 144 [(0, Value.slice Aa na ca), (1, Value.slice Ab nb cb), (2, Value.int .i32 r), (3, Value.int .i32 m), (4, Pn.v p)] a := he
  clear he
  have hH := Hp.start w
  refine wp_seq ?_
  refine wp_region_lit ?_
  refine lNew (fun p => .pointer (some ⟨p, 0, none⟩)) he0 hH rfl rfl (wanted_plain rfl _) (rn_boxP rfl (he0.op rfl) w) ?_
  intro p1 w1 a2 _ hH1 he2
  clear he0 a hH
  refine lV (Value.bool false) he2 rfl rfl (wanted_plain rfl _) (rn_asg rfl (he2.op rfl) w1) ?_
  intro a3 he3
  clear he2 a2
  refine wpList_nil ?_
  refine then_ok ?_
  have hla := ha.1
  have hlb := hb.1
  have he4 : Env 144 [(9, Value.pointer (some ⟨p1, 0, none⟩)), (0, Value.slice Aa na ca), (1, Value.slice Ab nb cb), (2, Value.int .i32 r), (3, Value.int .i32 m)] a3 := he3.mem ⟨rfl, rfl, rfl, rfl, rfl, trivial⟩
  clear he3
  as_aux_lemma =>
    by_cases h30 : 30 < na
    · skip
      refine wp_seq ?_
      refine wp_seq ?_
      refine wp_region_lit ?_
      refine lV (Value.slice Aa na ca) he4 rfl rfl (wanted_plain rfl _) (rn_mv rfl (he4.op rfl) w1) ?_
      intro a5 he5
      clear he4 a3
      refine lV (Value.int .i64 na) he5 rfl rfl (wanted_plain rfl _) (rn_lenC rfl (he5.op rfl) w1) ?_
      intro a6 he6
      clear he5 a5
      refine lV (Value.bool true) he6 rfl rfl (wanted_plain rfl _) (rn_gtr rfl (he6.op rfl) (he6.op rfl) (decide_eq_true (by omega)) w1) ?_
      intro a7 he7
      clear he6 a6
      refine lV (Value.bool true) he7 rfl rfl (wanted_plain rfl _) (rn_mv rfl (he7.op rfl) w1) ?_
      intro a8 he8
      clear he7 a7
      refine lSkip he8 rfl rfl (he8.wantNot rfl rfl rfl rfl rfl rfl) ?_
      intro a9 he9
      clear he8 a8
      refine lSkip he9 rfl rfl (he9.wantNot rfl rfl rfl rfl rfl rfl) ?_
      intro a10 he10
      clear he9 a9
      refine lSkip he10 rfl rfl (he10.wantNot rfl rfl rfl rfl rfl rfl) ?_
      intro a11 he11
      clear he10 a10
      refine lV (Value.bool true) he11 rfl rfl (wanted_plain rfl _) (rn_pk rfl (he11.op rfl) (he11.op rfl) w1) ?_
      intro a12 he12
      clear he11 a11
      refine wpList_nil ?_
      refine then_ok ?_
      refine wp_cond_true (he12.op rfl) ?_
      refine wp_seq ?_
      refine wp_region_lit ?_
      refine lC he12 rfl rfl Tryd.func13 (by kernel_rfl) rfl rfl (wanted_plain rfl _) rfl (known_any w1 (hT.new hH1.new)) ?_
      intro w13 a14 hn he14
      have hH13 := hH1.call hn
      clear he12 a12 hH1 hn
      refine lV (Value.bool true) he14 rfl rfl (wanted_plain rfl _) (rn_asg rfl (he14.op rfl) w13) ?_
      intro a15 he15
      clear he14 a14
      refine wpList_nil ?_
      refine then_ok ?_
      refine wp_ret ?_
      try simp only [Exit.then, Exit.inBlock]
      exact ret_env rfl he15 rfl ⟨rfl, hH13.new.new_below⟩
    · skip
      by_cases h31 : 30 < nb
      · skip
        refine wp_seq ?_
        refine wp_seq ?_
        refine wp_region_lit ?_
        refine lV (Value.slice Aa na ca) he4 rfl rfl (wanted_plain rfl _) (rn_mv rfl (he4.op rfl) w1) ?_
        intro a16 he16
        clear he4 a3
        refine lV (Value.int .i64 na) he16 rfl rfl (wanted_plain rfl _) (rn_lenC rfl (he16.op rfl) w1) ?_
        intro a17 he17
        clear he16 a16
        refine lV (Value.bool false) he17 rfl rfl (wanted_plain rfl _) (rn_gtr rfl (he17.op rfl) (he17.op rfl) (decide_eq_false (by omega)) w1) ?_
        intro a18 he18
        clear he17 a17
        refine lV (Value.bool false) he18 rfl rfl (wanted_plain rfl _) (rn_mv rfl (he18.op rfl) w1) ?_
        intro a19 he19
        clear he18 a18
        refine lV (Value.slice Ab nb cb) he19 rfl rfl (he19.want rfl rfl rfl rfl rfl) (rn_mv rfl (he19.op rfl) w1) ?_
        intro a20 he20
        clear he19 a19
        refine lV (Value.int .i64 nb) he20 rfl rfl (he20.want rfl rfl rfl rfl rfl) (rn_lenC rfl (he20.op rfl) w1) ?_
        intro a21 he21
        clear he20 a20
        refine lV (Value.bool true) he21 rfl rfl (he21.want rfl rfl rfl rfl rfl) (rn_gtr rfl (he21.op rfl) (he21.op rfl) (decide_eq_true (by omega)) w1) ?_
        intro a22 he22
        clear he21 a21
        refine lV (Value.bool true) he22 rfl rfl (wanted_plain rfl _) (rn_pk0 rfl (he22.op rfl) (he22.op rfl) w1) ?_
        intro a23 he23
        clear he22 a22
        refine wpList_nil ?_
        refine then_ok ?_
        refine wp_cond_true (he23.op rfl) ?_
        refine wp_seq ?_
        refine wp_region_lit ?_
        refine lC he23 rfl rfl Tryd.func13 (by kernel_rfl) rfl rfl (wanted_plain rfl _) rfl (known_any w1 (hT.new hH1.new)) ?_
        intro w24 a25 hn he25
        have hH24 := hH1.call hn
        clear he23 a23 hH1 hn
        refine lV (Value.bool true) he25 rfl rfl (wanted_plain rfl _) (rn_asg rfl (he25.op rfl) w24) ?_
        intro a26 he26
        clear he25 a25
        refine wpList_nil ?_
        refine then_ok ?_
        refine wp_ret ?_
        try simp only [Exit.then, Exit.inBlock]
        exact ret_env rfl he26 rfl ⟨rfl, hH24.new.new_below⟩
      · skip
        refine wp_seq ?_
        refine wp_seq ?_
        refine wp_region_lit ?_
        refine lV (Value.slice Aa na ca) he4 rfl rfl (wanted_plain rfl _) (rn_mv rfl (he4.op rfl) w1) ?_
        intro a27 he27
        clear he4 a3
        refine lV (Value.int .i64 na) he27 rfl rfl (wanted_plain rfl _) (rn_lenC rfl (he27.op rfl) w1) ?_
        intro a28 he28
        clear he27 a27
        refine lV (Value.bool false) he28 rfl rfl (wanted_plain rfl _) (rn_gtr rfl (he28.op rfl) (he28.op rfl) (decide_eq_false (by omega)) w1) ?_
        intro a29 he29
        clear he28 a28
        refine lV (Value.bool false) he29 rfl rfl (wanted_plain rfl _) (rn_mv rfl (he29.op rfl) w1) ?_
        intro a30 he30
        clear he29 a29
        refine lV (Value.slice Ab nb cb) he30 rfl rfl (he30.want rfl rfl rfl rfl rfl) (rn_mv rfl (he30.op rfl) w1) ?_
        intro a31 he31
        clear he30 a30
        refine lV (Value.int .i64 nb) he31 rfl rfl (he31.want rfl rfl rfl rfl rfl) (rn_lenC rfl (he31.op rfl) w1) ?_
        intro a32 he32
        clear he31 a31
        refine lV (Value.bool false) he32 rfl rfl (he32.want rfl rfl rfl rfl rfl) (rn_gtr rfl (he32.op rfl) (he32.op rfl) (decide_eq_false (by omega)) w1) ?_
        intro a33 he33
        clear he32 a32
        refine lV (Value.bool false) he33 rfl rfl (wanted_plain rfl _) (rn_pk0 rfl (he33.op rfl) (he33.op rfl) w1) ?_
        intro a34 he34
        clear he33 a33
        refine wpList_nil ?_
        refine then_ok ?_
        refine wp_cond_false (he34.op rfl) ?_
        refine wp_skip ?_
        refine then_ok ?_
        have he35 : Env 144 [(9, Value.pointer (some ⟨p1, 0, none⟩)), (0, Value.slice Aa na ca), (1, Value.slice Ab nb cb), (2, Value.int .i32 r), (3, Value.int .i32 m)] a34 := he34.mem ⟨rfl, rfl, rfl, rfl, rfl, trivial⟩
        clear he34
        as_aux_lemma =>
          refine seq3_cut (fun a w' => Env 144 [(0, Value.slice Aa na ca), (1, Value.slice Ab nb cb)] a ∧ Hp w [] w') ?_ ?_
          · skip
            clear he35 hH1
            rintro a0 w0 ⟨he0, hH0⟩
            as_aux_lemma =>
              refine wp_seq ?_
              refine wp_region_lit ?_
              refine lV (Value.slice Aa na ca) he0 rfl rfl (wanted_plain rfl _) (rn_mv rfl (he0.op rfl) w0) ?_
              intro a36 he36
              clear he0 a0
              have hlfa : (fixL la).length = na := (fix_len none la).trans hla
              have hlfb : (fixL lb).length = nb := (fix_len none lb).trans hlb
              refine lCx he36 rfl rfl Tryd.func26 (by kernel_rfl) rfl rfl (wanted_plain rfl _) rfl (CFix_any la na _ _ _ w0 (ha.new hH0.new) (by omega)) ?_
              rintro _ w37 ⟨v, rfl, hox, hn⟩
              obtain ⟨bx, Ax, cx, rfl, -, hrx⟩ := own_rdc hox hlfa
              clear hox
              refine ⟨_, rfl, ?_⟩
              intro a38 he38
              have hH37 := hH0.call hn
              clear he36 a36 hH0
              clear hn
              refine lV (Value.slice Ab nb cb) he38 rfl rfl (wanted_plain rfl _) (rn_mv rfl (he38.op rfl) w37) ?_
              intro a39 he39
              clear he38 a38
              refine lCx he39 rfl rfl Tryd.func26 (by kernel_rfl) rfl rfl (wanted_plain rfl _) rfl (CFix_any lb nb _ _ _ w37 (hb.new hH37.new) (by omega)) ?_
              rintro _ w40 ⟨v, rfl, hoy, hn⟩
              obtain ⟨by_, Ay, cy, rfl, -, hry⟩ := own_rdc hoy hlfb
              clear hoy
              refine ⟨_, rfl, ?_⟩
              intro a41 he41
              have hH40 := hH37.call hn
              replace hrx := hrx.new hn
              clear he39 a39 hH37
              clear hn
              refine lV (Value.slice Ax na cx) he41 rfl rfl (wanted_plain rfl _) (rn_asg rfl (he41.op rfl) w40) ?_
              intro a42 he42
              clear he41 a41
              refine lV (Value.slice Ay nb cy) he42 rfl rfl (wanted_plain rfl _) (rn_asg rfl (he42.op rfl) w40) ?_
              intro a43 he43
              clear he42 a42
              refine wpList_nil ?_
              refine then_ok ?_
              have hT44 := hT.new hH40.new
              have hR44 := hH40.new
              replace ha := ha.new hH40.new
              replace hb := hb.new hH40.new
              have hH44 := Hp.start w40
              clear hH40 hT 
              refine wp_seq ?_
              refine wp_region_lit ?_
              refine lV (Value.bool true) he43 rfl rfl (wanted_plain rfl _) (rn_asg rfl (he43.op rfl) w40) ?_
              intro a45 he45
              clear he43 a43
              refine wpList_nil ?_
              refine then_ok ?_
              refine wp_seq ?_
              refine wp_seq ?_
              refine wp_region_lit ?_
              refine lV (Value.slice Aa na ca) he45 rfl rfl (wanted_plain rfl _) (rn_mv rfl (he45.op rfl) w40) ?_
              intro a46 he46
              clear he45 a45
              refine lV (Value.int .i64 na) he46 rfl rfl (wanted_plain rfl _) (rn_lenC rfl (he46.op rfl) w40) ?_
              intro a47 he47
              clear he46 a46
              refine lV (Value.int .i64 0) he47 rfl rfl (wanted_plain rfl _) (rn_mv rfl (he47.op rfl) w40) ?_
              intro a48 he48
              clear he47 a47
              refine wpList_nil ?_
              refine then_ok ?_
              have he49 : Env 144 [(89, Value.int .i64 0), (88, Value.int .i64 na), (87, Value.slice Aa na ca), (19, Value.bool true), (18, Value.slice Ay nb cy), (17, Value.slice Ax na cx), (0, Value.slice Aa na ca), (1, Value.slice Ab nb cb)] a48 := he48.mem ⟨rfl, rfl, rfl, rfl, rfl, rfl, rfl, rfl, trivial⟩
              clear he48
              as_aux_lemma =>
                refine wp_block ?_
                refine loop_nat (fun q a w' => ∃ j : Nat, q = na - j ∧ j ≤ na ∧ Env 144 [(0, Value.slice Aa na ca), (1, Value.slice Ab nb cb), (17, Value.slice Ax na cx), (18, Value.slice Ay nb cy), (19, (Value.bool ((la.take j).all cellB))), (87, Value.slice Aa na ca), (88, Value.int .i64 na), (89, Value.int .i64 j)] a ∧ Hp w40 [] w') na ⟨0, by omega, by omega, he49.mem ⟨rfl, rfl, rfl, rfl, rfl, rfl, rfl, rfl, trivial⟩, hH44⟩ ?_
                clear he49 hH44
                rintro q a w1 ⟨j, rfl, hj, he, hH⟩
                as_aux_lemma =>
                  by_cases hjn : j < na
                  · skip
                    refine wp_seq ?_
                    refine wp_region_lit ?_
                    refine lV (Value.bool true) he rfl rfl (wanted_plain rfl _) (rn_lss rfl (he.op rfl) (he.op rfl) (decide_eq_true (by omega)) w1) ?_
                    intro a50 he50
                    clear he a
                    refine wpList_nil ?_
                    refine then_ok ?_
                    refine wp_seq ?_
                    refine wp_cond_true (he50.op rfl) ?_
                    refine wp_skip ?_
                    refine then_ok ?_
                    refine wp_seq ?_
                    refine wp_block ?_
                    obtain ⟨oa, hAa⟩ := ha.base (by omega)
                    obtain ⟨c, hc⟩ : ∃ c, la[j]? = some c := ⟨la[j], List.getElem?_eq_getElem (by omega)⟩
                    refine wp_seq ?_
                    refine wp_region_lit ?_
                    refine lV (Value.pointer (some ⟨ba, oa + j * 16, none⟩)) he50 rfl rfl (wanted_plain rfl _) (rn_idx (A := ⟨ba, oa, none⟩) (n := na) (c := ca) (i := j) rfl (by rw [← hAa]; exact he50.op rfl) (he50.op rfl) hjn (by rw [addr_add]) w1) ?_
                    intro a51 he51
                    clear he50 a50
                    refine lV (Ce.v c) he51 rfl rfl (wanted_plain rfl _) (rn_loadM (n := na) (l := la) (i := j) rfl (he51.op rfl) (hAa ▸ (ha.new hH.new)) hjn rfl hc) ?_
                    intro a52 he52
                    clear he51 a51
                    refine lNew (fun p => .pointer (some ⟨p, 0, none⟩)) he52 hH rfl rfl (wanted_plain rfl _) (rn_alloc rfl w1) ?_
                    intro p53 w53 a54 _ hH53 he54
                    clear he52 a52 hH
                    refine lSet 0 (cs := (Ce.cs c)) he54 hH53 rfl (wanted_plain rfl _) rfl rfl rfl rfl infoC16 rfl (by kernel_rfl) (by kernel_rfl) ?_
                    intro w55 a56 hH55 he56
                    replace hH55 : Hp w40 [⟨p53, 30, (Ce.cs c)⟩] w55 := hH55
                    clear he54 a54 hH53
                    refine wpList_nil ?_
                    refine then_ok ?_
                    have hV : ((la.take (j + 1)).all cellB) = (((la.take j).all cellB) && cellB c) := by
                      rw [List.take_add_one, hc, List.all_append]
                      simp
                    cases hB : (la.take j).all cellB with
                    | false =>
                      have he57 : Env 144 [(21, Value.pointer (some ⟨p53, 0, none⟩)), (92, Ce.v c), (91, Value.pointer (some ⟨ba, oa + j * 16, none⟩)), (90, Value.bool true), (0, Value.slice Aa na ca), (1, Value.slice Ab nb cb), (17, Value.slice Ax na cx), (18, Value.slice Ay nb cy), (19, Value.bool false), (87, Value.slice Aa na ca), (88, Value.int .i64 na), (89, Value.int .i64 j)] a56 := by
                        rw [hB] at he56
                        exact he56.mem ⟨rfl, rfl, rfl, rfl, rfl, rfl, rfl, rfl, rfl, rfl, rfl, rfl, trivial⟩
                      clear he56
                      refine wp_region_lit ?_
                      refine lV (Value.bool false) he57 rfl rfl (wanted_plain rfl _) (rn_mv rfl (he57.op rfl) w55) ?_
                      intro a58 he58
                      clear he57 a56
                      refine lV (Value.bool false) he58 rfl rfl (wanted_plain rfl _) (rn_mv rfl (he58.op rfl) w55) ?_
                      intro a59 he59
                      clear he58 a58
                      refine lSkip he59 rfl rfl (he59.wantNot rfl rfl rfl rfl rfl rfl) ?_
                      intro a60 he60
                      clear he59 a59
                      refine lSkip he60 rfl rfl (he60.wantNot rfl rfl rfl rfl rfl rfl) ?_
                      intro a61 he61
                      clear he60 a60
                      refine lV (Value.bool false) he61 rfl rfl (wanted_plain rfl _) (rn_pk0 rfl (he61.op rfl) (he61.op rfl) w55) ?_
                      intro a62 he62
                      clear he61 a61
                      refine lV (Value.bool false) he62 rfl rfl (wanted_plain rfl _) (rn_asg rfl (he62.op rfl) w55) ?_
                      intro a63 he63
                      clear he62 a62
                      refine wpList_nil ?_
                      refine block_ok ?_
                      refine then_ok ?_
                      refine wp_region_lit ?_
                      refine lV (Value.int .i64 ((j + 1 : Nat) : Int)) he63 rfl rfl (wanted_plain rfl _) (rn_add1 rfl (he63.op rfl) (he63.op rfl) (by rw [IntWalk.i64_in _ ⟨by omega, by omega⟩]; rfl) w55) ?_
                      intro a64 he64
                      clear he63 a63
                      refine lV (Value.int .i64 ((j + 1 : Nat) : Int)) he64 rfl rfl (wanted_plain rfl _) (rn_mv rfl (he64.op rfl) w55) ?_
                      intro a65 he65
                      clear he64 a64
                      refine wpList_nil ?_
                      refine then_ok ?_
                      have hH67 := hH55.tail rfl
                      clear hH55
                      have hV2 : (la.take (j + 1)).all cellB = false := by rw [hV, hB]; simp
                      exact ⟨na - (j + 1), by omega, j + 1, rfl, by omega, by rw [hV2]; exact he65.mem ⟨rfl, rfl, rfl, rfl, rfl, rfl, rfl, rfl, trivial⟩, hH67⟩
                    | true =>
                      have he68 : Env 144 [(21, Value.pointer (some ⟨p53, 0, none⟩)), (92, Ce.v c), (91, Value.pointer (some ⟨ba, oa + j * 16, none⟩)), (90, Value.bool true), (0, Value.slice Aa na ca), (1, Value.slice Ab nb cb), (17, Value.slice Ax na cx), (18, Value.slice Ay nb cy), (19, Value.bool true), (87, Value.slice Aa na ca), (88, Value.int .i64 na), (89, Value.int .i64 j)] a56 := by
                        rw [hB] at he56
                        exact he56.mem ⟨rfl, rfl, rfl, rfl, rfl, rfl, rfl, rfl, rfl, rfl, rfl, rfl, trivial⟩
                      clear he56
                      refine wp_region_lit ?_
                      refine lV (Value.bool true) he68 rfl rfl (wanted_plain rfl _) (rn_mv rfl (he68.op rfl) w55) ?_
                      intro a69 he69
                      clear he68 a56
                      refine lV (Value.bool true) he69 rfl rfl (wanted_plain rfl _) (rn_mv rfl (he69.op rfl) w55) ?_
                      intro a70 he70
                      clear he69 a69
                      refine lV (Ce.v c) he70 rfl rfl (he70.want rfl rfl rfl rfl rfl) (rn_load rfl (he70.op rfl) (hH55.at (i := 0) rfl)) ?_
                      intro a71 he71
                      clear he70 a70
                      refine lC he71 rfl rfl Tryd.func14 (by kernel_rfl) rfl rfl (he71.want rfl rfl rfl rfl rfl) rfl (CValidK c (cellB c) rfl _ (hT44.new hH55.new)) ?_
                      intro w72 a73 hn he73
                      have hH72 := hH55.call hn
                      clear he71 a71 hH55 hn
                      refine lV (Value.bool (cellB c)) he73 rfl rfl (wanted_plain rfl _) (rn_pk rfl (he73.op rfl) (he73.op rfl) w72) ?_
                      intro a74 he74
                      clear he73 a73
                      refine lV (Value.bool (cellB c)) he74 rfl rfl (wanted_plain rfl _) (rn_asg rfl (he74.op rfl) w72) ?_
                      intro a75 he75
                      clear he74 a74
                      refine wpList_nil ?_
                      refine block_ok ?_
                      refine then_ok ?_
                      refine wp_region_lit ?_
                      refine lV (Value.int .i64 ((j + 1 : Nat) : Int)) he75 rfl rfl (wanted_plain rfl _) (rn_add1 rfl (he75.op rfl) (he75.op rfl) (by rw [IntWalk.i64_in _ ⟨by omega, by omega⟩]; rfl) w72) ?_
                      intro a76 he76
                      clear he75 a75
                      refine lV (Value.int .i64 ((j + 1 : Nat) : Int)) he76 rfl rfl (wanted_plain rfl _) (rn_mv rfl (he76.op rfl) w72) ?_
                      intro a77 he77
                      clear he76 a76
                      refine wpList_nil ?_
                      refine then_ok ?_
                      have hH79 := hH72.tail rfl
                      clear hH72
                      have hV2 : (la.take (j + 1)).all cellB = cellB c := by rw [hV, hB]; simp
                      exact ⟨na - (j + 1), by omega, j + 1, rfl, by omega, by rw [hV2]; exact he77.mem ⟨rfl, rfl, rfl, rfl, rfl, rfl, rfl, rfl, trivial⟩, hH79⟩
                  · skip
                    refine wp_seq ?_
                    refine wp_region_lit ?_
                    refine lV (Value.bool false) he rfl rfl (wanted_plain rfl _) (rn_lss rfl (he.op rfl) (he.op rfl) (decide_eq_false (by omega)) w1) ?_
                    intro a80 he80
                    clear he a
                    refine wpList_nil ?_
                    refine then_ok ?_
                    refine wp_seq ?_
                    refine wp_cond_false (he80.op rfl) ?_
                    refine wp_exit ?_
                    simp only [Exit.then, Exit.inBlock, if_true]
                    rw [List.take_of_length_le (by omega)] at he80
                    clear hj hjn
                    have he81 : Env 144 [(0, Value.slice Aa na ca), (1, Value.slice Ab nb cb), (17, Value.slice Ax na cx), (18, Value.slice Ay nb cy), (19, Value.bool (la.all cellB))] a80 := he80.mem ⟨rfl, rfl, rfl, rfl, rfl, trivial⟩
                    clear he80
                    as_aux_lemma =>
                      refine wp_seq ?_
                      refine reg_cut (fun a w' => Env 144 [(17, Value.slice Ax na cx), (18, Value.slice Ay nb cy)] a ∧ Hp w40 [] w') ?_ ?_
                      · skip
                        refine wp_seq ?_
                        cases hV : la.all cellB with
                        | false =>
                          cases hR : rowB la with
                          | false =>
                            have he82 : Env 144 [(0, Value.slice Aa na ca), (1, Value.slice Ab nb cb), (17, Value.slice Ax na cx), (18, Value.slice Ay nb cy), (19, Value.bool false)] a80 := by
                              rw [hV] at he81
                              exact he81
                            clear he81
                            refine wp_region_lit ?_
                            refine lV (Value.bool false) he82 rfl rfl (wanted_plain rfl _) (rn_mv rfl (he82.op rfl) w1) ?_
                            intro a83 he83
                            clear he82 a80
                            refine lV (Value.bool false) he83 rfl rfl (wanted_plain rfl _) (rn_mv rfl (he83.op rfl) w1) ?_
                            intro a84 he84
                            clear he83 a83
                            refine lSkip he84 rfl rfl (he84.wantNot rfl rfl rfl rfl rfl rfl) ?_
                            intro a85 he85
                            clear he84 a84
                            refine lSkip he85 rfl rfl (he85.wantNot rfl rfl rfl rfl rfl rfl) ?_
                            intro a86 he86
                            clear he85 a85
                            refine lSkip he86 rfl rfl (he86.wantNot rfl rfl rfl rfl rfl rfl) ?_
                            intro a87 he87
                            clear he86 a86
                            refine lV (Value.bool false) he87 rfl rfl (wanted_plain rfl _) (rn_pk0 rfl (he87.op rfl) (he87.op rfl) w1) ?_
                            intro a88 he88
                            clear he87 a87
                            refine lV (Value.bool false) he88 rfl rfl (wanted_plain rfl _) (rn_mv rfl (he88.op rfl) w1) ?_
                            intro a89 he89
                            clear he88 a88
                            refine lV (Value.slice Aa na ca) he89 rfl rfl (he89.want rfl rfl rfl rfl rfl) (rn_mv rfl (he89.op rfl) w1) ?_
                            intro a90 he90
                            clear he89 a89
                            refine lC he90 rfl rfl Tryd.func22 (by kernel_rfl) rfl rfl (he90.want rfl rfl rfl rfl rfl) rfl (CRowK la false hR na _ _ _ w1 (ha.new hH.new) (by omega) (hT44.new hH.new)) ?_
                            intro w91 a92 hn he92
                            have hH91 := hH.call hn
                            clear he90 a90 hH hn
                            refine lV (Value.bool false) he92 rfl rfl (he92.want rfl rfl rfl rfl rfl) (rn_mv rfl (he92.op rfl) w91) ?_
                            intro a93 he93
                            clear he92 a92
                            refine lSkip he93 rfl rfl (he93.wantNot rfl rfl rfl rfl rfl rfl) ?_
                            intro a94 he94
                            clear he93 a93
                            refine lSkip he94 rfl rfl (he94.wantNot rfl rfl rfl rfl rfl rfl) ?_
                            intro a95 he95
                            clear he94 a94
                            refine lSkip he95 rfl rfl (he95.wantNot rfl rfl rfl rfl rfl rfl) ?_
                            intro a96 he96
                            clear he95 a95
                            refine lSkip he96 rfl rfl (he96.wantNot rfl rfl rfl rfl rfl rfl) ?_
                            intro a97 he97
                            clear he96 a96
                            refine lV (Value.bool false) he97 rfl rfl (he97.want rfl rfl rfl rfl rfl) (rn_pk0 rfl (he97.op rfl) (he97.op rfl) w91) ?_
                            intro a98 he98
                            clear he97 a97
                            refine lV (Value.bool false) he98 rfl rfl (wanted_plain rfl _) (rn_pk0 rfl (he98.op rfl) (he98.op rfl) w91) ?_
                            intro a99 he99
                            clear he98 a98
                            refine lV (Value.bool false) he99 rfl rfl (wanted_plain rfl _) (rn_mv rfl (he99.op rfl) w91) ?_
                            intro a100 he100
                            clear he99 a99
                            refine lV (Value.slice Ax na cx) he100 rfl rfl (he100.want rfl rfl rfl rfl rfl) (rn_mv rfl (he100.op rfl) w91) ?_
                            intro a101 he101
                            clear he100 a100
                            refine lCx he101 rfl rfl Tryd.func26 (by kernel_rfl) rfl rfl (he101.want rfl rfl rfl rfl rfl) rfl (CFix_any (fixL la) na _ _ _ w91 (hrx.new hH91.new) (by omega)) ?_
                            rintro _ w102 ⟨v, rfl, hof, hn⟩
                            obtain ⟨bf, Af, cf, rfl, -, hrf⟩ := own_rdc hof ((fix_len none (fixL la)).trans hlfa)
                            clear hof
                            refine ⟨_, rfl, ?_⟩
                            intro a103 he103
                            have hH102 := hH91.call hn
                            clear he101 a101 hH91
                            clear hn
                            refine lV (Value.slice Ax na cx) he103 rfl rfl (he103.want rfl rfl rfl rfl rfl) (rn_mv rfl (he103.op rfl) w102) ?_
                            intro a104 he104
                            clear he103 a103
                            refine lC he104 rfl rfl Tryd.func27 (by kernel_rfl) rfl rfl (he104.want rfl rfl rfl rfl rfl) rfl (SameK (fixL (fixL la)) (fixL la) na na _ _ _ _ _ _ w102 hrf (hrx.new hH102.new) (fix_fix la) (by omega) (by omega)) ?_
                            intro w105 a106 hn he106
                            have hH105 := hH102.call hn
                            replace hrf := hrf.new hn
                            clear he104 a104 hH102 hn
                            refine lV (Value.bool false) he106 rfl rfl (he106.want rfl rfl rfl rfl rfl) (rn_not (b := true) rfl (he106.op rfl) w105) ?_
                            intro a107 he107
                            clear he106 a106
                            refine lV (Value.bool false) he107 rfl rfl (wanted_plain rfl _) (rn_pk0 rfl (he107.op rfl) (he107.op rfl) w105) ?_
                            intro a108 he108
                            clear he107 a107
                            refine lV (Value.bool false) he108 rfl rfl (wanted_plain rfl _) (rn_mv rfl (he108.op rfl) w105) ?_
                            intro a109 he109
                            clear he108 a108
                            refine lV (Value.slice Ax na cx) he109 rfl rfl (he109.want rfl rfl rfl rfl rfl) (rn_mv rfl (he109.op rfl) w105) ?_
                            intro a110 he110
                            clear he109 a109
                            refine lV (Value.int .i64 na) he110 rfl rfl (he110.want rfl rfl rfl rfl rfl) (rn_lenC rfl (he110.op rfl) w105) ?_
                            intro a111 he111
                            clear he110 a110
                            refine lV (Value.slice Aa na ca) he111 rfl rfl (he111.want rfl rfl rfl rfl rfl) (rn_mv rfl (he111.op rfl) w105) ?_
                            intro a112 he112
                            clear he111 a111
                            refine lV (Value.int .i64 na) he112 rfl rfl (he112.want rfl rfl rfl rfl rfl) (rn_lenC rfl (he112.op rfl) w105) ?_
                            intro a113 he113
                            clear he112 a112
                            refine lV (Value.bool false) he113 rfl rfl (he113.want rfl rfl rfl rfl rfl) (rn_neI rfl (he113.op rfl) (he113.op rfl) (by simp) w105) ?_
                            intro a114 he114
                            clear he113 a113
                            refine lV (Value.bool false) he114 rfl rfl (wanted_plain rfl _) (rn_pk0 rfl (he114.op rfl) (he114.op rfl) w105) ?_
                            intro a115 he115
                            clear he114 a114
                            refine wpList_nil ?_
                            refine then_ok ?_
                            refine wp_cond_false (he115.op rfl) ?_
                            refine wp_skip ?_
                            exact ⟨he115.mem ⟨rfl, rfl, trivial⟩, hH105⟩
                          | true =>
                            have he116 : Env 144 [(0, Value.slice Aa na ca), (1, Value.slice Ab nb cb), (17, Value.slice Ax na cx), (18, Value.slice Ay nb cy), (19, Value.bool false)] a80 := by
                              rw [hV] at he81
                              exact he81
                            clear he81
                            refine wp_region_lit ?_
                            refine lV (Value.bool false) he116 rfl rfl (wanted_plain rfl _) (rn_mv rfl (he116.op rfl) w1) ?_
                            intro a117 he117
                            clear he116 a80
                            refine lV (Value.bool false) he117 rfl rfl (wanted_plain rfl _) (rn_mv rfl (he117.op rfl) w1) ?_
                            intro a118 he118
                            clear he117 a117
                            refine lSkip he118 rfl rfl (he118.wantNot rfl rfl rfl rfl rfl rfl) ?_
                            intro a119 he119
                            clear he118 a118
                            refine lSkip he119 rfl rfl (he119.wantNot rfl rfl rfl rfl rfl rfl) ?_
                            intro a120 he120
                            clear he119 a119
                            refine lSkip he120 rfl rfl (he120.wantNot rfl rfl rfl rfl rfl rfl) ?_
                            intro a121 he121
                            clear he120 a120
                            refine lV (Value.bool false) he121 rfl rfl (wanted_plain rfl _) (rn_pk0 rfl (he121.op rfl) (he121.op rfl) w1) ?_
                            intro a122 he122
                            clear he121 a121
                            refine lV (Value.bool false) he122 rfl rfl (wanted_plain rfl _) (rn_mv rfl (he122.op rfl) w1) ?_
                            intro a123 he123
                            clear he122 a122
                            refine lV (Value.slice Aa na ca) he123 rfl rfl (he123.want rfl rfl rfl rfl rfl) (rn_mv rfl (he123.op rfl) w1) ?_
                            intro a124 he124
                            clear he123 a123
                            refine lC he124 rfl rfl Tryd.func22 (by kernel_rfl) rfl rfl (he124.want rfl rfl rfl rfl rfl) rfl (CRowK la true hR na _ _ _ w1 (ha.new hH.new) (by omega) (hT44.new hH.new)) ?_
                            intro w125 a126 hn he126
                            have hH125 := hH.call hn
                            clear he124 a124 hH hn
                            refine lV (Value.bool true) he126 rfl rfl (he126.want rfl rfl rfl rfl rfl) (rn_mv rfl (he126.op rfl) w125) ?_
                            intro a127 he127
                            clear he126 a126
                            refine lV (Value.slice Ax na cx) he127 rfl rfl (he127.want rfl rfl rfl rfl rfl) (rn_mv rfl (he127.op rfl) w125) ?_
                            intro a128 he128
                            clear he127 a127
                            refine lV (Value.slice Aa na ca) he128 rfl rfl (he128.want rfl rfl rfl rfl rfl) (rn_mv rfl (he128.op rfl) w125) ?_
                            intro a129 he129
                            clear he128 a128
                            refine lC he129 rfl rfl Tryd.func27 (by kernel_rfl) rfl rfl (he129.want rfl rfl rfl rfl rfl) rfl (SameK (fixL la) la na na _ _ _ _ _ _ w125 (hrx.new hH125.new) (ha.new hH125.new) (row_fix la hR) (by omega) (by omega)) ?_
                            intro w130 a131 hn he131
                            have hH130 := hH125.call hn
                            clear he129 a129 hH125 hn
                            refine lV (Value.bool false) he131 rfl rfl (he131.want rfl rfl rfl rfl rfl) (rn_not (b := true) rfl (he131.op rfl) w130) ?_
                            intro a132 he132
                            clear he131 a131
                            refine lV (Value.bool false) he132 rfl rfl (he132.want rfl rfl rfl rfl rfl) (rn_pk rfl (he132.op rfl) (he132.op rfl) w130) ?_
                            intro a133 he133
                            clear he132 a132
                            refine lV (Value.bool false) he133 rfl rfl (wanted_plain rfl _) (rn_pk0 rfl (he133.op rfl) (he133.op rfl) w130) ?_
                            intro a134 he134
                            clear he133 a133
                            refine lV (Value.bool false) he134 rfl rfl (wanted_plain rfl _) (rn_mv rfl (he134.op rfl) w130) ?_
                            intro a135 he135
                            clear he134 a134
                            refine lV (Value.slice Ax na cx) he135 rfl rfl (he135.want rfl rfl rfl rfl rfl) (rn_mv rfl (he135.op rfl) w130) ?_
                            intro a136 he136
                            clear he135 a135
                            refine lCx he136 rfl rfl Tryd.func26 (by kernel_rfl) rfl rfl (he136.want rfl rfl rfl rfl rfl) rfl (CFix_any (fixL la) na _ _ _ w130 (hrx.new hH130.new) (by omega)) ?_
                            rintro _ w137 ⟨v, rfl, hof, hn⟩
                            obtain ⟨bf, Af, cf, rfl, -, hrf⟩ := own_rdc hof ((fix_len none (fixL la)).trans hlfa)
                            clear hof
                            refine ⟨_, rfl, ?_⟩
                            intro a138 he138
                            have hH137 := hH130.call hn
                            clear he136 a136 hH130
                            clear hn
                            refine lV (Value.slice Ax na cx) he138 rfl rfl (he138.want rfl rfl rfl rfl rfl) (rn_mv rfl (he138.op rfl) w137) ?_
                            intro a139 he139
                            clear he138 a138
                            refine lC he139 rfl rfl Tryd.func27 (by kernel_rfl) rfl rfl (he139.want rfl rfl rfl rfl rfl) rfl (SameK (fixL (fixL la)) (fixL la) na na _ _ _ _ _ _ w137 hrf (hrx.new hH137.new) (fix_fix la) (by omega) (by omega)) ?_
                            intro w140 a141 hn he141
                            have hH140 := hH137.call hn
                            replace hrf := hrf.new hn
                            clear he139 a139 hH137 hn
                            refine lV (Value.bool false) he141 rfl rfl (he141.want rfl rfl rfl rfl rfl) (rn_not (b := true) rfl (he141.op rfl) w140) ?_
                            intro a142 he142
                            clear he141 a141
                            refine lV (Value.bool false) he142 rfl rfl (wanted_plain rfl _) (rn_pk0 rfl (he142.op rfl) (he142.op rfl) w140) ?_
                            intro a143 he143
                            clear he142 a142
                            refine lV (Value.bool false) he143 rfl rfl (wanted_plain rfl _) (rn_mv rfl (he143.op rfl) w140) ?_
                            intro a144 he144
                            clear he143 a143
                            refine lV (Value.slice Ax na cx) he144 rfl rfl (he144.want rfl rfl rfl rfl rfl) (rn_mv rfl (he144.op rfl) w140) ?_
                            intro a145 he145
                            clear he144 a144
                            refine lV (Value.int .i64 na) he145 rfl rfl (he145.want rfl rfl rfl rfl rfl) (rn_lenC rfl (he145.op rfl) w140) ?_
                            intro a146 he146
                            clear he145 a145
                            refine lV (Value.slice Aa na ca) he146 rfl rfl (he146.want rfl rfl rfl rfl rfl) (rn_mv rfl (he146.op rfl) w140) ?_
                            intro a147 he147
                            clear he146 a146
                            refine lV (Value.int .i64 na) he147 rfl rfl (he147.want rfl rfl rfl rfl rfl) (rn_lenC rfl (he147.op rfl) w140) ?_
                            intro a148 he148
                            clear he147 a147
                            refine lV (Value.bool false) he148 rfl rfl (he148.want rfl rfl rfl rfl rfl) (rn_neI rfl (he148.op rfl) (he148.op rfl) (by simp) w140) ?_
                            intro a149 he149
                            clear he148 a148
                            refine lV (Value.bool false) he149 rfl rfl (wanted_plain rfl _) (rn_pk0 rfl (he149.op rfl) (he149.op rfl) w140) ?_
                            intro a150 he150
                            clear he149 a149
                            refine wpList_nil ?_
                            refine then_ok ?_
                            refine wp_cond_false (he150.op rfl) ?_
                            refine wp_skip ?_
                            exact ⟨he150.mem ⟨rfl, rfl, trivial⟩, hH140⟩
                        | true =>
                          cases hR : rowB la with
                          | false =>
                            have he151 : Env 144 [(0, Value.slice Aa na ca), (1, Value.slice Ab nb cb), (17, Value.slice Ax na cx), (18, Value.slice Ay nb cy), (19, Value.bool true)] a80 := by
                              rw [hV] at he81
                              exact he81
                            clear he81
                            refine wp_region_lit ?_
                            refine lV (Value.bool true) he151 rfl rfl (wanted_plain rfl _) (rn_mv rfl (he151.op rfl) w1) ?_
                            intro a152 he152
                            clear he151 a80
                            refine lV (Value.bool true) he152 rfl rfl (wanted_plain rfl _) (rn_mv rfl (he152.op rfl) w1) ?_
                            intro a153 he153
                            clear he152 a152
                            refine lV (Value.slice Ax na cx) he153 rfl rfl (he153.want rfl rfl rfl rfl rfl) (rn_mv rfl (he153.op rfl) w1) ?_
                            intro a154 he154
                            clear he153 a153
                            refine lC he154 rfl rfl Tryd.func22 (by kernel_rfl) rfl rfl (he154.want rfl rfl rfl rfl rfl) rfl (CRowK (fixL la) true (fix_row la hV) na _ _ _ w1 (hrx.new hH.new) (by omega) (hT44.new hH.new)) ?_
                            intro w155 a156 hn he156
                            have hH155 := hH.call hn
                            clear he154 a154 hH hn
                            refine lV (Value.bool false) he156 rfl rfl (he156.want rfl rfl rfl rfl rfl) (rn_not (b := true) rfl (he156.op rfl) w155) ?_
                            intro a157 he157
                            clear he156 a156
                            refine lV (Value.bool false) he157 rfl rfl (wanted_plain rfl _) (rn_pk rfl (he157.op rfl) (he157.op rfl) w155) ?_
                            intro a158 he158
                            clear he157 a157
                            refine lV (Value.bool false) he158 rfl rfl (wanted_plain rfl _) (rn_mv rfl (he158.op rfl) w155) ?_
                            intro a159 he159
                            clear he158 a158
                            refine lV (Value.slice Aa na ca) he159 rfl rfl (he159.want rfl rfl rfl rfl rfl) (rn_mv rfl (he159.op rfl) w155) ?_
                            intro a160 he160
                            clear he159 a159
                            refine lC he160 rfl rfl Tryd.func22 (by kernel_rfl) rfl rfl (he160.want rfl rfl rfl rfl rfl) rfl (CRowK la false hR na _ _ _ w155 (ha.new hH155.new) (by omega) (hT44.new hH155.new)) ?_
                            intro w161 a162 hn he162
                            have hH161 := hH155.call hn
                            clear he160 a160 hH155 hn
                            refine lV (Value.bool false) he162 rfl rfl (he162.want rfl rfl rfl rfl rfl) (rn_mv rfl (he162.op rfl) w161) ?_
                            intro a163 he163
                            clear he162 a162
                            refine lSkip he163 rfl rfl (he163.wantNot rfl rfl rfl rfl rfl rfl) ?_
                            intro a164 he164
                            clear he163 a163
                            refine lSkip he164 rfl rfl (he164.wantNot rfl rfl rfl rfl rfl rfl) ?_
                            intro a165 he165
                            clear he164 a164
                            refine lSkip he165 rfl rfl (he165.wantNot rfl rfl rfl rfl rfl rfl) ?_
                            intro a166 he166
                            clear he165 a165
                            refine lSkip he166 rfl rfl (he166.wantNot rfl rfl rfl rfl rfl rfl) ?_
                            intro a167 he167
                            clear he166 a166
                            refine lV (Value.bool false) he167 rfl rfl (he167.want rfl rfl rfl rfl rfl) (rn_pk0 rfl (he167.op rfl) (he167.op rfl) w161) ?_
                            intro a168 he168
                            clear he167 a167
                            refine lV (Value.bool false) he168 rfl rfl (wanted_plain rfl _) (rn_pk0 rfl (he168.op rfl) (he168.op rfl) w161) ?_
                            intro a169 he169
                            clear he168 a168
                            refine lV (Value.bool false) he169 rfl rfl (wanted_plain rfl _) (rn_mv rfl (he169.op rfl) w161) ?_
                            intro a170 he170
                            clear he169 a169
                            refine lV (Value.slice Ax na cx) he170 rfl rfl (he170.want rfl rfl rfl rfl rfl) (rn_mv rfl (he170.op rfl) w161) ?_
                            intro a171 he171
                            clear he170 a170
                            refine lCx he171 rfl rfl Tryd.func26 (by kernel_rfl) rfl rfl (he171.want rfl rfl rfl rfl rfl) rfl (CFix_any (fixL la) na _ _ _ w161 (hrx.new hH161.new) (by omega)) ?_
                            rintro _ w172 ⟨v, rfl, hof, hn⟩
                            obtain ⟨bf, Af, cf, rfl, -, hrf⟩ := own_rdc hof ((fix_len none (fixL la)).trans hlfa)
                            clear hof
                            refine ⟨_, rfl, ?_⟩
                            intro a173 he173
                            have hH172 := hH161.call hn
                            clear he171 a171 hH161
                            clear hn
                            refine lV (Value.slice Ax na cx) he173 rfl rfl (he173.want rfl rfl rfl rfl rfl) (rn_mv rfl (he173.op rfl) w172) ?_
                            intro a174 he174
                            clear he173 a173
                            refine lC he174 rfl rfl Tryd.func27 (by kernel_rfl) rfl rfl (he174.want rfl rfl rfl rfl rfl) rfl (SameK (fixL (fixL la)) (fixL la) na na _ _ _ _ _ _ w172 hrf (hrx.new hH172.new) (fix_fix la) (by omega) (by omega)) ?_
                            intro w175 a176 hn he176
                            have hH175 := hH172.call hn
                            replace hrf := hrf.new hn
                            clear he174 a174 hH172 hn
                            refine lV (Value.bool false) he176 rfl rfl (he176.want rfl rfl rfl rfl rfl) (rn_not (b := true) rfl (he176.op rfl) w175) ?_
                            intro a177 he177
                            clear he176 a176
                            refine lV (Value.bool false) he177 rfl rfl (wanted_plain rfl _) (rn_pk0 rfl (he177.op rfl) (he177.op rfl) w175) ?_
                            intro a178 he178
                            clear he177 a177
                            refine lV (Value.bool false) he178 rfl rfl (wanted_plain rfl _) (rn_mv rfl (he178.op rfl) w175) ?_
                            intro a179 he179
                            clear he178 a178
                            refine lV (Value.slice Ax na cx) he179 rfl rfl (he179.want rfl rfl rfl rfl rfl) (rn_mv rfl (he179.op rfl) w175) ?_
                            intro a180 he180
                            clear he179 a179
                            refine lV (Value.int .i64 na) he180 rfl rfl (he180.want rfl rfl rfl rfl rfl) (rn_lenC rfl (he180.op rfl) w175) ?_
                            intro a181 he181
                            clear he180 a180
                            refine lV (Value.slice Aa na ca) he181 rfl rfl (he181.want rfl rfl rfl rfl rfl) (rn_mv rfl (he181.op rfl) w175) ?_
                            intro a182 he182
                            clear he181 a181
                            refine lV (Value.int .i64 na) he182 rfl rfl (he182.want rfl rfl rfl rfl rfl) (rn_lenC rfl (he182.op rfl) w175) ?_
                            intro a183 he183
                            clear he182 a182
                            refine lV (Value.bool false) he183 rfl rfl (he183.want rfl rfl rfl rfl rfl) (rn_neI rfl (he183.op rfl) (he183.op rfl) (by simp) w175) ?_
                            intro a184 he184
                            clear he183 a183
                            refine lV (Value.bool false) he184 rfl rfl (wanted_plain rfl _) (rn_pk0 rfl (he184.op rfl) (he184.op rfl) w175) ?_
                            intro a185 he185
                            clear he184 a184
                            refine wpList_nil ?_
                            refine then_ok ?_
                            refine wp_cond_false (he185.op rfl) ?_
                            refine wp_skip ?_
                            exact ⟨he185.mem ⟨rfl, rfl, trivial⟩, hH175⟩
                          | true =>
                            have he186 : Env 144 [(0, Value.slice Aa na ca), (1, Value.slice Ab nb cb), (17, Value.slice Ax na cx), (18, Value.slice Ay nb cy), (19, Value.bool true)] a80 := by
                              rw [hV] at he81
                              exact he81
                            clear he81
                            refine wp_region_lit ?_
                            refine lV (Value.bool true) he186 rfl rfl (wanted_plain rfl _) (rn_mv rfl (he186.op rfl) w1) ?_
                            intro a187 he187
                            clear he186 a80
                            refine lV (Value.bool true) he187 rfl rfl (wanted_plain rfl _) (rn_mv rfl (he187.op rfl) w1) ?_
                            intro a188 he188
                            clear he187 a187
                            refine lV (Value.slice Ax na cx) he188 rfl rfl (he188.want rfl rfl rfl rfl rfl) (rn_mv rfl (he188.op rfl) w1) ?_
                            intro a189 he189
                            clear he188 a188
                            refine lC he189 rfl rfl Tryd.func22 (by kernel_rfl) rfl rfl (he189.want rfl rfl rfl rfl rfl) rfl (CRowK (fixL la) true (fix_row la hV) na _ _ _ w1 (hrx.new hH.new) (by omega) (hT44.new hH.new)) ?_
                            intro w190 a191 hn he191
                            have hH190 := hH.call hn
                            clear he189 a189 hH hn
                            refine lV (Value.bool false) he191 rfl rfl (he191.want rfl rfl rfl rfl rfl) (rn_not (b := true) rfl (he191.op rfl) w190) ?_
                            intro a192 he192
                            clear he191 a191
                            refine lV (Value.bool false) he192 rfl rfl (wanted_plain rfl _) (rn_pk rfl (he192.op rfl) (he192.op rfl) w190) ?_
                            intro a193 he193
                            clear he192 a192
                            refine lV (Value.bool false) he193 rfl rfl (wanted_plain rfl _) (rn_mv rfl (he193.op rfl) w190) ?_
                            intro a194 he194
                            clear he193 a193
                            refine lV (Value.slice Aa na ca) he194 rfl rfl (he194.want rfl rfl rfl rfl rfl) (rn_mv rfl (he194.op rfl) w190) ?_
                            intro a195 he195
                            clear he194 a194
                            refine lC he195 rfl rfl Tryd.func22 (by kernel_rfl) rfl rfl (he195.want rfl rfl rfl rfl rfl) rfl (CRowK la true hR na _ _ _ w190 (ha.new hH190.new) (by omega) (hT44.new hH190.new)) ?_
                            intro w196 a197 hn he197
                            have hH196 := hH190.call hn
                            clear he195 a195 hH190 hn
                            refine lV (Value.bool true) he197 rfl rfl (he197.want rfl rfl rfl rfl rfl) (rn_mv rfl (he197.op rfl) w196) ?_
                            intro a198 he198
                            clear he197 a197
                            refine lV (Value.slice Ax na cx) he198 rfl rfl (he198.want rfl rfl rfl rfl rfl) (rn_mv rfl (he198.op rfl) w196) ?_
                            intro a199 he199
                            clear he198 a198
                            refine lV (Value.slice Aa na ca) he199 rfl rfl (he199.want rfl rfl rfl rfl rfl) (rn_mv rfl (he199.op rfl) w196) ?_
                            intro a200 he200
                            clear he199 a199
                            refine lC he200 rfl rfl Tryd.func27 (by kernel_rfl) rfl rfl (he200.want rfl rfl rfl rfl rfl) rfl (SameK (fixL la) la na na _ _ _ _ _ _ w196 (hrx.new hH196.new) (ha.new hH196.new) (row_fix la hR) (by omega) (by omega)) ?_
                            intro w201 a202 hn he202
                            have hH201 := hH196.call hn
                            clear he200 a200 hH196 hn
                            refine lV (Value.bool false) he202 rfl rfl (he202.want rfl rfl rfl rfl rfl) (rn_not (b := true) rfl (he202.op rfl) w201) ?_
                            intro a203 he203
                            clear he202 a202
                            refine lV (Value.bool false) he203 rfl rfl (he203.want rfl rfl rfl rfl rfl) (rn_pk rfl (he203.op rfl) (he203.op rfl) w201) ?_
                            intro a204 he204
                            clear he203 a203
                            refine lV (Value.bool false) he204 rfl rfl (wanted_plain rfl _) (rn_pk0 rfl (he204.op rfl) (he204.op rfl) w201) ?_
                            intro a205 he205
                            clear he204 a204
                            refine lV (Value.bool false) he205 rfl rfl (wanted_plain rfl _) (rn_mv rfl (he205.op rfl) w201) ?_
                            intro a206 he206
                            clear he205 a205
                            refine lV (Value.slice Ax na cx) he206 rfl rfl (he206.want rfl rfl rfl rfl rfl) (rn_mv rfl (he206.op rfl) w201) ?_
                            intro a207 he207
                            clear he206 a206
                            refine lCx he207 rfl rfl Tryd.func26 (by kernel_rfl) rfl rfl (he207.want rfl rfl rfl rfl rfl) rfl (CFix_any (fixL la) na _ _ _ w201 (hrx.new hH201.new) (by omega)) ?_
                            rintro _ w208 ⟨v, rfl, hof, hn⟩
                            obtain ⟨bf, Af, cf, rfl, -, hrf⟩ := own_rdc hof ((fix_len none (fixL la)).trans hlfa)
                            clear hof
                            refine ⟨_, rfl, ?_⟩
                            intro a209 he209
                            have hH208 := hH201.call hn
                            clear he207 a207 hH201
                            clear hn
                            refine lV (Value.slice Ax na cx) he209 rfl rfl (he209.want rfl rfl rfl rfl rfl) (rn_mv rfl (he209.op rfl) w208) ?_
                            intro a210 he210
                            clear he209 a209
                            refine lC he210 rfl rfl Tryd.func27 (by kernel_rfl) rfl rfl (he210.want rfl rfl rfl rfl rfl) rfl (SameK (fixL (fixL la)) (fixL la) na na _ _ _ _ _ _ w208 hrf (hrx.new hH208.new) (fix_fix la) (by omega) (by omega)) ?_
                            intro w211 a212 hn he212
                            have hH211 := hH208.call hn
                            replace hrf := hrf.new hn
                            clear he210 a210 hH208 hn
                            refine lV (Value.bool false) he212 rfl rfl (he212.want rfl rfl rfl rfl rfl) (rn_not (b := true) rfl (he212.op rfl) w211) ?_
                            intro a213 he213
                            clear he212 a212
                            refine lV (Value.bool false) he213 rfl rfl (wanted_plain rfl _) (rn_pk0 rfl (he213.op rfl) (he213.op rfl) w211) ?_
                            intro a214 he214
                            clear he213 a213
                            refine lV (Value.bool false) he214 rfl rfl (wanted_plain rfl _) (rn_mv rfl (he214.op rfl) w211) ?_
                            intro a215 he215
                            clear he214 a214
                            refine lV (Value.slice Ax na cx) he215 rfl rfl (he215.want rfl rfl rfl rfl rfl) (rn_mv rfl (he215.op rfl) w211) ?_
                            intro a216 he216
                            clear he215 a215
                            refine lV (Value.int .i64 na) he216 rfl rfl (he216.want rfl rfl rfl rfl rfl) (rn_lenC rfl (he216.op rfl) w211) ?_
                            intro a217 he217
                            clear he216 a216
                            refine lV (Value.slice Aa na ca) he217 rfl rfl (he217.want rfl rfl rfl rfl rfl) (rn_mv rfl (he217.op rfl) w211) ?_
                            intro a218 he218
                            clear he217 a217
                            refine lV (Value.int .i64 na) he218 rfl rfl (he218.want rfl rfl rfl rfl rfl) (rn_lenC rfl (he218.op rfl) w211) ?_
                            intro a219 he219
                            clear he218 a218
                            refine lV (Value.bool false) he219 rfl rfl (he219.want rfl rfl rfl rfl rfl) (rn_neI rfl (he219.op rfl) (he219.op rfl) (by simp) w211) ?_
                            intro a220 he220
                            clear he219 a219
                            refine lV (Value.bool false) he220 rfl rfl (wanted_plain rfl _) (rn_pk0 rfl (he220.op rfl) (he220.op rfl) w211) ?_
                            intro a221 he221
                            clear he220 a220
                            refine wpList_nil ?_
                            refine then_ok ?_
                            refine wp_cond_false (he221.op rfl) ?_
                            refine wp_skip ?_
                            exact ⟨he221.mem ⟨rfl, rfl, trivial⟩, hH211⟩
                      · skip
                        clear he81 hH
                        rintro a23 w23 ⟨he23, hH23⟩
                        as_aux_lemma =>
                          refine wp_seq ?_
                          refine reg_cut (fun a w' => Hp w40 [] w' ∧ Env 144 [] a) ?_ ?_
                          · skip
                            refine wp_seq ?_
                            cases hX : rowB (fixL la) with
                            | false =>
                              refine wp_region_lit ?_
                              refine lV (Value.slice Ax na cx) he23 rfl rfl (wanted_plain rfl _) (rn_mv rfl (he23.op rfl) w23) ?_
                              intro a222 he222
                              clear he23 a23
                              refine lC he222 rfl rfl Tryd.func22 (by kernel_rfl) rfl rfl (wanted_plain rfl _) rfl (CRowK (fixL la) false hX na _ _ _ w23 (hrx.new hH23.new) (by omega) (hT44.new hH23.new)) ?_
                              intro w223 a224 hn he224
                              have hH223 := hH23.call hn
                              clear he222 a222 hH23 hn
                              refine lV (Value.bool false) he224 rfl rfl (wanted_plain rfl _) (rn_mv rfl (he224.op rfl) w223) ?_
                              intro a225 he225
                              clear he224 a224
                              refine lSkip he225 rfl rfl (he225.wantNot rfl rfl rfl rfl rfl rfl) ?_
                              intro a226 he226
                              clear he225 a225
                              refine lSkip he226 rfl rfl (he226.wantNot rfl rfl rfl rfl rfl rfl) ?_
                              intro a227 he227
                              clear he226 a226
                              refine lV (Value.bool false) he227 rfl rfl (wanted_plain rfl _) (rn_pk0 rfl (he227.op rfl) (he227.op rfl) w223) ?_
                              intro a228 he228
                              clear he227 a227
                              refine lV (Value.bool false) he228 rfl rfl (wanted_plain rfl _) (rn_mv rfl (he228.op rfl) w223) ?_
                              intro a229 he229
                              clear he228 a228
                              refine lSkip he229 rfl rfl (he229.wantNot rfl rfl rfl rfl rfl rfl) ?_
                              intro a230 he230
                              clear he229 a229
                              refine lSkip he230 rfl rfl (he230.wantNot rfl rfl rfl rfl rfl rfl) ?_
                              intro a231 he231
                              clear he230 a230
                              refine lSkip he231 rfl rfl (he231.wantNot rfl rfl rfl rfl rfl rfl) ?_
                              intro a232 he232
                              clear he231 a231
                              refine lSkip he232 rfl rfl (he232.wantNot rfl rfl rfl rfl rfl rfl) ?_
                              intro a233 he233
                              clear he232 a232
                              refine lSkip he233 rfl rfl (he233.wantNot rfl rfl rfl rfl rfl rfl) ?_
                              intro a234 he234
                              clear he233 a233
                              refine lSkip he234 rfl rfl (he234.wantNot rfl rfl rfl rfl rfl rfl) ?_
                              intro a235 he235
                              clear he234 a234
                              refine lV (Value.bool false) he235 rfl rfl (wanted_plain rfl _) (rn_pk0 rfl (he235.op rfl) (he235.op rfl) w223) ?_
                              intro a236 he236
                              clear he235 a235
                              refine wpList_nil ?_
                              refine then_ok ?_
                              refine wp_cond_false (he236.op rfl) ?_
                              refine wp_skip ?_
                              exact ⟨hH223, he236.mem trivial⟩
                            | true =>
                              cases hY : rowB (fixL lb) with
                              | false =>
                                refine wp_region_lit ?_
                                refine lV (Value.slice Ax na cx) he23 rfl rfl (wanted_plain rfl _) (rn_mv rfl (he23.op rfl) w23) ?_
                                intro a237 he237
                                clear he23 a23
                                refine lC he237 rfl rfl Tryd.func22 (by kernel_rfl) rfl rfl (wanted_plain rfl _) rfl (CRowK (fixL la) true hX na _ _ _ w23 (hrx.new hH23.new) (by omega) (hT44.new hH23.new)) ?_
                                intro w238 a239 hn he239
                                have hH238 := hH23.call hn
                                clear he237 a237 hH23 hn
                                refine lV (Value.bool true) he239 rfl rfl (wanted_plain rfl _) (rn_mv rfl (he239.op rfl) w238) ?_
                                intro a240 he240
                                clear he239 a239
                                refine lV (Value.slice Ay nb cy) he240 rfl rfl (he240.want rfl rfl rfl rfl rfl) (rn_mv rfl (he240.op rfl) w238) ?_
                                intro a241 he241
                                clear he240 a240
                                refine lC he241 rfl rfl Tryd.func22 (by kernel_rfl) rfl rfl (he241.want rfl rfl rfl rfl rfl) rfl (CRowK (fixL lb) false hY nb _ _ _ w238 (hry.new hH238.new) (by omega) (hT44.new hH238.new)) ?_
                                intro w242 a243 hn he243
                                have hH242 := hH238.call hn
                                clear he241 a241 hH238 hn
                                refine lV (Value.bool false) he243 rfl rfl (wanted_plain rfl _) (rn_pk rfl (he243.op rfl) (he243.op rfl) w242) ?_
                                intro a244 he244
                                clear he243 a243
                                refine lV (Value.bool false) he244 rfl rfl (wanted_plain rfl _) (rn_mv rfl (he244.op rfl) w242) ?_
                                intro a245 he245
                                clear he244 a244
                                refine lSkip he245 rfl rfl (he245.wantNot rfl rfl rfl rfl rfl rfl) ?_
                                intro a246 he246
                                clear he245 a245
                                refine lSkip he246 rfl rfl (he246.wantNot rfl rfl rfl rfl rfl rfl) ?_
                                intro a247 he247
                                clear he246 a246
                                refine lSkip he247 rfl rfl (he247.wantNot rfl rfl rfl rfl rfl rfl) ?_
                                intro a248 he248
                                clear he247 a247
                                refine lSkip he248 rfl rfl (he248.wantNot rfl rfl rfl rfl rfl rfl) ?_
                                intro a249 he249
                                clear he248 a248
                                refine lSkip he249 rfl rfl (he249.wantNot rfl rfl rfl rfl rfl rfl) ?_
                                intro a250 he250
                                clear he249 a249
                                refine lSkip he250 rfl rfl (he250.wantNot rfl rfl rfl rfl rfl rfl) ?_
                                intro a251 he251
                                clear he250 a250
                                refine lV (Value.bool false) he251 rfl rfl (wanted_plain rfl _) (rn_pk0 rfl (he251.op rfl) (he251.op rfl) w242) ?_
                                intro a252 he252
                                clear he251 a251
                                refine wpList_nil ?_
                                refine then_ok ?_
                                refine wp_cond_false (he252.op rfl) ?_
                                refine wp_skip ?_
                                exact ⟨hH242, he252.mem trivial⟩
                              | true =>
                                refine wp_region_lit ?_
                                refine lV (Value.slice Ax na cx) he23 rfl rfl (wanted_plain rfl _) (rn_mv rfl (he23.op rfl) w23) ?_
                                intro a253 he253
                                clear he23 a23
                                refine lC he253 rfl rfl Tryd.func22 (by kernel_rfl) rfl rfl (wanted_plain rfl _) rfl (CRowK (fixL la) true hX na _ _ _ w23 (hrx.new hH23.new) (by omega) (hT44.new hH23.new)) ?_
                                intro w254 a255 hn he255
                                have hH254 := hH23.call hn
                                clear he253 a253 hH23 hn
                                refine lV (Value.bool true) he255 rfl rfl (wanted_plain rfl _) (rn_mv rfl (he255.op rfl) w254) ?_
                                intro a256 he256
                                clear he255 a255
                                refine lV (Value.slice Ay nb cy) he256 rfl rfl (he256.want rfl rfl rfl rfl rfl) (rn_mv rfl (he256.op rfl) w254) ?_
                                intro a257 he257
                                clear he256 a256
                                refine lC he257 rfl rfl Tryd.func22 (by kernel_rfl) rfl rfl (he257.want rfl rfl rfl rfl rfl) rfl (CRowK (fixL lb) true hY nb _ _ _ w254 (hry.new hH254.new) (by omega) (hT44.new hH254.new)) ?_
                                intro w258 a259 hn he259
                                have hH258 := hH254.call hn
                                clear he257 a257 hH254 hn
                                refine lV (Value.bool true) he259 rfl rfl (wanted_plain rfl _) (rn_pk rfl (he259.op rfl) (he259.op rfl) w258) ?_
                                intro a260 he260
                                clear he259 a259
                                refine lV (Value.bool true) he260 rfl rfl (wanted_plain rfl _) (rn_mv rfl (he260.op rfl) w258) ?_
                                intro a261 he261
                                clear he260 a260
                                refine lV (Value.slice Ax na cx) he261 rfl rfl (he261.want rfl rfl rfl rfl rfl) (rn_mv rfl (he261.op rfl) w258) ?_
                                intro a262 he262
                                clear he261 a261
                                refine lApp (l := []) he262 rfl rfl (he262.want rfl rfl rfl rfl rfl) rfl rfl (World.ownsRow_nil w258 w258.heap.size 30 16) rfl (hrx.new hH258.new) (by omega) (Nat.le_refl _) ?_
                                intro v1 wp1 a263 ho hgr he263
                                have hn1 : New w258 wp1 := Fr.grown (Fr.refl _ _) hgr (fun k h => by cases h)
                                rw [Nat.zero_add, List.nil_append] at ho
                                have hHp1 := hH258.call hn1
                                clear hgr he262 a262
                                refine lV (Value.slice Ay nb cy) he263 rfl rfl (he263.want rfl rfl rfl rfl rfl) (rn_mv rfl (he263.op rfl) wp1) ?_
                                intro a264 he264
                                clear he263 a263
                                refine lApp (l := fixL la) (v := v1) (n := na) he264 rfl rfl (he264.want rfl rfl rfl rfl rfl) rfl rfl ho rfl (hry.new hHp1.new) (by omega) hn1.size ?_
                                intro v2 wp2 a265 ho2 hgr he265
                                have hNp : New w40 wp2 := Fr.grown hHp1.new hgr (fun k h => .inr (Nat.le_trans hH258.new.size (own_blk ho k h)))
                                obtain ⟨bp, Ap, cp, rfl, -, hrp⟩ := own_rdc ho2 (by rw [List.length_append, hlfa, hlfb])
                                have hHp2 : Hp w40 [] wp2 := ⟨hNp, by simp, by simp⟩
                                clear hgr ho ho2 hn1 hNp he264 a264 hHp1 hH258
                                refine lC he265 rfl rfl Tryd.func22 (by kernel_rfl) rfl rfl (he265.want rfl rfl rfl rfl rfl) rfl (CRowK (fixL la ++ fixL lb) true (row_append hX hY) (na + nb) _ _ _ wp2 hrp (by omega) (hT44.new hHp2.new)) ?_
                                intro w266 a267 hn he267
                                have hH266 := hHp2.call hn
                                clear he265 a265 hHp2 hn
                                refine lV (Value.bool false) he267 rfl rfl (he267.want rfl rfl rfl rfl rfl) (rn_not (b := true) rfl (he267.op rfl) w266) ?_
                                intro a268 he268
                                clear he267 a267
                                refine lV (Value.bool false) he268 rfl rfl (wanted_plain rfl _) (rn_pk rfl (he268.op rfl) (he268.op rfl) w266) ?_
                                intro a269 he269
                                clear he268 a268
                                refine wpList_nil ?_
                                refine then_ok ?_
                                refine wp_cond_false (he269.op rfl) ?_
                                refine wp_skip ?_
                                exact ⟨hH266, he269.mem trivial⟩
                          · skip
                            clear he23 hH23
                            rintro a25 w25 ⟨hH25, he25⟩
                            as_aux_lemma =>
                              refine wp_seq ?_
                              refine wp_region_lit ?_
                              refine lC he25 rfl rfl Tryd.func13 (by kernel_rfl) rfl rfl (wanted_plain rfl _) rfl (known_any w25 (hT44.new hH25.new)) ?_
                              intro w270 a271 hn he271
                              have hH270 := hH25.call hn
                              clear he25 a25 hH25 hn
                              refine lV (Value.bool true) he271 rfl rfl (wanted_plain rfl _) (rn_asg rfl (he271.op rfl) w270) ?_
                              intro a272 he272
                              clear he271 a271
                              refine wpList_nil ?_
                              refine then_ok ?_
                              refine wp_ret ?_
                              try simp only [Exit.then, Exit.inBlock]
                              exact ret_env rfl he272 rfl ⟨rfl, (New.trans hR44 hH270.new).new_below⟩
          · skip
            intro z' hz'
            by_cases hOf : 1 ≤ ofI r ∧ validB p = true
            · skip
              obtain ⟨hr1, hpv⟩ := hOf
              obtain ⟨f1, f2, f3, f4⟩ := of_first r p hr1 hpv
              refine wp_seq ?_
              refine wp_region_lit ?_
              refine lV (Value.int .i32 r) he35 rfl rfl (wanted_plain rfl _) (rn_mv rfl (he35.op rfl) w1) ?_
              intro a273 he273
              clear he35 a34
              refine lV (Pn.v p) he273 rfl rfl (wanted_plain rfl _) (rn_loadP rfl (he273.op rfl) (hH1.at (i := 0) rfl)) ?_
              intro a274 he274
              clear he273 a273
              obtain ⟨nl, hnl⟩ : ∃ nl, (ofL r p).length = nl := ⟨_, rfl⟩
              have hl1 : 1 ≤ nl := by rw [← hnl]; simp [ofL]
              have hl2 : nl ≤ 2 := by rw [← hnl]; simp only [ofL, List.length_cons]; split <;> simp
              refine lCx he274 rfl rfl Tryd.func30 (by kernel_rfl) rfl rfl (wanted_plain rfl _) rfl (COf_yes r p hr1 hpv w1 (hT.new hH1.new)) ?_
              rintro _ w275 ⟨⟨v, rfl, hol⟩, hn⟩
              rw [hnl] at hol
              obtain ⟨bl, Al, cl, rfl, -, hrl⟩ := own_rdc hol hnl
              obtain ⟨ol, rfl⟩ := hrl.base (by omega)
              clear hol
              refine ⟨_, rfl, ?_⟩
              intro a276 he276
              have hH275 := hH1.call hn
              clear he274 a274 hH1
              clear hn
              refine lV (Value.tuple #[Value.slice (some ⟨bl, ol, none⟩) nl cl, Value.int .i64 0]) he276 rfl rfl (wanted_plain rfl _) (rn_mv rfl (he276.op rfl) w275) ?_
              intro a277 he277
              clear he276 a276
              refine lV (Value.slice (some ⟨bl, ol, none⟩) nl cl) he277 rfl rfl (wanted_plain rfl _) (rn_ext rfl (he277.op rfl) rfl w275) ?_
              intro a278 he278
              clear he277 a277
              refine lV (Value.int .i64 0) he278 rfl rfl (wanted_plain rfl _) (rn_ext rfl (he278.op rfl) rfl w275) ?_
              intro a279 he279
              clear he278 a278
              refine lV (Value.slice (some ⟨bl, ol, none⟩) nl cl) he279 rfl rfl (wanted_plain rfl _) (rn_asg rfl (he279.op rfl) w275) ?_
              intro a280 he280
              clear he279 a279
              refine lV (Value.int .i64 0) he280 rfl rfl (wanted_plain rfl _) (rn_asg rfl (he280.op rfl) w275) ?_
              intro a281 he281
              clear he280 a280
              refine wpList_nil ?_
              refine then_ok ?_
              have he282 : Env 144 [(12, Value.int .i64 0), (11, Value.slice (some ⟨bl, ol, none⟩) nl cl), (0, Value.slice Aa na ca), (1, Value.slice Ab nb cb), (3, Value.int .i32 m)] a281 := he281.mem ⟨rfl, rfl, rfl, rfl, rfl, trivial⟩
              clear he281
              as_aux_lemma =>
                refine wp_seq ?_
                refine wp_seq ?_
                refine wp_region_lit ?_
                refine lV (Value.int .i64 0) he282 rfl rfl (wanted_plain rfl _) (rn_mv rfl (he282.op rfl) w275) ?_
                intro a283 he283
                clear he282 a281
                refine lV (Value.bool true) he283 rfl rfl (wanted_plain rfl _) (rn_eqE rfl (he283.op rfl) (he283.op rfl) (by decide) w275) ?_
                intro a284 he284
                clear he283 a283
                refine lV (Value.bool true) he284 rfl rfl (wanted_plain rfl _) (rn_mv rfl (he284.op rfl) w275) ?_
                intro a285 he285
                clear he284 a284
                refine lV (Value.slice (some ⟨bl, ol, none⟩) nl cl) he285 rfl rfl (he285.want rfl rfl rfl rfl rfl) (rn_mv rfl (he285.op rfl) w275) ?_
                intro a286 he286
                clear he285 a285
                refine lC he286 rfl rfl Tryd.func22 (by kernel_rfl) rfl rfl (he286.want rfl rfl rfl rfl rfl) rfl (CRowK (ofL r p) true f4 nl _ _ _ w275 hrl (by omega) (hT.new hH275.new)) ?_
                intro w287 a288 hn he288
                have hH287 := hH275.call hn
                replace hrl := hrl.new hn
                clear he286 a286 hH275 hn
                refine lV (Value.bool false) he288 rfl rfl (he288.want rfl rfl rfl rfl rfl) (rn_not (b := true) rfl (he288.op rfl) w287) ?_
                intro a289 he289
                clear he288 a288
                refine lV (Value.bool false) he289 rfl rfl (he289.want rfl rfl rfl rfl rfl) (rn_mv rfl (he289.op rfl) w287) ?_
                intro a290 he290
                clear he289 a289
                refine lV (Value.slice (some ⟨bl, ol, none⟩) nl cl) he290 rfl rfl (he290.want rfl rfl rfl rfl rfl) (rn_mv rfl (he290.op rfl) w287) ?_
                intro a291 he291
                clear he290 a290
                refine lV (Value.int .i64 nl) he291 rfl rfl (he291.want rfl rfl rfl rfl rfl) (rn_lenC rfl (he291.op rfl) w287) ?_
                intro a292 he292
                clear he291 a291
                refine lV (Value.bool false) he292 rfl rfl (he292.want rfl rfl rfl rfl rfl) (rn_lss rfl (he292.op rfl) (he292.op rfl) (decide_eq_false (by omega)) w287) ?_
                intro a293 he293
                clear he292 a292
                refine lV (Value.bool false) he293 rfl rfl (he293.want rfl rfl rfl rfl rfl) (rn_pk0 rfl (he293.op rfl) (he293.op rfl) w287) ?_
                intro a294 he294
                clear he293 a293
                refine lV (Value.bool false) he294 rfl rfl (wanted_plain rfl _) (rn_pk rfl (he294.op rfl) (he294.op rfl) w287) ?_
                intro a295 he295
                clear he294 a294
                refine wpList_nil ?_
                refine then_ok ?_
                refine wp_cond_false (he295.op rfl) ?_
                refine wp_skip ?_
                refine then_ok ?_
                have he296 : Env 144 [(12, Value.int .i64 0), (11, Value.slice (some ⟨bl, ol, none⟩) nl cl), (0, Value.slice Aa na ca), (1, Value.slice Ab nb cb), (3, Value.int .i32 m)] a295 := he295.mem ⟨rfl, rfl, rfl, rfl, rfl, trivial⟩
                clear he295
                as_aux_lemma =>
                  refine wp_seq ?_
                  refine wp_seq ?_
                  refine wp_region_lit ?_
                  refine lV (Value.int .i64 0) he296 rfl rfl (wanted_plain rfl _) (rn_mv rfl (he296.op rfl) w287) ?_
                  intro a297 he297
                  clear he296 a295
                  refine lV (Value.bool true) he297 rfl rfl (wanted_plain rfl _) (rn_eqE rfl (he297.op rfl) (he297.op rfl) (by decide) w287) ?_
                  intro a298 he298
                  clear he297 a297
                  refine wpList_nil ?_
                  refine then_ok ?_
                  refine wp_cond_true (he298.op rfl) ?_
                  refine wp_seq ?_
                  refine wp_region_lit ?_
                  refine lV (Value.slice (some ⟨bl, ol, none⟩) nl cl) he298 rfl rfl (wanted_plain rfl _) (rn_mv rfl (he298.op rfl) w287) ?_
                  intro a299 he299
                  clear he298 a298
                  refine lV (Value.pointer (some ⟨bl, ol + 0 * 16, none⟩)) he299 rfl rfl (wanted_plain rfl _) (rn_idx (A := ⟨bl, ol, none⟩) (n := nl) (c := cl) (i := 0) rfl (he299.op rfl) (he299.op rfl) (by omega) (by rw [addr_add]) w287) ?_
                  intro a300 he300
                  clear he299 a299
                  refine lV (Ce.v ⟨r, 0, 0, 0, ofI r, p⟩) he300 rfl rfl (wanted_plain rfl _) (rn_loadM (n := nl) (l := ofL r p) (i := 0) rfl (he300.op rfl) hrl (by omega) rfl rfl) ?_
                  intro a301 he301
                  clear he300 a300
                  refine lNew (fun p => .pointer (some ⟨p, 0, none⟩)) he301 hH287 rfl rfl (wanted_plain rfl _) (rn_alloc rfl w287) ?_
                  intro p302 w302 a303 _ hH302 he303
                  clear he301 a301 hH287
                  refine lSet 0 (cs := (Ce.cs ⟨r, 0, 0, 0, ofI r, p⟩)) he303 hH302 rfl (wanted_plain rfl _) rfl rfl rfl rfl infoC16 rfl (by kernel_rfl) (by kernel_rfl) ?_
                  intro w304 a305 hH304 he305
                  replace hH304 : Hp w [⟨p302, 30, (Ce.cs ⟨r, 0, 0, 0, ofI r, p⟩)⟩, ⟨p1, 27, (Pn.cs p)⟩] w304 := hH304
                  clear he303 a303 hH302
                  refine wpList_nil ?_
                  refine then_ok ?_
                  clear hrl
                  refine wp_seq ?_
                  refine wp_region_lit ?_
                  refine lV (Value.int .i64 0) he305 rfl rfl (wanted_plain rfl _) (rn_asg rfl (he305.op rfl) w304) ?_
                  intro a306 he306
                  clear he305 a305
                  refine wpList_nil ?_
                  refine then_ok ?_
                  have he307 : Env 144 [(14, Value.int .i64 0), (13, Value.pointer (some ⟨p302, 0, none⟩)), (0, Value.slice Aa na ca), (1, Value.slice Ab nb cb), (3, Value.int .i32 m)] a306 := he306.mem ⟨rfl, rfl, rfl, rfl, rfl, trivial⟩
                  clear he306
                  refine wp_block ?_
                  refine loop_nat (fun q a w' => ∃ (k : Nat) (d : Ce), q = 5 - k ∧ k ≤ 5 ∧ Env 144 [(0, Value.slice Aa na ca), (1, Value.slice Ab nb cb), (3, Value.int .i32 m), (13, Value.pointer (some ⟨p302, 0, none⟩)), (14, Value.int .i64 k)] a ∧ Hp w [⟨p302, 30, (Ce.cs d)⟩, ⟨p1, 27, (Pn.cs p)⟩] w' ∧ cellB d = true ∧ d.r ≠ 0 ∧ nM d = k) 5 ⟨0, ⟨r, 0, 0, 0, ofI r, p⟩, rfl, by omega, he307.mem ⟨rfl, rfl, rfl, rfl, rfl, trivial⟩, hH304, f1, f2, f3⟩ ?_
                  clear he307 hH304 f1 f2 f3 f4 a306
                  rintro q a w2 ⟨k, d, rfl, hk, he, hH, d1, d2, d3⟩
                  as_aux_lemma =>
                    by_cases hk5 : k < 5
                    · skip
                      refine wp_seq ?_
                      refine wp_seq ?_
                      refine wp_region_lit ?_
                      refine lV (Value.int .i64 k) he rfl rfl (wanted_plain rfl _) (rn_mv rfl (he.op rfl) w2) ?_
                      intro a308 he308
                      clear he a
                      refine lV (Value.bool true) he308 rfl rfl (wanted_plain rfl _) (rn_lss rfl (he308.op rfl) (he308.op rfl) (decide_eq_true (by omega)) w2) ?_
                      intro a309 he309
                      clear he308 a308
                      refine wpList_nil ?_
                      refine then_ok ?_
                      refine wp_cond_true (he309.op rfl) ?_
                      refine wp_skip ?_
                      refine then_ok ?_
                      refine wp_seq ?_
                      refine wp_block ?_
                      obtain ⟨x, no, hx⟩ : ∃ x no, markR d m = (x, no) := ⟨_, _, rfl⟩
                      refine wp_seq ?_
                      refine wp_region_lit ?_
                      refine lV (Ce.v d) he309 rfl rfl (wanted_plain rfl _) (rn_load rfl (he309.op rfl) (hH.at (i := 0) rfl)) ?_
                      intro a310 he310
                      clear he309 a309
                      refine lV (Value.int .i32 m) he310 rfl rfl (wanted_plain rfl _) (rn_mv rfl (he310.op rfl) w2) ?_
                      intro a311 he311
                      clear he310 a310
                      refine lC he311 rfl rfl Tryd.func31 (by kernel_rfl) rfl rfl (wanted_plain rfl _) rfl (CMarkK d m x no hx _ (hT.new hH.new)) ?_
                      intro w312 a313 hn he313
                      have hH312 := hH.call hn
                      clear he311 a311 hH hn
                      refine lV (Value.tuple #[Ce.v x, Value.int .i64 no]) he313 rfl rfl (wanted_plain rfl _) (rn_mv rfl (he313.op rfl) w312) ?_
                      intro a314 he314
                      clear he313 a313
                      refine lV (Ce.v x) he314 rfl rfl (wanted_plain rfl _) (rn_ext rfl (he314.op rfl) rfl w312) ?_
                      intro a315 he315
                      clear he314 a314
                      refine lV (Value.int .i64 no) he315 rfl rfl (wanted_plain rfl _) (rn_ext rfl (he315.op rfl) rfl w312) ?_
                      intro a316 he316
                      clear he315 a315
                      refine lNew (fun p => .pointer (some ⟨p, 0, none⟩)) he316 hH312 rfl rfl (wanted_plain rfl _) (rn_alloc rfl w312) ?_
                      intro p317 w317 a318 _ hH317 he318
                      clear he316 a316 hH312
                      refine lSet 0 (cs := (Ce.cs x)) he318 hH317 rfl (wanted_plain rfl _) rfl rfl rfl rfl infoC16 rfl (by kernel_rfl) (by kernel_rfl) ?_
                      intro w319 a320 hH319 he320
                      replace hH319 : Hp w [⟨p317, 30, (Ce.cs x)⟩, ⟨p302, 30, (Ce.cs d)⟩, ⟨p1, 27, (Pn.cs p)⟩] w319 := hH319
                      clear he318 a318 hH317
                      refine lV (Value.int .i64 no) he320 rfl rfl (wanted_plain rfl _) (rn_asg rfl (he320.op rfl) w319) ?_
                      intro a321 he321
                      clear he320 a320
                      refine wpList_nil ?_
                      refine then_ok ?_
                      have he322 : Env 144 [(16, Value.int .i64 no), (15, Value.pointer (some ⟨p317, 0, none⟩)), (0, Value.slice Aa na ca), (1, Value.slice Ab nb cb), (3, Value.int .i32 m), (13, Value.pointer (some ⟨p302, 0, none⟩)), (14, Value.int .i64 k)] a321 := he321.mem ⟨rfl, rfl, rfl, rfl, rfl, rfl, rfl, trivial⟩
                      clear he321
                      as_aux_lemma =>
                        refine wp_seq ?_
                        refine wp_seq ?_
                        by_cases hno : no = 0
                        rotate_left
                        · skip
                          refine wp_region_lit ?_
                          refine lV (Value.int .i64 no) he322 rfl rfl (wanted_plain rfl _) (rn_mv rfl (he322.op rfl) w319) ?_
                          intro a323 he323
                          clear he322 a321
                          refine lV (Value.bool true) he323 rfl rfl (wanted_plain rfl _) (rn_neE rfl (he323.op rfl) (he323.op rfl) (by simp [hno]) w319) ?_
                          intro a324 he324
                          clear he323 a323
                          refine wpList_nil ?_
                          refine then_ok ?_
                          refine wp_cond_true (he324.op rfl) ?_
                          refine wp_exit ?_
                          simp only [Exit.then, Exit.inBlock, if_true, Nat.reduceEqDiff, if_false, Nat.one_ne_zero, Nat.zero_ne_one]
                          have hH325 := hH319.tail rfl
                          clear hH319
                          have hH326 := hH325.tail rfl
                          clear hH325
                          have hH327 := hH326.tail rfl
                          clear hH326
                          exact hz' _ _ ⟨he324.mem ⟨rfl, rfl, trivial⟩, hH327⟩
                        · skip
                          refine wp_region_lit ?_
                          refine lV (Value.int .i64 no) he322 rfl rfl (wanted_plain rfl _) (rn_mv rfl (he322.op rfl) w319) ?_
                          intro a328 he328
                          clear he322 a321
                          refine lV (Value.bool false) he328 rfl rfl (wanted_plain rfl _) (rn_neE rfl (he328.op rfl) (he328.op rfl) (by simp [hno]) w319) ?_
                          intro a329 he329
                          clear he328 a328
                          refine wpList_nil ?_
                          refine then_ok ?_
                          refine wp_cond_false (he329.op rfl) ?_
                          refine wp_skip ?_
                          refine then_ok ?_
                          subst hno
                          obtain ⟨x1, x2, x3, x4⟩ := mark_facts hx d1 d2
                          have x5 := nM_le x
                          clear hx
                          refine wp_seq ?_
                          refine wp_seq ?_
                          refine wp_region_held_drew (S := Hp w [⟨p317, 30, (Ce.cs x)⟩, ⟨p302, 30, (Ce.cs d)⟩, ⟨p1, 27, (Pn.cs p)⟩]) (by kernel_rfl) hH319.drew (fun hH330 => ?_)
                          clear hH319
                          generalize World.drew _ = w330 at *
                          refine hV (fuel := 15) (i := 0) (Ce.v x) he329 rfl rfl rfl (by kernel_rfl) (by kernel_rfl) (by kernel_rfl) (fun _ _ _ h => h) (wanted_plain rfl _) (fun w' hw' => rn_load rfl (he329.op rfl) (hw'.at (i := 0) rfl)) hH330 ?_
                          intro a331 he331
                          clear he329 a329
                          refine hC (fuel := 14) (i := 1) he331 (by kernel_rfl) rfl rfl rfl Tryd.func14 (by kernel_rfl) rfl rfl (wanted_plain rfl _) rfl (CValidK x true x1 _ (hT.new hH330.new)) ?_
                          rintro _ w332 ⟨rfl, hn⟩
                          have hH332 := hH330.call hn
                          refine ⟨_, rfl, hH332, ?_⟩
                          intro a333 he333
                          clear he331 a331 hH330 hn
                          refine hV (fuel := 13) (i := 2) (Value.bool false) he333 rfl rfl rfl (by kernel_rfl) (by kernel_rfl) (by kernel_rfl) (fun _ _ _ h => h) (wanted_plain rfl _) (fun w' _ => rn_not (b := true) rfl (he333.op rfl) w') hH332 ?_
                          intro a334 he334
                          clear he333 a333
                          refine hV (fuel := 12) (i := 3) (Value.bool false) he334 rfl rfl rfl (by kernel_rfl) (by kernel_rfl) (by kernel_rfl) (fun _ _ _ h => h) (wanted_plain rfl _) (fun w' _ => rn_mv rfl (he334.op rfl) w') hH332 ?_
                          intro a335 he335
                          clear he334 a334
                          refine hV (fuel := 11) (i := 4) (Value.int .i64 k) he335 rfl rfl rfl (by kernel_rfl) (by kernel_rfl) (by kernel_rfl) (fun _ _ _ h => h) (he335.want rfl rfl rfl rfl rfl) (fun w' _ => rn_mv rfl (he335.op rfl) w') hH332 ?_
                          intro a336 he336
                          clear he335 a335
                          refine hV (fuel := 10) (i := 5) (Value.bool false) he336 rfl rfl rfl (by kernel_rfl) (by kernel_rfl) (by kernel_rfl) (fun _ _ _ h => h) (he336.want rfl rfl rfl rfl rfl) (fun w' _ => rn_geq rfl (he336.op rfl) (he336.op rfl) (decide_eq_false (by omega)) w') hH332 ?_
                          intro a337 he337
                          clear he336 a336
                          refine hV (fuel := 9) (i := 6) (Value.bool false) he337 rfl rfl rfl (by kernel_rfl) (by kernel_rfl) (by kernel_rfl) (fun _ _ _ h => h) (wanted_plain rfl _) (fun w' _ => rn_pk0 rfl (he337.op rfl) (he337.op rfl) w') hH332 ?_
                          intro a338 he338
                          clear he337 a337
                          refine hV (fuel := 8) (i := 7) (Value.bool false) he338 rfl rfl rfl (by kernel_rfl) (by kernel_rfl) (by kernel_rfl) (fun _ _ _ h => h) (wanted_plain rfl _) (fun w' _ => rn_mv rfl (he338.op rfl) w') hH332 ?_
                          intro a339 he339
                          clear he338 a338
                          refine hV (fuel := 7) (i := 8) (Ce.v x) he339 rfl rfl rfl (by kernel_rfl) (by kernel_rfl) (by kernel_rfl) (fun _ _ _ h => h) (he339.want rfl rfl rfl rfl rfl) (fun w' hw' => rn_load rfl (he339.op rfl) (hw'.at (i := 0) rfl)) hH332 ?_
                          intro a340 he340
                          clear he339 a339
                          refine hV (fuel := 6) (i := 11) (Ce.v d) he340 rfl rfl rfl (by kernel_rfl) (by kernel_rfl) (by kernel_rfl) (fun _ _ _ h => h) (he340.want rfl rfl rfl rfl rfl) (fun w' hw' => rn_load rfl (he340.op rfl) (hw'.at (i := 1) rfl)) hH332 ?_
                          intro a341 he341
                          clear he340 a340
                          refine hC (fuel := 5) (i := 9) he341 (by kernel_rfl) rfl rfl rfl Tryd.func18 (by kernel_rfl) rfl rfl (he341.want rfl rfl rfl rfl rfl) rfl (CText_any x _) ?_
                          rintro _ w342 ⟨rfl, hn⟩
                          have hH342 := hH332.call hn
                          refine ⟨_, rfl, hH342, ?_⟩
                          intro a343 he343
                          clear he341 a341 hH332 hn
                          refine hV (fuel := 4) (i := 10) (Value.int .i64 (runesBytes (textC x)).size) he343 rfl rfl rfl (by kernel_rfl) (by kernel_rfl) (by kernel_rfl) (fun _ _ _ h => h) (he343.want rfl rfl rfl rfl rfl) (fun w' _ => rn_lenS rfl (he343.op rfl) w') hH342 ?_
                          intro a344 he344
                          clear he343 a343
                          refine hC (fuel := 3) (i := 12) he344 (by kernel_rfl) rfl rfl rfl Tryd.func18 (by kernel_rfl) rfl rfl (he344.want rfl rfl rfl rfl rfl) rfl (CText_any d _) ?_
                          rintro _ w345 ⟨rfl, hn⟩
                          have hH345 := hH342.call hn
                          refine ⟨_, rfl, hH345, ?_⟩
                          intro a346 he346
                          clear he344 a344 hH342 hn
                          refine hV (fuel := 2) (i := 13) (Value.int .i64 (runesBytes (textC d)).size) he346 rfl rfl rfl (by kernel_rfl) (by kernel_rfl) (by kernel_rfl) (fun _ _ _ h => h) (he346.want rfl rfl rfl rfl rfl) (fun w' _ => rn_lenS rfl (he346.op rfl) w') hH345 ?_
                          intro a347 he347
                          clear he346 a346
                          refine hV (fuel := 1) (i := 14) (Value.bool false) he347 rfl rfl rfl (by kernel_rfl) (by kernel_rfl) (by kernel_rfl) (fun _ _ _ h => h) (he347.want rfl rfl rfl rfl rfl) (fun w' _ => rn_leq rfl (he347.op rfl) (he347.op rfl) (decide_eq_false (by omega)) w') hH345 ?_
                          intro a348 he348
                          clear he347 a347
                          refine hV (fuel := 0) (i := 15) (Value.bool false) he348 rfl rfl rfl (by kernel_rfl) (by kernel_rfl) (by kernel_rfl) (fun _ _ _ h => h) (wanted_plain rfl _) (fun w' _ => rn_pk0 rfl (he348.op rfl) (he348.op rfl) w') hH345 ?_
                          intro a349 he349
                          clear he348 a348
                          refine wpAnyH_done (by kernel_rfl) ?_ _
                          refine then_ok ?_
                          refine wp_cond_false (he349.op rfl) ?_
                          refine wp_skip ?_
                          refine then_ok ?_
                          have he350 : Env 144 [(15, Value.pointer (some ⟨p317, 0, none⟩)), (0, Value.slice Aa na ca), (1, Value.slice Ab nb cb), (3, Value.int .i32 m), (13, Value.pointer (some ⟨p302, 0, none⟩)), (14, Value.int .i64 k)] a349 := he349.mem ⟨rfl, rfl, rfl, rfl, rfl, rfl, trivial⟩
                          clear he349
                          as_aux_lemma =>
                            refine wp_region_lit ?_
                            refine lV (Ce.v x) he350 rfl rfl (wanted_plain rfl _) (rn_load rfl (he350.op rfl) (hH345.at (i := 0) rfl)) ?_
                            intro a351 he351
                            clear he350 a349
                            refine lSet 1 (cs := (Ce.cs x)) he351 hH345 rfl (wanted_plain rfl _) rfl rfl rfl rfl infoC16 rfl (by kernel_rfl) (by kernel_rfl) ?_
                            intro w352 a353 hH352 he353
                            replace hH352 : Hp w [⟨p317, 30, (Ce.cs x)⟩, ⟨p302, 30, (Ce.cs x)⟩, ⟨p1, 27, (Pn.cs p)⟩] w352 := hH352
                            clear he351 a351 hH345
                            refine wpList_nil ?_
                            refine block_ok ?_
                            refine then_ok ?_
                            refine wp_region_lit ?_
                            refine lV (Value.int .i64 k) he353 rfl rfl (wanted_plain rfl _) (rn_mv rfl (he353.op rfl) w352) ?_
                            intro a354 he354
                            clear he353 a353
                            refine lV (Value.int .i64 ((k + 1 : Nat) : Int)) he354 rfl rfl (wanted_plain rfl _) (rn_add1 rfl (he354.op rfl) (he354.op rfl) (by rw [IntWalk.i64_in _ ⟨by omega, by omega⟩]; rfl) w352) ?_
                            intro a355 he355
                            clear he354 a354
                            refine lV (Value.int .i64 ((k + 1 : Nat) : Int)) he355 rfl rfl (wanted_plain rfl _) (rn_asg rfl (he355.op rfl) w352) ?_
                            intro a356 he356
                            clear he355 a355
                            refine wpList_nil ?_
                            refine then_ok ?_
                            have hH357 := hH352.tail rfl
                            clear hH352
                            exact ⟨5 - (k + 1), by omega, k + 1, x, rfl, by omega, he356.mem ⟨rfl, rfl, rfl, rfl, rfl, trivial⟩, hH357, x1, x2, by omega⟩
                    · skip
                      refine wp_seq ?_
                      refine wp_seq ?_
                      refine wp_region_lit ?_
                      refine lV (Value.int .i64 k) he rfl rfl (wanted_plain rfl _) (rn_mv rfl (he.op rfl) w2) ?_
                      intro a358 he358
                      clear he a
                      refine lV (Value.bool false) he358 rfl rfl (wanted_plain rfl _) (rn_lss rfl (he358.op rfl) (he358.op rfl) (decide_eq_false (by omega)) w2) ?_
                      intro a359 he359
                      clear he358 a358
                      refine wpList_nil ?_
                      refine then_ok ?_
                      refine wp_cond_false (he359.op rfl) ?_
                      refine wp_exit ?_
                      simp only [Exit.then, Exit.inBlock, if_true]
                      have hH360 := hH.tail rfl
                      clear hH
                      have hH361 := hH360.tail rfl
                      clear hH360
                      exact hz' _ _ ⟨he359.mem ⟨rfl, rfl, trivial⟩, hH361⟩
            · skip
              have hOf : ¬ 1 ≤ ofI r ∨ validB p = false := by
                by_cases h1 : 1 ≤ ofI r
                · right
                  cases hv : validB p with
                  | false => rfl
                  | true => exact absurd ⟨h1, hv⟩ hOf
                · exact .inl h1
              refine wp_seq ?_
              refine wp_region_lit ?_
              refine lV (Value.int .i32 r) he35 rfl rfl (wanted_plain rfl _) (rn_mv rfl (he35.op rfl) w1) ?_
              intro a362 he362
              clear he35 a34
              refine lV (Pn.v p) he362 rfl rfl (wanted_plain rfl _) (rn_loadP rfl (he362.op rfl) (hH1.at (i := 0) rfl)) ?_
              intro a363 he363
              clear he362 a362
              refine lCx he363 rfl rfl Tryd.func30 (by kernel_rfl) rfl rfl (wanted_plain rfl _) rfl (COf_no r p hOf w1 (hT.new hH1.new)) ?_
              rintro _ w364 ⟨rfl, hn⟩
              refine ⟨_, rfl, ?_⟩
              intro a365 he365
              have hH364 := hH1.call hn
              clear he363 a363 hH1
              clear hn
              refine lV (Value.tuple #[Value.slice none 0 0, Value.int .i64 2]) he365 rfl rfl (wanted_plain rfl _) (rn_mv rfl (he365.op rfl) w364) ?_
              intro a366 he366
              clear he365 a365
              refine lV (Value.slice none 0 0) he366 rfl rfl (wanted_plain rfl _) (rn_ext rfl (he366.op rfl) rfl w364) ?_
              intro a367 he367
              clear he366 a366
              refine lV (Value.int .i64 2) he367 rfl rfl (wanted_plain rfl _) (rn_ext rfl (he367.op rfl) rfl w364) ?_
              intro a368 he368
              clear he367 a367
              refine lV (Value.slice none 0 0) he368 rfl rfl (wanted_plain rfl _) (rn_asg rfl (he368.op rfl) w364) ?_
              intro a369 he369
              clear he368 a368
              refine lV (Value.int .i64 2) he369 rfl rfl (wanted_plain rfl _) (rn_asg rfl (he369.op rfl) w364) ?_
              intro a370 he370
              clear he369 a369
              refine wpList_nil ?_
              refine then_ok ?_
              have he371 : Env 144 [(12, Value.int .i64 2), (11, Value.slice none 0 0), (0, Value.slice Aa na ca), (1, Value.slice Ab nb cb), (3, Value.int .i32 m)] a370 := he370.mem ⟨rfl, rfl, rfl, rfl, rfl, trivial⟩
              clear he370
              as_aux_lemma =>
                refine wp_seq ?_
                refine wp_seq ?_
                refine wp_region_lit ?_
                refine lV (Value.int .i64 2) he371 rfl rfl (wanted_plain rfl _) (rn_mv rfl (he371.op rfl) w364) ?_
                intro a372 he372
                clear he371 a370
                refine lV (Value.bool false) he372 rfl rfl (wanted_plain rfl _) (rn_eqE rfl (he372.op rfl) (he372.op rfl) (by decide) w364) ?_
                intro a373 he373
                clear he372 a372
                refine lV (Value.bool false) he373 rfl rfl (wanted_plain rfl _) (rn_mv rfl (he373.op rfl) w364) ?_
                intro a374 he374
                clear he373 a373
                refine lSkip he374 rfl rfl (he374.wantNot rfl rfl rfl rfl rfl rfl) ?_
                intro a375 he375
                clear he374 a374
                refine lSkip he375 rfl rfl (he375.wantNot rfl rfl rfl rfl rfl rfl) ?_
                intro a376 he376
                clear he375 a375
                refine lSkip he376 rfl rfl (he376.wantNot rfl rfl rfl rfl rfl rfl) ?_
                intro a377 he377
                clear he376 a376
                refine lSkip he377 rfl rfl (he377.wantNot rfl rfl rfl rfl rfl rfl) ?_
                intro a378 he378
                clear he377 a377
                refine lSkip he378 rfl rfl (he378.wantU rfl rfl rfl rfl rfl) ?_
                intro a379 he379
                clear he378 a378
                refine lSkip he379 rfl rfl (he379.wantU rfl rfl rfl rfl rfl) ?_
                intro a380 he380
                clear he379 a379
                refine lSkip he380 rfl rfl (he380.wantU rfl rfl rfl rfl rfl) ?_
                intro a381 he381
                clear he380 a380
                refine lSkip he381 rfl rfl (he381.wantNot rfl rfl rfl rfl rfl rfl) ?_
                intro a382 he382
                clear he381 a381
                refine lV (Value.bool false) he382 rfl rfl (wanted_plain rfl _) (rn_pk0 rfl (he382.op rfl) (he382.op rfl) w364) ?_
                intro a383 he383
                clear he382 a382
                refine wpList_nil ?_
                refine then_ok ?_
                refine wp_cond_false (he383.op rfl) ?_
                refine wp_skip ?_
                refine then_ok ?_
                refine wp_seq ?_
                refine wp_seq ?_
                refine wp_region_lit ?_
                refine lV (Value.int .i64 2) he383 rfl rfl (wanted_plain rfl _) (rn_mv rfl (he383.op rfl) w364) ?_
                intro a384 he384
                clear he383 a383
                refine lV (Value.bool false) he384 rfl rfl (wanted_plain rfl _) (rn_eqE rfl (he384.op rfl) (he384.op rfl) (by decide) w364) ?_
                intro a385 he385
                clear he384 a384
                refine wpList_nil ?_
                refine then_ok ?_
                refine wp_cond_false (he385.op rfl) ?_
                refine wp_skip ?_
                refine then_ok ?_
                have hH386 := hH364.tail rfl
                clear hH364
                exact hz' _ _ ⟨he385.mem ⟨rfl, rfl, trivial⟩, hH386⟩

theorem cellHolds_for (Aa : Option Addr) (na ca : Nat) (la : List Ce) (Ab : Option Addr) (nb cb : Nat) (lb : List Ce) (r m : Int) (p : Pn) (w : World) (h0 : RowC w Aa na la) (h1 : RowC w Ab nb lb) (_h2 : (Lit.int .i32 r).wf = true) (_h3 : (Lit.int .i32 m).wf = true) (_h4 : p.Ok) (hT : Tab w) :
    Calls Tryd.prog 7 #[.slice Aa na ca, .slice Ab nb cb, .int .i32 r, .int .i32 m, p.v] w fun e w' => e = .returned (.bool true) ∧ Below w.heap.size w w' := by
  obtain ⟨ba, ha⟩ := h0
  obtain ⟨bb, hb⟩ := h1
  exact cellHolds_walk la lb na ba ca nb bb cb Aa Ab r m p w ha hb hT

end Go.Proofs.YtciifgajnblenaaDoor
