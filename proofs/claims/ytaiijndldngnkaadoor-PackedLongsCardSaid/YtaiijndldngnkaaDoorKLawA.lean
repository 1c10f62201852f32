/-
  PackedCells, PackedWords, PackedPacks.
-/
import Derived.Test.YtaiijndldngnkaaDoorKKnown
namespace Go.Proofs.YtaiijndldngnkaaDoor
open Go.RowKit

set_option linter.unusedSimpArgs false in
set_option maxRecDepth 100000 in
set_option maxHeartbeats 1600000 in
theorem packedCells_walk (c : Ce) (hc : c.Ok) (w : World) (hT : Tab w) :
    Calls Tryd.prog 3 #[c.v] w fun e w' => e = .returned (.bool true) ∧ Below w.heap.size w w' := by
  have hp := hc.p
  clear hc
  refine calls_args (vl := [Ce.v c]) 25 Tryd.func3 rfl Tryd.ntmps3 (by kernel_rfl) (fun a he => ?_)
  have he0 : Env 25 [(0, Ce.v c)] a := he
  clear he
  have hH := Hp.start w
  refine wp_seq ?_
  refine wp_region_lit ?_
  refine lNew (fun p => .pointer (some ⟨p, 0, none⟩)) he0 hH rfl rfl (wanted_plain rfl _) (rn_boxC rfl (he0.op rfl) w) ?_
  intro p1 w1 a2 hn hH1 he2
  clear he0 a hH hn
  refine lV (Value.bool false) he2 rfl rfl (wanted_plain rfl _) (rn_asg rfl (he2.op rfl) w1) ?_
  intro a3 he3
  clear he2 a2
  refine wpList_nil ?_
  refine then_ok ?_
  cases hv : cellB c with
  | false =>
    refine wp_seq ?_
    refine wp_seq ?_
    refine wp_region_lit ?_
    refine lV (Ce.v c) he3 rfl rfl (wanted_plain rfl _) (rn_load rfl (he3.op rfl) (hH1.at (i := 0) rfl)) ?_
    intro a4 he4
    clear he3 a3
    refine lC he4 rfl rfl Tryd.func9 (by kernel_rfl) rfl rfl (wanted_plain rfl _) rfl (said_of (RValidC_any c w1) hv) ?_
    intro w5 a6 hn he6
    have hH5 := hH1.call hn
    clear he4 a4 hH1 hn
    refine lV (Value.bool true) he6 rfl rfl (wanted_plain rfl _) (rn_not (b := false) rfl (he6.op rfl) w5) ?_
    intro a7 he7
    clear he6 a6
    refine wpList_nil ?_
    refine then_ok ?_
    refine wp_cond_true (he7.op rfl) ?_
    have h1 : (decide (wordsO c = zeroW) && (wordsE c == 2)) = true := by simp [wordsO, wordsE, hv]
    refine wp_seq ?_
    refine wp_region_lit ?_
    refine lV (Ce.v c) he7 rfl rfl (wanted_plain rfl _) (rn_load rfl (he7.op rfl) (hH5.at (i := 0) rfl)) ?_
    intro a8 he8
    clear he7 a7
    refine lV (Wd.v zeroW) he8 rfl rfl (wanted_plain rfl _) (rn_bW0 rfl w5) ?_
    intro a9 he9
    clear he8 a8
    refine lC he9 rfl rfl Tryd.func10 (by kernel_rfl) rfl rfl (wanted_plain rfl _) rfl (words_b c hp zeroW 2 true h1 w5 (hT.new hH5.new)) ?_
    intro w10 a11 hn he11
    have hH10 := hH5.call hn
    clear he9 a9 hH5 hn
    refine lV (Value.bool true) he11 rfl rfl (wanted_plain rfl _) (rn_mv rfl (he11.op rfl) w10) ?_
    intro a12 he12
    clear he11 a11
    refine lC he12 rfl rfl Tryd.func11 (by kernel_rfl) rfl rfl (he12.want rfl rfl rfl rfl rfl) rfl (known_any w10 (hT.new hH10.new)) ?_
    intro w13 a14 hn he14
    have hH13 := hH10.call hn
    clear he12 a12 hH10 hn
    refine lV (Value.bool true) he14 rfl rfl (wanted_plain rfl _) (rn_pk rfl (he14.op rfl) (he14.op rfl) w13) ?_
    intro a15 he15
    clear he14 a14
    refine lV (Value.bool true) he15 rfl rfl (wanted_plain rfl _) (rn_asg rfl (he15.op rfl) w13) ?_
    intro a16 he16
    clear he15 a15
    refine wpList_nil ?_
    refine then_ok ?_
    refine wp_ret ?_
    try simp only [Exit.then, Exit.inBlock]
    exact ret_env rfl he16 rfl ⟨rfl, hH13.new.new_below⟩
  | true =>
    refine wp_seq ?_
    refine wp_seq ?_
    refine wp_region_lit ?_
    refine lV (Ce.v c) he3 rfl rfl (wanted_plain rfl _) (rn_load rfl (he3.op rfl) (hH1.at (i := 0) rfl)) ?_
    intro a17 he17
    clear he3 a3
    refine lC he17 rfl rfl Tryd.func9 (by kernel_rfl) rfl rfl (wanted_plain rfl _) rfl (said_of (RValidC_any c w1) hv) ?_
    intro w18 a19 hn he19
    have hH18 := hH1.call hn
    clear he17 a17 hH1 hn
    refine lV (Value.bool false) he19 rfl rfl (wanted_plain rfl _) (rn_not (b := true) rfl (he19.op rfl) w18) ?_
    intro a20 he20
    clear he19 a19
    refine wpList_nil ?_
    refine then_ok ?_
    refine wp_cond_false (he20.op rfl) ?_
    refine wp_skip ?_
    refine then_ok ?_
    have h1 : (decide (wordsO c = wordsI c) && (wordsE c == 0)) = true := by simp [wordsO, wordsE, hv]
    have h2 : (decide (cellO (wordsI c) = c) && (cellE (wordsI c) == 0)) = true := by simp [cellO, cellE, good_words hv hp, cellI_words hv hp]
    refine wp_seq ?_
    refine wp_region_held_drew (S := Hp w [⟨p1, 30, (Ce.cs c)⟩]) (by kernel_rfl) (hH18.drew) (fun _ => ?_)
    have hn : New w18 (World.drew w18) := (Fr.refl _ _).drew
    clear hn
    have hH21 := hH18.drew
    clear hH18
    generalize World.drew w18 = w21 at *
    refine hV (fuel := 13) (i := 0) (Ce.v c) he20 rfl rfl rfl (by kernel_rfl) (by kernel_rfl) (by kernel_rfl) (fun _ _ _ h => h) (wanted_plain rfl _) (fun w' hw' => rn_load rfl (he20.op rfl) (hw'.at (i := 0) rfl)) hH21 ?_
    intro a22 he22
    clear he20 a20
    refine hV (fuel := 12) (i := 1) (Ce.v c) he22 rfl rfl rfl (by kernel_rfl) (by kernel_rfl) (by kernel_rfl) (fun _ _ _ h => h) (wanted_plain rfl _) (fun w' hw' => rn_load rfl (he22.op rfl) (hw'.at (i := 0) rfl)) hH21 ?_
    intro a23 he23
    clear he22 a22
    refine hC (fuel := 11) (i := 2) he23 (by kernel_rfl) rfl rfl rfl Tryd.func12 (by kernel_rfl) rfl rfl (wanted_plain rfl _) rfl (RWords_any c hv hp w21) ?_
    rintro _ w24 ⟨rfl, hn⟩
    have hH24 := hH21.call hn
    refine ⟨_, rfl, hH24, ?_⟩
    intro a25 he25
    clear he23 a23 hH21 hn
    refine hC (fuel := 10) (i := 3) he25 (by kernel_rfl) rfl rfl rfl Tryd.func10 (by kernel_rfl) rfl rfl (wanted_plain rfl _) rfl (words_b c hp (wordsI c) 0 true h1 w24 (hT.new hH24.new)) ?_
    rintro _ w26 ⟨rfl, hn⟩
    have hH26 := hH24.call hn
    refine ⟨_, rfl, hH26, ?_⟩
    intro a27 he27
    clear he25 a25 hH24 hn
    refine hV (fuel := 9) (i := 4) (Value.bool true) he27 rfl rfl rfl (by kernel_rfl) (by kernel_rfl) (by kernel_rfl) (fun _ _ _ h => h) (wanted_plain rfl _) (fun w' _ => rn_mv rfl (he27.op rfl) w') hH26 ?_
    intro a28 he28
    clear he27 a27
    refine hV (fuel := 8) (i := 5) (Ce.v c) he28 rfl rfl rfl (by kernel_rfl) (by kernel_rfl) (by kernel_rfl) (fun _ _ _ h => h) (he28.want rfl rfl rfl rfl rfl) (fun w' hw' => rn_load rfl (he28.op rfl) (hw'.at (i := 0) rfl)) hH26 ?_
    intro a29 he29
    clear he28 a28
    refine hV (fuel := 7) (i := 7) (Ce.v c) he29 rfl rfl rfl (by kernel_rfl) (by kernel_rfl) (by kernel_rfl) (fun _ _ _ h => h) (he29.want rfl rfl rfl rfl rfl) (fun w' hw' => rn_load rfl (he29.op rfl) (hw'.at (i := 0) rfl)) hH26 ?_
    intro a30 he30
    clear he29 a29
    refine hC (fuel := 6) (i := 6) he30 (by kernel_rfl) rfl rfl rfl Tryd.func12 (by kernel_rfl) rfl rfl (he30.want rfl rfl rfl rfl rfl) rfl (RWords_any c hv hp w26) ?_
    rintro _ w31 ⟨rfl, hn⟩
    have hH31 := hH26.call hn
    refine ⟨_, rfl, hH31, ?_⟩
    intro a32 he32
    clear he30 a30 hH26 hn
    refine hC (fuel := 5) (i := 8) he32 (by kernel_rfl) rfl rfl rfl Tryd.func13 (by kernel_rfl) rfl rfl (he32.want rfl rfl rfl rfl rfl) rfl (cell_b (wordsI c) (words_ok hv hp) c 0 true h2 w31 (hT.new hH31.new)) ?_
    rintro _ w33 ⟨rfl, hn⟩
    have hH33 := hH31.call hn
    refine ⟨_, rfl, hH33, ?_⟩
    intro a34 he34
    clear he32 a32 hH31 hn
    refine hV (fuel := 4) (i := 9) (Value.bool true) he34 rfl rfl rfl (by kernel_rfl) (by kernel_rfl) (by kernel_rfl) (fun _ _ _ h => h) (wanted_plain rfl _) (fun w' _ => rn_pk rfl (he34.op rfl) (he34.op rfl) w') hH33 ?_
    intro a35 he35
    clear he34 a34
    refine hV (fuel := 3) (i := 10) (Value.bool true) he35 rfl rfl rfl (by kernel_rfl) (by kernel_rfl) (by kernel_rfl) (fun _ _ _ h => h) (wanted_plain rfl _) (fun w' _ => rn_mv rfl (he35.op rfl) w') hH33 ?_
    intro a36 he36
    clear he35 a35
    refine hC (fuel := 2) (i := 11) he36 (by kernel_rfl) rfl rfl rfl Tryd.func11 (by kernel_rfl) rfl rfl (he36.want rfl rfl rfl rfl rfl) rfl (known_any w33 (hT.new hH33.new)) ?_
    rintro _ w37 ⟨rfl, hn⟩
    have hH37 := hH33.call hn
    refine ⟨_, rfl, hH37, ?_⟩
    intro a38 he38
    clear he36 a36 hH33 hn
    refine hV (fuel := 1) (i := 12) (Value.bool true) he38 rfl rfl rfl (by kernel_rfl) (by kernel_rfl) (by kernel_rfl) (fun _ _ _ h => h) (wanted_plain rfl _) (fun w' _ => rn_pk rfl (he38.op rfl) (he38.op rfl) w') hH37 ?_
    intro a39 he39
    clear he38 a38
    refine hV (fuel := 0) (i := 13) (Value.bool true) he39 rfl rfl rfl (by kernel_rfl) (by kernel_rfl) (by kernel_rfl) (fun _ _ _ h => h) (wanted_plain rfl _) (fun w' _ => rn_asg rfl (he39.op rfl) w') hH37 ?_
    intro a40 he40
    clear he39 a39
    refine wpAnyH_done (by kernel_rfl) ?_ _
    refine then_ok ?_
    refine wp_ret ?_
    try simp only [Exit.then, Exit.inBlock]
    exact ret_env rfl he40 rfl ⟨rfl, hH37.new.new_below⟩

set_option linter.unusedSimpArgs false in
set_option maxRecDepth 100000 in
set_option maxHeartbeats 1600000 in
theorem packedWords_walk (x : Wd) (hx : x.Ok) (w : World) (hT : Tab w) :
    Calls Tryd.prog 4 #[x.v] w fun e w' => e = .returned (.bool true) ∧ Below w.heap.size w w' := by
  refine calls_args (vl := [Wd.v x]) 29 Tryd.func4 rfl Tryd.ntmps4 (by kernel_rfl) (fun a he => ?_)
  have he0 : Env 29 [(0, Wd.v x)] a := he
  clear he
  have hH := Hp.start w
  refine wp_seq ?_
  refine wp_region_lit ?_
  refine lNew (fun p => .pointer (some ⟨p, 0, none⟩)) he0 hH rfl rfl (wanted_plain rfl _) (rn_boxW rfl (he0.op rfl) w) ?_
  intro p1 w1 a2 hn hH1 he2
  clear he0 a hH hn
  refine lV (Value.bool false) he2 rfl rfl (wanted_plain rfl _) (rn_asg rfl (he2.op rfl) w1) ?_
  intro a3 he3
  clear he2 a2
  refine wpList_nil ?_
  refine then_ok ?_
  cases hg : goodB x with
  | false =>
    refine wp_seq ?_
    refine wp_region_lit ?_
    refine lV (Wd.v x) he3 rfl rfl (wanted_plain rfl _) (rn_loadW rfl (he3.op rfl) (hH1.at (i := 0) rfl)) ?_
    intro a4 he4
    clear he3 a3
    have hcall := RCell_any x hx w1
    rw [hg] at hcall
    refine lCx he4 rfl rfl Tryd.func14 (by kernel_rfl) rfl rfl (wanted_plain rfl _) rfl (hcall) ?_
    rintro _ w5 ⟨⟨d, rfl, hd⟩, hn⟩
    refine ⟨_, rfl, ?_⟩
    intro a6 he6
    have hH5 := hH1.call hn
    clear he4 a4 hH1
    clear hn
    refine lV (Value.tuple #[Ce.v d, Value.bool false]) he6 rfl rfl (wanted_plain rfl _) (rn_mv rfl (he6.op rfl) w5) ?_
    intro a7 he7
    clear he6 a6
    refine lV (Ce.v d) he7 rfl rfl (wanted_plain rfl _) (rn_ext rfl (he7.op rfl) rfl w5) ?_
    intro a8 he8
    clear he7 a7
    refine lV (Value.bool false) he8 rfl rfl (wanted_plain rfl _) (rn_ext rfl (he8.op rfl) rfl w5) ?_
    intro a9 he9
    clear he8 a8
    refine lNew (fun p => .pointer (some ⟨p, 0, none⟩)) he9 hH5 rfl rfl (wanted_plain rfl _) (rn_alloc rfl w5) ?_
    intro p10 w10 a11 hn hH10 he11
    clear he9 a9 hH5 hn
    refine lSetV 0 (Ce.cs d) (cs := (Ce.cs d)) he11 hH10 rfl (wanted_plain rfl _) rfl rfl rfl rfl rfl (by kernel_rfl) (by kernel_rfl) (by kernel_rfl) rfl ?_
    intro w12 a13 hH12 he13
    replace hH12 : Hp w [⟨p10, 30, (Ce.cs d)⟩, ⟨p1, 34, (Wd.cs x)⟩] w12 := hH12
    clear he11 a11 hH10
    refine lV (Value.bool false) he13 rfl rfl (wanted_plain rfl _) (rn_asg rfl (he13.op rfl) w12) ?_
    intro a14 he14
    clear he13 a13
    refine wpList_nil ?_
    refine then_ok ?_
    refine wp_seq ?_
    refine wp_seq ?_
    refine wp_region_lit ?_
    refine lV (Value.bool false) he14 rfl rfl (wanted_plain rfl _) (rn_mv rfl (he14.op rfl) w12) ?_
    intro a15 he15
    clear he14 a14
    refine lV (Value.bool true) he15 rfl rfl (wanted_plain rfl _) (rn_not (b := false) rfl (he15.op rfl) w12) ?_
    intro a16 he16
    clear he15 a15
    refine wpList_nil ?_
    refine then_ok ?_
    refine wp_cond_true (he16.op rfl) ?_
    have h1 : (decide (cellO x = zeroCe) && (cellE x == 12)) = true := by simp [cellO, cellE, hg]
    refine wp_seq ?_
    refine wp_region_lit ?_
    refine lV (Wd.v x) he16 rfl rfl (wanted_plain rfl _) (rn_loadW rfl (he16.op rfl) (hH12.at (i := 1) rfl)) ?_
    intro a17 he17
    clear he16 a16
    refine lV (Ce.v zeroCe) he17 rfl rfl (wanted_plain rfl _) (rn_bC0 rfl w12) ?_
    intro a18 he18
    clear he17 a17
    refine lC he18 rfl rfl Tryd.func13 (by kernel_rfl) rfl rfl (wanted_plain rfl _) rfl (cell_b x hx zeroCe 12 true h1 w12 (hT.new hH12.new)) ?_
    intro w19 a20 hn he20
    have hH19 := hH12.call hn
    clear he18 a18 hH12 hn
    refine lV (Value.bool true) he20 rfl rfl (wanted_plain rfl _) (rn_mv rfl (he20.op rfl) w19) ?_
    intro a21 he21
    clear he20 a20
    refine lC he21 rfl rfl Tryd.func11 (by kernel_rfl) rfl rfl (he21.want rfl rfl rfl rfl rfl) rfl (known_any w19 (hT.new hH19.new)) ?_
    intro w22 a23 hn he23
    have hH22 := hH19.call hn
    clear he21 a21 hH19 hn
    refine lV (Value.bool true) he23 rfl rfl (wanted_plain rfl _) (rn_pk rfl (he23.op rfl) (he23.op rfl) w22) ?_
    intro a24 he24
    clear he23 a23
    refine lV (Value.bool true) he24 rfl rfl (wanted_plain rfl _) (rn_asg rfl (he24.op rfl) w22) ?_
    intro a25 he25
    clear he24 a24
    refine wpList_nil ?_
    refine then_ok ?_
    refine wp_ret ?_
    try simp only [Exit.then, Exit.inBlock]
    exact ret_env rfl he25 rfl ⟨rfl, hH22.new.new_below⟩
  | true =>
    refine wp_seq ?_
    refine wp_region_lit ?_
    refine lV (Wd.v x) he3 rfl rfl (wanted_plain rfl _) (rn_loadW rfl (he3.op rfl) (hH1.at (i := 0) rfl)) ?_
    intro a26 he26
    clear he3 a3
    have hcall := RCell_any x hx w1
    rw [hg] at hcall
    refine lCx he26 rfl rfl Tryd.func14 (by kernel_rfl) rfl rfl (wanted_plain rfl _) rfl (hcall) ?_
    rintro _ w27 ⟨⟨d, rfl, hd⟩, hn⟩
    obtain rfl := hd rfl
    refine ⟨_, rfl, ?_⟩
    intro a28 he28
    have hH27 := hH1.call hn
    clear he26 a26 hH1
    clear hn
    refine lV (Value.tuple #[Ce.v (cellI x), Value.bool true]) he28 rfl rfl (wanted_plain rfl _) (rn_mv rfl (he28.op rfl) w27) ?_
    intro a29 he29
    clear he28 a28
    refine lV (Ce.v (cellI x)) he29 rfl rfl (wanted_plain rfl _) (rn_ext rfl (he29.op rfl) rfl w27) ?_
    intro a30 he30
    clear he29 a29
    refine lV (Value.bool true) he30 rfl rfl (wanted_plain rfl _) (rn_ext rfl (he30.op rfl) rfl w27) ?_
    intro a31 he31
    clear he30 a30
    refine lNew (fun p => .pointer (some ⟨p, 0, none⟩)) he31 hH27 rfl rfl (wanted_plain rfl _) (rn_alloc rfl w27) ?_
    intro p32 w32 a33 hn hH32 he33
    clear he31 a31 hH27 hn
    refine lSetV 0 (Ce.cs (cellI x)) (cs := (Ce.cs (cellI x))) he33 hH32 rfl (wanted_plain rfl _) rfl rfl rfl rfl rfl (by kernel_rfl) (by kernel_rfl) (by kernel_rfl) rfl ?_
    intro w34 a35 hH34 he35
    replace hH34 : Hp w [⟨p32, 30, (Ce.cs (cellI x))⟩, ⟨p1, 34, (Wd.cs x)⟩] w34 := hH34
    clear he33 a33 hH32
    refine lV (Value.bool true) he35 rfl rfl (wanted_plain rfl _) (rn_asg rfl (he35.op rfl) w34) ?_
    intro a36 he36
    clear he35 a35
    refine wpList_nil ?_
    refine then_ok ?_
    refine wp_seq ?_
    refine wp_seq ?_
    refine wp_region_lit ?_
    refine lV (Value.bool true) he36 rfl rfl (wanted_plain rfl _) (rn_mv rfl (he36.op rfl) w34) ?_
    intro a37 he37
    clear he36 a36
    refine lV (Value.bool false) he37 rfl rfl (wanted_plain rfl _) (rn_not (b := true) rfl (he37.op rfl) w34) ?_
    intro a38 he38
    clear he37 a37
    refine wpList_nil ?_
    refine then_ok ?_
    refine wp_cond_false (he38.op rfl) ?_
    refine wp_skip ?_
    refine then_ok ?_
    obtain ⟨hv, hq⟩ := good_cell hg
    have h1 : (decide (cellO x = cellI x) && (cellE x == 0)) = true := by simp [cellO, cellE, hg]
    have h2 : (decide (wordsO (cellI x) = x) && (wordsE (cellI x) == 0)) = true := by simp [wordsO, wordsE, hv, hq]
    refine wp_seq ?_
    refine wp_region_lit ?_
    refine lV (Wd.v x) he38 rfl rfl (wanted_plain rfl _) (rn_loadW rfl (he38.op rfl) (hH34.at (i := 1) rfl)) ?_
    intro a39 he39
    clear he38 a38
    refine lV (Ce.v (cellI x)) he39 rfl rfl (wanted_plain rfl _) (rn_load rfl (he39.op rfl) (hH34.at (i := 0) rfl)) ?_
    intro a40 he40
    clear he39 a39
    refine lC he40 rfl rfl Tryd.func13 (by kernel_rfl) rfl rfl (wanted_plain rfl _) rfl (cell_b x hx (cellI x) 0 true h1 w34 (hT.new hH34.new)) ?_
    intro w41 a42 hn he42
    have hH41 := hH34.call hn
    clear he40 a40 hH34 hn
    refine lV (Value.bool true) he42 rfl rfl (wanted_plain rfl _) (rn_mv rfl (he42.op rfl) w41) ?_
    intro a43 he43
    clear he42 a42
    refine lV (Ce.v (cellI x)) he43 rfl rfl (he43.want rfl rfl rfl rfl rfl) (rn_load rfl (he43.op rfl) (hH41.at (i := 0) rfl)) ?_
    intro a44 he44
    clear he43 a43
    refine lV (Wd.v x) he44 rfl rfl (he44.want rfl rfl rfl rfl rfl) (rn_loadW rfl (he44.op rfl) (hH41.at (i := 1) rfl)) ?_
    intro a45 he45
    clear he44 a44
    refine lC he45 rfl rfl Tryd.func10 (by kernel_rfl) rfl rfl (he45.want rfl rfl rfl rfl rfl) rfl (words_b (cellI x) (cellI_p x) x 0 true h2 w41 (hT.new hH41.new)) ?_
    intro w46 a47 hn he47
    have hH46 := hH41.call hn
    clear he45 a45 hH41 hn
    refine lV (Value.bool true) he47 rfl rfl (wanted_plain rfl _) (rn_pk rfl (he47.op rfl) (he47.op rfl) w46) ?_
    intro a48 he48
    clear he47 a47
    refine lV (Value.bool true) he48 rfl rfl (wanted_plain rfl _) (rn_mv rfl (he48.op rfl) w46) ?_
    intro a49 he49
    clear he48 a48
    refine lC he49 rfl rfl Tryd.func11 (by kernel_rfl) rfl rfl (he49.want rfl rfl rfl rfl rfl) rfl (known_any w46 (hT.new hH46.new)) ?_
    intro w50 a51 hn he51
    have hH50 := hH46.call hn
    clear he49 a49 hH46 hn
    refine lV (Value.bool true) he51 rfl rfl (wanted_plain rfl _) (rn_pk rfl (he51.op rfl) (he51.op rfl) w50) ?_
    intro a52 he52
    clear he51 a51
    refine lV (Value.bool true) he52 rfl rfl (wanted_plain rfl _) (rn_asg rfl (he52.op rfl) w50) ?_
    intro a53 he53
    clear he52 a52
    refine wpList_nil ?_
    refine then_ok ?_
    refine wp_ret ?_
    try simp only [Exit.then, Exit.inBlock]
    exact ret_env rfl he53 rfl ⟨rfl, hH50.new.new_below⟩

set_option linter.unusedSimpArgs false in
set_option maxRecDepth 100000 in
set_option maxHeartbeats 1600000 in
theorem packedPacks_walk (l : List Ce) (n b cap : Nat) (A : Option Addr) (w : World) (hr : RdC w b A n l) (hok : ∀ c ∈ l, c.Ok) (hT : Tab w) :
    Calls Tryd.prog 5 #[.slice A n cap] w fun e w' => e = .returned (.bool true) ∧ Below w.heap.size w w' := by
  have hl := hr.1
  have hp : ∀ c ∈ l, c.p.Ok := fun c hc => (hok c hc).p
  refine calls_args (vl := [Value.slice A n cap]) 29 Tryd.func5 rfl Tryd.ntmps5 (by kernel_rfl) (fun a he => ?_)
  have he0 : Env 29 [(0, Value.slice A n cap)] a := he
  clear he
  have hH := Hp.start w
  refine wp_seq ?_
  refine wp_region_lit ?_
  refine lV (Value.bool false) he0 rfl rfl (wanted_plain rfl _) (rn_asg rfl (he0.op rfl) w) ?_
  intro a1 he1
  clear he0 a
  refine wpList_nil ?_
  refine then_ok ?_
  by_cases h60 : 60 < n
  · skip
    refine wp_seq ?_
    refine wp_seq ?_
    refine wp_region_lit ?_
    refine lV (Value.slice A n cap) he1 rfl rfl (wanted_plain rfl _) (rn_mv rfl (he1.op rfl) w) ?_
    intro a2 he2
    clear he1 a1
    refine lV (Value.int .i64 (n : Nat)) he2 rfl rfl (wanted_plain rfl _) (rn_lenC rfl (he2.op rfl) w) ?_
    intro a3 he3
    clear he2 a2
    refine lV (Value.bool true) he3 rfl rfl (wanted_plain rfl _) (rn_gtr rfl (he3.op rfl) (he3.op rfl) (decide_eq_true (by omega)) w) ?_
    intro a4 he4
    clear he3 a3
    refine wpList_nil ?_
    refine then_ok ?_
    refine wp_cond_true (he4.op rfl) ?_
    refine wp_seq ?_
    refine wp_region_lit ?_
    refine lC he4 rfl rfl Tryd.func11 (by kernel_rfl) rfl rfl (wanted_plain rfl _) rfl (known_any w (hT.new hH.new)) ?_
    intro w5 a6 hn he6
    have hH5 := hH.call hn
    clear he4 a4 hH hn
    refine lV (Value.bool true) he6 rfl rfl (wanted_plain rfl _) (rn_asg rfl (he6.op rfl) w5) ?_
    intro a7 he7
    clear he6 a6
    refine wpList_nil ?_
    refine then_ok ?_
    refine wp_ret ?_
    try simp only [Exit.then, Exit.inBlock]
    exact ret_env rfl he7 rfl ⟨rfl, hH5.new.new_below⟩
  · skip
    refine wp_seq ?_
    refine wp_seq ?_
    refine wp_region_lit ?_
    refine lV (Value.slice A n cap) he1 rfl rfl (wanted_plain rfl _) (rn_mv rfl (he1.op rfl) w) ?_
    intro a8 he8
    clear he1 a1
    refine lV (Value.int .i64 (n : Nat)) he8 rfl rfl (wanted_plain rfl _) (rn_lenC rfl (he8.op rfl) w) ?_
    intro a9 he9
    clear he8 a8
    refine lV (Value.bool false) he9 rfl rfl (wanted_plain rfl _) (rn_gtr rfl (he9.op rfl) (he9.op rfl) (decide_eq_false (by omega)) w) ?_
    intro a10 he10
    clear he9 a9
    refine wpList_nil ?_
    refine then_ok ?_
    refine wp_cond_false (he10.op rfl) ?_
    refine wp_skip ?_
    refine then_ok ?_
    refine wp_seq ?_
    refine wp_region_lit ?_
    refine lV (Value.slice A n cap) he10 rfl rfl (wanted_plain rfl _) (rn_mv rfl (he10.op rfl) w) ?_
    intro a11 he11
    clear he10 a10
    refine lAppO (R := rC) (l := []) (World.ownsRow_nil w w.heap.size 30 16) (hr.new hH.new) he11 rfl rfl (wanted_plain rfl _) rfl rfl rfl (by omega) hH.new.size ?_
    intro vo wo a12 hoo hgr _ he12
    clear he11 a11
    have hn : New w wo := Fr.grown (Fr.refl _ _) hgr (fun k h => by cases h)
    have hHo := hH.call hn
    clear hn hgr hH
    rw [Nat.zero_add, List.nil_append] at hoo
    obtain ⟨bo, Ao, co, rfl, -, hro⟩ := own_rdg (R := rC) hoo
    clear hoo
    replace hro := rdc_of hro
    refine lV (Value.slice Ao n co) he12 rfl rfl (wanted_plain rfl _) (rn_asg rfl (he12.op rfl) wo) ?_
    intro a13 he13
    clear he12 a12
    refine wpList_nil ?_
    refine then_ok ?_
    refine wp_seq ?_
    refine wp_region_lit ?_
    refine lV (Value.slice A n cap) he13 rfl rfl (wanted_plain rfl _) (rn_mv rfl (he13.op rfl) wo) ?_
    intro a14 he14
    clear he13 a13
    refine lCx he14 rfl rfl Tryd.func15 (by kernel_rfl) rfl rfl (wanted_plain rfl _) rfl (RPackL_any l n _ _ _ wo (hr.new hHo.new) hp (by omega)) ?_
    rintro _ w15 ⟨⟨Aw, cw, bw, rfl, hw⟩, hn⟩
    refine ⟨_, rfl, ?_⟩
    intro a16 he16
    have hH15 := hHo.call hn
    replace hro := hro.new hn
    clear he14 a14 hHo
    clear hn
    refine lV (Value.tuple #[Value.slice Aw (packO l).length cw, Value.int .i64 (packE l)]) he16 rfl rfl (wanted_plain rfl _) (rn_mv rfl (he16.op rfl) w15) ?_
    intro a17 he17
    clear he16 a16
    refine lV (Value.slice Aw (packO l).length cw) he17 rfl rfl (wanted_plain rfl _) (rn_ext rfl (he17.op rfl) rfl w15) ?_
    intro a18 he18
    clear he17 a17
    refine lV (Value.int .i64 (packE l)) he18 rfl rfl (wanted_plain rfl _) (rn_ext rfl (he18.op rfl) rfl w15) ?_
    intro a19 he19
    clear he18 a18
    refine lV (Value.slice Aw (packO l).length cw) he19 rfl rfl (wanted_plain rfl _) (rn_asg rfl (he19.op rfl) w15) ?_
    intro a20 he20
    clear he19 a19
    refine lV (Value.int .i64 (packE l)) he20 rfl rfl (wanted_plain rfl _) (rn_asg rfl (he20.op rfl) w15) ?_
    intro a21 he21
    clear he20 a20
    refine wpList_nil ?_
    refine then_ok ?_
    have he22 : Env 29 [(5, Value.int .i64 (packE l)), (4, Value.slice Aw (packO l).length cw), (3, Value.slice Ao n co), (0, Value.slice A n cap)] a21 := he21.mem ⟨rfl, rfl, rfl, rfl, trivial⟩
    clear he21
    as_aux_lemma =>
      have h1 : (decide (packO l = packO l) && (packE l == packE l)) = true := by simp
      have h3 : (packO l).length ≤ 60 := by have h4 := pack_le l; have h5 : (packO l).length ≤ (packL l).length := (by unfold packO; split <;> simp); omega
      refine wp_seq ?_
      refine wp_region_lit ?_
      refine lV (Value.slice Ao n co) he22 rfl rfl (wanted_plain rfl _) (rn_mv rfl (he22.op rfl) w15) ?_
      intro a23 he23
      clear he22 a21
      refine lV (Value.int .i64 (packE l)) he23 rfl rfl (wanted_plain rfl _) (rn_mv rfl (he23.op rfl) w15) ?_
      intro a24 he24
      clear he23 a23
      refine lV (Value.slice Aw (packO l).length cw) he24 rfl rfl (wanted_plain rfl _) (rn_mv rfl (he24.op rfl) w15) ?_
      intro a25 he25
      clear he24 a24
      refine lC he25 rfl rfl Tryd.func16 (by kernel_rfl) rfl rfl (wanted_plain rfl _) rfl (packs_b l n _ _ _ (packE l) (packO l) _ _ _ _ true h1 w15 hro hp (by omega) hw (by omega) (hT.new hH15.new)) ?_
      intro w26 a27 hn he27
      have hH26 := hH15.call hn
      replace hro := hro.new hn
      replace hw := hw.new hn
      clear he25 a25 hH15 hn
      refine lV (Value.bool true) he27 rfl rfl (wanted_plain rfl _) (rn_mv rfl (he27.op rfl) w26) ?_
      intro a28 he28
      clear he27 a27
      refine lV (Value.slice Ao n co) he28 rfl rfl (he28.want rfl rfl rfl rfl rfl) (rn_mv rfl (he28.op rfl) w26) ?_
      intro a29 he29
      clear he28 a28
      refine lV (Value.slice A n cap) he29 rfl rfl (he29.want rfl rfl rfl rfl rfl) (rn_mv rfl (he29.op rfl) w26) ?_
      intro a30 he30
      clear he29 a29
      refine lC he30 rfl rfl Tryd.func17 (by kernel_rfl) rfl rfl (he30.want rfl rfl rfl rfl rfl) rfl (SameC_b l l true (by simp) n n _ _ _ _ _ _ w26 hro (hr.new hH26.new) (by omega) (by omega)) ?_
      intro w31 a32 hn he32
      have hH31 := hH26.call hn
      replace hro := hro.new hn
      replace hw := hw.new hn
      clear he30 a30 hH26 hn
      refine lV (Value.bool true) he32 rfl rfl (wanted_plain rfl _) (rn_pk rfl (he32.op rfl) (he32.op rfl) w31) ?_
      intro a33 he33
      clear he32 a32
      refine lV (Value.bool true) he33 rfl rfl (wanted_plain rfl _) (rn_mv rfl (he33.op rfl) w31) ?_
      intro a34 he34
      clear he33 a33
      refine lC he34 rfl rfl Tryd.func11 (by kernel_rfl) rfl rfl (he34.want rfl rfl rfl rfl rfl) rfl (known_any w31 (hT.new hH31.new)) ?_
      intro w35 a36 hn he36
      have hH35 := hH31.call hn
      replace hro := hro.new hn
      replace hw := hw.new hn
      clear he34 a34 hH31 hn
      refine lV (Value.bool true) he36 rfl rfl (wanted_plain rfl _) (rn_pk rfl (he36.op rfl) (he36.op rfl) w35) ?_
      intro a37 he37
      clear he36 a36
      refine lV (Value.bool true) he37 rfl rfl (wanted_plain rfl _) (rn_asg rfl (he37.op rfl) w35) ?_
      intro a38 he38
      clear he37 a37
      refine wpList_nil ?_
      refine then_ok ?_
      refine wp_ret ?_
      try simp only [Exit.then, Exit.inBlock]
      exact ret_env rfl he38 rfl ⟨rfl, hH35.new.new_below⟩

end Go.Proofs.YtaiijndldngnkaaDoor
