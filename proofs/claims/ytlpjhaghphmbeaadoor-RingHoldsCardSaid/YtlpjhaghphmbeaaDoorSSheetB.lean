/-
  Package sheet: New, Push, Set, Drop, Pop, Get, Lines, Copy.
-/
import Derived.Test.YtlpjhaghphmbeaaDoorA11
import Derived.Test.YtlpjhaghphmbeaaDoorSSplit
import Derived.Test.YtlpjhaghphmbeaaDoorA9
namespace Go.Proofs.YtlpjhaghphmbeaaDoor
open Go.RowKit

set_option linter.unusedSimpArgs false in
set_option maxRecDepth 100000 in
set_option maxHeartbeats 1600000 in
theorem new_ok (k : Nat) (h1 : 1 ≤ k) (h2 : k ≤ 1024) (w : World) (hT : Tab w) : Calls Tryd.prog 70 #[.int .i64 k] w fun e w' => ∃ q, e = .returned (.tuple #[.pointer (some ⟨q, 0, none⟩), .int .i64 0]) ∧ Made [shD q [] k 0] w w' := by
  refine calls_args (vl := [.int .i64 k]) 13 Tryd.func70 rfl Tryd.ntmps70 (by kernel_rfl) (fun a he => ?_)
  have he0 : Env 13 [(0, .int .i64 k)] a := he
  clear he
  have hH := Hp.start w
  have hD := Dt.start hT
  refine wp_seq (wp_region_lit ?_)
  refine lW (.pointer none) he0 rfl (rn_asg rfl (he0.op rfl) w) ?_
  intro a1 he1
  clear he0 a
  refine lW (.int .i64 0) he1 rfl (rn_asg rfl (he1.op rfl) w) ?_
  intro a2 he2
  clear he1 a1
  refine wpList_nil (then_ok ?_)
  refine wp_seq ?_
  refine wp_seq (wp_region_lit ?_)
  refine lW (.int .i64 k) he2 rfl (rn_mv rfl (he2.op rfl) w) ?_
  intro a3 he3
  clear he2 a2
  refine lW (.bool false) he3 rfl (rn_lss rfl (he3.op rfl) (he3.op rfl) (decide_eq_false (by omega)) w) ?_
  intro a4 he4
  clear he3 a3
  refine lW (.bool false) he4 rfl (rn_mv rfl (he4.op rfl) w) ?_
  intro a5 he5
  clear he4 a4
  refine lV (.int .i64 k) he5 rfl rfl (he5.want rfl rfl rfl rfl rfl) (rn_mv rfl (he5.op rfl) w) ?_
  intro a6 he6
  clear he5 a5
  refine lV (.bool false) he6 rfl rfl (he6.want rfl rfl rfl rfl rfl) (rn_gtr rfl (he6.op rfl) (he6.op rfl) (decide_eq_false (by omega)) w) ?_
  intro a7 he7
  clear he6 a6
  refine lW (.bool false) he7 rfl (rn_pk0 rfl (he7.op rfl) (he7.op rfl) w) ?_
  intro a8 he8
  clear he7 a7
  refine wpList_nil (then_ok ?_)
  refine wp_cond_false (he8.op rfl) ?_
  refine wp_skip ?_
  refine then_ok ?_
  refine wp_seq (wp_region_lit ?_)
  refine lW (.int .i64 k) he8 rfl (rn_mv rfl (he8.op rfl) w) ?_
  intro a9 he9
  clear he8 a8
  refine lW (.agg #[.slice none 0 0, .int .i64 k, .int .i64 0]) he9 rfl (rn_bS1 rfl (he9.op rfl) w) ?_
  intro a10 he10
  clear he9 a9
  refine lNewP (fun p => .pointer (some ⟨p, 0, none⟩)) he10 hH rfl rfl (wanted_plain rfl _) (rn_boxS rfl (he10.op rfl) w) ?_
  intro p11 w11 a12 hp hn hH11 he12
  replace hD := hD.cons hn hp (hH11.at (i := 0) rfl).lt
  clear he10 a10 hH hn hp
  refine lW (.pointer (some ⟨p11, 0, none⟩)) he12 rfl (rn_asg rfl (he12.op rfl) w11) ?_
  intro a13 he13
  clear he12 a12
  refine lW (.int .i64 0) he13 rfl (rn_asg rfl (he13.op rfl) w11) ?_
  intro a14 he14
  clear he13 a13
  refine wpList_nil (then_ok ?_)
  replace hD := Dt.front (A := []) (B := [rowD (.slice none 0 0) [], elsD [] []]) (D := []) hD (sep_nil _)
  have hsh := sh_shut (L := []) (pl := k) (gn := 0) (A := none) (c := 0) hD (by simp) (hD.wr 0 _ rfl (by simp)) (hH11.at (i := 0) rfl) ⟨h1, h2, by simp, fun l h => by cases h⟩
  refine wp_ret ?_
  try simp only [Exit.then, Exit.inBlock, Exit.noGoto]
  exact ret_tt rfl he14 rfl rfl ⟨_, rfl, hsh⟩
set_option linter.unusedSimpArgs false in
set_option maxRecDepth 100000 in
set_option maxHeartbeats 1600000 in
theorem push_b (F : FP) (p pl gn : Nat) (L : List Ln) (x : Value) (l : List Ce) (s : Bool) (w : World) (hs : (shD p L pl gn).P w F) (hF : ∀ k, F k → 2 ≤ k ∧ k < w.heap.size) (hT : Tab w) (hx : SlC w x l) : Calls Tryd.prog 58 #[.pointer (some ⟨p, 0, none⟩), .agg #[x, .bool s]] w fun e w' => e = .returned (.int .i64 (pushS L pl gn (l, s)).2) ∧ Turned [shD p (pushS L pl gn (l, s)).1 pl gn] F w w' := by
  obtain ⟨A, c, xs, G, hB, hsep, hG, hFp, hGp, hok⟩ := id hs
  have hpl : ((pl : Int) == 0) = false := by have := hok.1; simp; omega
  have hlen := hok.len
  obtain ⟨B, cb, b, e_, hcb, hr⟩ := id hx
  subst e_
  refine calls_args (vl := [.pointer (some ⟨p, 0, none⟩), .agg #[.slice B l.length cb, .bool s]]) 27 Tryd.func58 rfl Tryd.ntmps58 (by kernel_rfl) (fun a he => ?_)
  have he0 : Env 27 [(0, .pointer (some ⟨p, 0, none⟩)), (1, .agg #[.slice B l.length cb, .bool s])] a := he
  clear he
  have hH := Hp.bare1 hB
  have hD := Dt.begin1 hT hsep hG hF hFp hGp
  refine wp_seq (wp_region_lit ?_)
  refine lNewP (fun p => .pointer (some ⟨p, 0, none⟩)) he0 hH rfl rfl (wanted_plain rfl _) (rn_boxL rfl (he0.op rfl) w) ?_
  intro p1 w1 a2 hp hn hH1 he2
  replace hD := hD.cons hn hp (hH1.at (i := 0) rfl).lt
  replace hx := hx.new hn
  replace hs := (shD _ _ _ _).fr hs hn (fun _ _ h => h)
  clear he0 a hH hn hp
  refine lW (.int .i64 0) he2 rfl (rn_asg rfl (he2.op rfl) w1) ?_
  intro a3 he3
  clear he2 a2
  refine wpList_nil (then_ok ?_)
  refine wp_seq ?_
  refine wp_block ?_
  refine wp_seq (wp_region_lit ?_)
  refine lW (.pointer (some ⟨p, 0, none⟩)) he3 rfl (rn_mv rfl (he3.op rfl) w1) ?_
  intro a4 he4
  clear he3 a3
  refine lC he4 rfl rfl Tryd.func63 (by kernel_rfl) rfl rfl (wanted_plain rfl _) rfl (unmade_f _ _ _ _ pl gn w1 (hH1.at (i := 1) rfl) hpl hD.tab) ?_
  intro w5 a6 hn he6
  have hH5 := hH1.call hn
  replace hD := (hD).new hn
  replace hx := hx.new hn
  replace hs := (shD _ _ _ _).fr hs hn (fun _ _ h => h)
  clear he4 a4 hH1 hn
  refine lW (.bool false) he6 rfl (rn_asg rfl (he6.op rfl) w5) ?_
  intro a7 he7
  clear he6 a6
  refine wpList_nil (then_ok ?_)
  refine wp_cond_false (he7.op rfl) ?_
  obtain ⟨v, hv⟩ : ∃ v, okL l = v := ⟨_, rfl⟩
  cases v with
  | false =>
    refine wp_seq (wp_region_lit ?_)
    refine lW (.agg #[.slice B l.length cb, .bool s]) he7 rfl (rn_ldp _ rfl (he7.op rfl) undL rfl infoL2 (hH5.at (i := 0) rfl) rfl) ?_
    intro a8 he8
    clear he7 a7
    refine lC he8 rfl rfl Tryd.func51 (by kernel_rfl) rfl rfl (wanted_plain rfl _) rfl (valid_s _ l s false hv w5 hx hD.tab) ?_
    intro w9 a10 hn he10
    have hH9 := hH5.call hn
    replace hD := (hD).new hn
    replace hx := hx.new hn
    replace hs := (shD _ _ _ _).fr hs hn (fun _ _ h => h)
    clear he8 a8 hH5 hn
    refine lW (.bool true) he10 rfl (rn_not (b := false) rfl (he10.op rfl) w9) ?_
    intro a11 he11
    clear he10 a10
    refine lW (.bool true) he11 rfl (rn_asg rfl (he11.op rfl) w9) ?_
    intro a12 he12
    clear he11 a11
    refine wpList_nil (then_ok ?_)
    refine wp_cond_true (he12.op rfl) ?_
    refine wp_seq (wp_region_lit ?_)
    refine lW (.int .i64 2) he12 rfl (rn_asg rfl (he12.op rfl) w9) ?_
    intro a13 he13
    clear he12 a12
    refine wpList_nil (then_ok ?_)
    have e_ : pushS L pl gn (l, s) = (L, 2) := by simp [pushS, hv]
    rw [e_]
    refine wp_ret ?_
    try simp only [Exit.then, Exit.inBlock, Exit.noGoto]
    exact ret_env rfl he13 rfl ⟨rfl, sh_shut (L := L) (pl := pl) (gn := gn) hD (by simp) (.inl hFp) (hH9.at (i := 1) rfl) hok⟩
  | true =>
    refine wp_seq (wp_region_lit ?_)
    refine lW (.agg #[.slice B l.length cb, .bool s]) he7 rfl (rn_ldp _ rfl (he7.op rfl) undL rfl infoL2 (hH5.at (i := 0) rfl) rfl) ?_
    intro a14 he14
    clear he7 a7
    refine lC he14 rfl rfl Tryd.func51 (by kernel_rfl) rfl rfl (wanted_plain rfl _) rfl (valid_s _ l s true hv w5 hx hD.tab) ?_
    intro w15 a16 hn he16
    have hH15 := hH5.call hn
    replace hD := (hD).new hn
    replace hx := hx.new hn
    replace hs := (shD _ _ _ _).fr hs hn (fun _ _ h => h)
    clear he14 a14 hH5 hn
    refine lW (.bool false) he16 rfl (rn_not (b := true) rfl (he16.op rfl) w15) ?_
    intro a17 he17
    clear he16 a16
    refine lW (.bool false) he17 rfl (rn_asg rfl (he17.op rfl) w15) ?_
    intro a18 he18
    clear he17 a17
    refine wpList_nil (then_ok ?_)
    refine wp_cond_false (he18.op rfl) ?_
    by_cases hroom : pl - gn - L.length = 0
    · skip
      refine wp_seq (wp_region_lit ?_)
      refine lW (.pointer (some ⟨p, 0, none⟩)) he18 rfl (rn_mv rfl (he18.op rfl) w15) ?_
      intro a19 he19
      clear he18 a18
      refine lC he19 rfl rfl Tryd.func69 (by kernel_rfl) rfl rfl (wanted_plain rfl _) rfl (room_b p pl gn L F w15 hs hD.tab) ?_
      intro w20 a21 hn he21
      have hH20 := hH15.call hn
      replace hD := (hD).new hn
      replace hx := hx.new hn
      replace hs := (shD _ _ _ _).fr hs hn (fun _ _ h => h)
      clear he19 a19 hH15 hn
      refine lW (.bool true) he21 rfl (rn_eqI rfl (he21.op rfl) (he21.op rfl) (by simp; omega) w20) ?_
      intro a22 he22
      clear he21 a21
      refine lW (.bool true) he22 rfl (rn_asg rfl (he22.op rfl) w20) ?_
      intro a23 he23
      clear he22 a22
      refine wpList_nil (then_ok ?_)
      refine wp_cond_true (he23.op rfl) ?_
      refine wp_seq (wp_region_lit ?_)
      refine lW (.int .i64 7) he23 rfl (rn_asg rfl (he23.op rfl) w20) ?_
      intro a24 he24
      clear he23 a23
      refine wpList_nil (then_ok ?_)
      have e_ : pushS L pl gn (l, s) = (L, 7) := by simp [pushS, hv, hroom]
      rw [e_]
      refine wp_ret ?_
      try simp only [Exit.then, Exit.inBlock, Exit.noGoto]
      exact ret_env rfl he24 rfl ⟨rfl, sh_shut (L := L) (pl := pl) (gn := gn) hD (by simp) (.inl hFp) (hH20.at (i := 1) rfl) hok⟩
    refine wp_seq (wp_region_lit ?_)
    refine lW (.pointer (some ⟨p, 0, none⟩)) he18 rfl (rn_mv rfl (he18.op rfl) w15) ?_
    intro a25 he25
    clear he18 a18
    refine lC he25 rfl rfl Tryd.func69 (by kernel_rfl) rfl rfl (wanted_plain rfl _) rfl (room_b p pl gn L F w15 hs hD.tab) ?_
    intro w26 a27 hn he27
    have hH26 := hH15.call hn
    replace hD := (hD).new hn
    replace hx := hx.new hn
    replace hs := (shD _ _ _ _).fr hs hn (fun _ _ h => h)
    clear he25 a25 hH15 hn
    refine lW (.bool false) he27 rfl (rn_eqI rfl (he27.op rfl) (he27.op rfl) (by simp; omega) w26) ?_
    intro a28 he28
    clear he27 a27
    refine lW (.bool false) he28 rfl (rn_asg rfl (he28.op rfl) w26) ?_
    intro a29 he29
    clear he28 a28
    refine wpList_nil (then_ok ?_)
    refine wp_cond_false (he29.op rfl) ?_
    have e_ : pushS L pl gn (l, s) = (L ++ [(l, s)], 0) := by simp [pushS, hv, hroom]
    rw [e_]
    have hok2 : ShOk (L ++ [(l, s)]) pl gn := by have := push_ok (l := (l, s)) hok; rw [e_] at this; exact this
    refine wp_skip ?_
    refine block_ok ?_
    refine then_ok ?_
    have he30 : Env 27 [(4, .int .i64 0), (3, .pointer (some ⟨p1, 0, none⟩)), (0, .pointer (some ⟨p, 0, none⟩)), (1, .agg #[.slice B l.length cb, .bool s])] a29 := he29.mem ⟨rfl, rfl, rfl, rfl, trivial⟩
    clear he29
    as_aux_lemma =>
      have hll := okL_len hv
      refine wp_seq ?_
      refine wp_region_split1 (S := Hp (bare w) [⟨p1, 36, #[.slice B l.length cb, .bool s]⟩, ⟨p, 108, #[.slice A L.length c, .int .i64 pl, .int .i64 gn]⟩]) 9 3 (by kernel_rfl) (by kernel_rfl) (by kernel_rfl) ?_
      have hn : New w26 (World.drew w26) := (Fr.refl _ _).drew
      replace hD := (hD).new hn
      replace hx := hx.new hn
      replace hs := (shD _ _ _ _).fr hs hn (fun _ _ h => h)
      clear hn
      have hH31 := hH26.drew
      clear hH26
      generalize World.drew w26 = w31 at *
      refine hW (fuel := 8) (i := 0) (.pointer (some ⟨p, 0, none⟩)) he30 rfl (by kernel_rfl) (fun _ _ _ h => h) (fun w' _ => rn_mv rfl (he30.op rfl) w') hH31 ?_
      intro a32 he32
      clear he30 a29
      refine hW (fuel := 7) (i := 1) (.pointer (some ⟨p, 0, none⟩)) he32 rfl (by kernel_rfl) (fun _ _ _ h => h) (fun w' _ => rn_mv rfl (he32.op rfl) w') hH31 ?_
      intro a33 he33
      clear he32 a32
      refine hW (fuel := 6) (i := 2) (.pointer (some ⟨p, 0, none⟩)) he33 rfl (by kernel_rfl) (fun _ _ _ h => h) (fun w' _ => rn_nilck rfl (he33.op rfl) w') hH31 ?_
      intro a34 he34
      clear he33 a33
      refine hW (fuel := 5) (i := 3) (.pointer (some ⟨p, 0, none⟩)) he34 rfl (by kernel_rfl) (fun _ _ _ h => h) (fun w' _ => rn_faS0 rfl (he34.op rfl) rfl w') hH31 ?_
      intro a35 he35
      clear he34 a34
      refine hW (fuel := 4) (i := 4) (.slice A L.length c) he35 rfl (by kernel_rfl) (fun _ _ _ h => h) (fun w' hw' => rn_ldLs rfl (he35.op rfl) (hw'.at (i := 1) rfl) rfl) hH31 ?_
      intro a36 he36
      clear he35 a35
      refine hW (fuel := 3) (i := 5) (.agg #[.slice B l.length cb, .bool s]) he36 rfl (by kernel_rfl) (fun _ _ _ h => h) (fun w' hw' => rn_ldp _ rfl (he36.op rfl) undL rfl infoL2 (hw'.at (i := 0) rfl) rfl) hH31 ?_
      intro a37 he37
      clear he36 a36
      refine hC (fuel := 2) (i := 6) he37 (by kernel_rfl) rfl rfl rfl Tryd.func65 (by kernel_rfl) rfl rfl (wanted_plain rfl _) rfl (copy_d _ l s (by omega) w31 hx) ?_
      rintro _ w38 ⟨Ac, cc, rfl, ht⟩
      have hD2 := hD.made ht
      have hH38 := hH31.call ht.new
      replace hx := hx.new ht.new
      replace hD := hD2
      clear hD2 ht
      refine ⟨_, rfl, hH38, ?_⟩
      intro a39 he39
      clear he37 a37 hH31
      refine hNewP (fuel := 1) (i := 7) (fun p => .slice (some ⟨p, 0, none⟩) 1 1) he39 hH38 (by kernel_rfl) rfl rfl rfl (wanted_plain rfl _) (rn_bsL1 rfl (he39.op rfl) w38) ?_
      intro p40 w40 a41 hp hn hH40 he41
      replace hD := hD.cons hn hp (hH40.at (i := 0) rfl).lt
      replace hx := hx.new hn
      refine ⟨(hH40.drop1 0 rfl), ?_⟩
      clear he39 a39 hH38 hn hp
      replace hD := hD.pick 1 rfl
      replace hD := hD.pick 2 rfl
      replace hD := hD.pick 1 rfl
      replace hD := hD.pick 2 rfl
      replace hD := hD.pick 2 rfl
      replace hD := hD.pick 2 rfl
      obtain ⟨F_, hsep, hF, hstep⟩ := Dt.step (A := [rowD (.slice A L.length c) xs, elsD xs L, cellsD (.slice Ac l.length cc) l]) (D := []) hD
      refine hEx (fuel := 0) (i := 8) he41 (by kernel_rfl) rfl rfl rfl (wanted_plain rfl _) (app_d (u := ⟨Ac, l.length, cc, s⟩) (l := (l, s)) hsep hF rfl (rdg_blk (R := rL) (l := [⟨Ac, l.length, cc, s⟩]) (hH40.at (i := 0) rfl) rfl rfl) (by omega) rfl (he41.op rfl) (he41.op rfl)) ?_
      rintro _ w42 ⟨A2, c2, rfl, ht⟩
      obtain ⟨hD2, hHs⟩ := hstep _ _ ht
      have hH42 := hHs _ rfl hH40
      clear hHs hstep hsep hF
      replace hD := hD2
      clear hD2 ht
      refine ⟨(hH42.drop1 0 rfl), ?_⟩
      intro a43 he43
      clear he41 a41 hH40
      refine wpAnyH_done (by kernel_rfl) ?_ _
      refine head_done ?_
      refine hW (fuel := 2) (i := 9) (.pointer (some ⟨p, 0, none⟩)) he43 rfl (by kernel_rfl) (fun _ _ _ h => h) (fun w' _ => rn_nilck rfl (he43.op rfl) w') trivial ?_
      intro a44 he44
      clear he43 a43
      refine hW (fuel := 1) (i := 10) (.pointer (some ⟨p, 0, none⟩)) he44 rfl (by kernel_rfl) (fun _ _ _ h => h) (fun w' _ => rn_faS0 rfl (he44.op rfl) rfl w') trivial ?_
      intro a45 he45
      clear he44 a44
      refine hSetV (fuel := 0) (n := 11) 2 #[.slice A2 (L ++ [(l, s)]).length c2] (cs := #[.slice A2 (L ++ [(l, s)]).length c2, .int .i64 pl, .int .i64 gn]) he45 hH42 (by kernel_rfl) rfl rfl (wanted_plain rfl _) rfl rfl rfl rfl rfl (by kernel_rfl) (by kernel_rfl) (by kernel_rfl) rfl ?_
      intro w46 a47 hH46 hf he47
      replace hD := hD.setb (i := 2) rfl rfl hf
      replace hH46 : Hp (bare w) [⟨p40, 36, #[.slice Ac l.length cc, .bool s]⟩, ⟨p1, 36, #[.slice B l.length cb, .bool s]⟩, ⟨p, 108, #[.slice A2 (L ++ [(l, s)]).length c2, .int .i64 pl, .int .i64 gn]⟩] w46 := hH46
      refine ⟨trivial, ?_⟩
      clear hf
      clear he45 a45 hH42
      refine wpAnyH_done (by kernel_rfl) ?_ _
      refine then_ok ?_
      refine wp_seq (wp_region_lit ?_)
      refine lW (.int .i64 0) he47 rfl (rn_asg rfl (he47.op rfl) w46) ?_
      intro a48 he48
      clear he47 a47
      refine wpList_nil (then_ok ?_)
      refine wp_ret ?_
      try simp only [Exit.then, Exit.inBlock, Exit.noGoto]
      exact ret_env rfl he48 rfl ⟨rfl, sh_shut (L := L ++ [(l, s)]) (pl := pl) (gn := gn) hD (by simp) (.inl hFp) (hH46.at (i := 2) rfl) hok2⟩
set_option linter.unusedSimpArgs false in
set_option maxRecDepth 100000 in
set_option maxHeartbeats 1600000 in
theorem set_b (F : FP) (p pl gn : Nat) (L : List Ln) (i : Int) (x : Value) (l : List Ce) (s : Bool) (w : World) (hs : (shD p L pl gn).P w F) (hF : ∀ k, F k → 2 ≤ k ∧ k < w.heap.size) (hT : Tab w) (hx : SlC w x l) : Calls Tryd.prog 53 #[.pointer (some ⟨p, 0, none⟩), .int .i64 i, .agg #[x, .bool s]] w fun e w' => e = .returned (.int .i64 (setS L i (l, s)).2) ∧ Turned [shD p (setS L i (l, s)).1 pl gn] F w w' := by
  obtain ⟨A, c, xs, G, hB, hsep, hG, hFp, hGp, hok⟩ := id hs
  have hpl : ((pl : Int) == 0) = false := by have := hok.1; simp; omega
  have hlen := hok.len
  obtain ⟨B, cb, b, e_, hcb, hr⟩ := id hx
  subst e_
  refine calls_args (vl := [.pointer (some ⟨p, 0, none⟩), .int .i64 i, .agg #[.slice B l.length cb, .bool s]]) 27 Tryd.func53 rfl Tryd.ntmps53 (by kernel_rfl) (fun a he => ?_)
  have he0 : Env 27 [(0, .pointer (some ⟨p, 0, none⟩)), (1, .int .i64 i), (2, .agg #[.slice B l.length cb, .bool s])] a := he
  clear he
  have hH := Hp.bare1 hB
  have hD := Dt.begin1 hT hsep hG hF hFp hGp
  refine wp_seq (wp_region_lit ?_)
  refine lNewP (fun p => .pointer (some ⟨p, 0, none⟩)) he0 hH rfl rfl (wanted_plain rfl _) (rn_boxL rfl (he0.op rfl) w) ?_
  intro p1 w1 a2 hp hn hH1 he2
  replace hD := hD.cons hn hp (hH1.at (i := 0) rfl).lt
  replace hx := hx.new hn
  clear he0 a hH hn hp
  refine lW (.int .i64 0) he2 rfl (rn_asg rfl (he2.op rfl) w1) ?_
  intro a3 he3
  clear he2 a2
  refine wpList_nil (then_ok ?_)
  refine wp_seq ?_
  refine wp_block ?_
  refine wp_seq (wp_region_lit ?_)
  refine lW (.pointer (some ⟨p, 0, none⟩)) he3 rfl (rn_mv rfl (he3.op rfl) w1) ?_
  intro a4 he4
  clear he3 a3
  refine lC he4 rfl rfl Tryd.func63 (by kernel_rfl) rfl rfl (wanted_plain rfl _) rfl (unmade_f _ _ _ _ pl gn w1 (hH1.at (i := 1) rfl) hpl hD.tab) ?_
  intro w5 a6 hn he6
  have hH5 := hH1.call hn
  replace hD := (hD).new hn
  replace hx := hx.new hn
  clear he4 a4 hH1 hn
  refine lW (.bool false) he6 rfl (rn_asg rfl (he6.op rfl) w5) ?_
  intro a7 he7
  clear he6 a6
  refine wpList_nil (then_ok ?_)
  refine wp_cond_false (he7.op rfl) ?_
  obtain ⟨v, hv⟩ : ∃ v, okL l = v := ⟨_, rfl⟩
  cases v with
  | false =>
    refine wp_seq (wp_region_lit ?_)
    refine lW (.agg #[.slice B l.length cb, .bool s]) he7 rfl (rn_ldp _ rfl (he7.op rfl) undL rfl infoL2 (hH5.at (i := 0) rfl) rfl) ?_
    intro a8 he8
    clear he7 a7
    refine lC he8 rfl rfl Tryd.func51 (by kernel_rfl) rfl rfl (wanted_plain rfl _) rfl (valid_s _ l s false hv w5 hx hD.tab) ?_
    intro w9 a10 hn he10
    have hH9 := hH5.call hn
    replace hD := (hD).new hn
    replace hx := hx.new hn
    clear he8 a8 hH5 hn
    refine lW (.bool true) he10 rfl (rn_not (b := false) rfl (he10.op rfl) w9) ?_
    intro a11 he11
    clear he10 a10
    refine lW (.bool true) he11 rfl (rn_asg rfl (he11.op rfl) w9) ?_
    intro a12 he12
    clear he11 a11
    refine wpList_nil (then_ok ?_)
    refine wp_cond_true (he12.op rfl) ?_
    refine wp_seq (wp_region_lit ?_)
    refine lW (.int .i64 2) he12 rfl (rn_asg rfl (he12.op rfl) w9) ?_
    intro a13 he13
    clear he12 a12
    refine wpList_nil (then_ok ?_)
    have e_ : setS L i (l, s) = (L, 2) := by simp [setS, hv]
    rw [e_]
    refine wp_ret ?_
    try simp only [Exit.then, Exit.inBlock, Exit.noGoto]
    exact ret_env rfl he13 rfl ⟨rfl, sh_shut (L := L) (pl := pl) (gn := gn) hD (by simp) (.inl hFp) (hH9.at (i := 1) rfl) hok⟩
  | true =>
    refine wp_seq (wp_region_lit ?_)
    refine lW (.agg #[.slice B l.length cb, .bool s]) he7 rfl (rn_ldp _ rfl (he7.op rfl) undL rfl infoL2 (hH5.at (i := 0) rfl) rfl) ?_
    intro a14 he14
    clear he7 a7
    refine lC he14 rfl rfl Tryd.func51 (by kernel_rfl) rfl rfl (wanted_plain rfl _) rfl (valid_s _ l s true hv w5 hx hD.tab) ?_
    intro w15 a16 hn he16
    have hH15 := hH5.call hn
    replace hD := (hD).new hn
    replace hx := hx.new hn
    clear he14 a14 hH5 hn
    refine lW (.bool false) he16 rfl (rn_not (b := true) rfl (he16.op rfl) w15) ?_
    intro a17 he17
    clear he16 a16
    refine lW (.bool false) he17 rfl (rn_asg rfl (he17.op rfl) w15) ?_
    intro a18 he18
    clear he17 a17
    refine wpList_nil (then_ok ?_)
    refine wp_cond_false (he18.op rfl) ?_
    by_cases hi : 0 ≤ i ∧ i < L.length
    · skip
      have hz : (decide (0 ≤ i) && decide (i < (L.length : Nat))) = true := by simp [hi.1, hi.2]
      refine wp_seq (wp_region_lit ?_)
      refine lW (.pointer (some ⟨p, 0, none⟩)) he18 rfl (rn_mv rfl (he18.op rfl) w15) ?_
      intro a19 he19
      clear he18 a18
      refine lW (.int .i64 i) he19 rfl (rn_mv rfl (he19.op rfl) w15) ?_
      intro a20 he20
      clear he19 a19
      refine lC he20 rfl rfl Tryd.func64 (by kernel_rfl) rfl rfl (wanted_plain rfl _) rfl (has_b _ _ _ _ pl gn w15 (hH15.at (i := 1) rfl) i true hz hD.tab) ?_
      intro w21 a22 hn he22
      have hH21 := hH15.call hn
      replace hD := (hD).new hn
      replace hx := hx.new hn
      clear he20 a20 hH15 hn
      refine lW (.bool false) he22 rfl (rn_not (b := true) rfl (he22.op rfl) w21) ?_
      intro a23 he23
      clear he22 a22
      refine lW (.bool false) he23 rfl (rn_asg rfl (he23.op rfl) w21) ?_
      intro a24 he24
      clear he23 a23
      refine wpList_nil (then_ok ?_)
      refine wp_cond_false (he24.op rfl) ?_
      obtain ⟨k, rfl⟩ : ∃ k : Nat, i = k := ⟨i.toNat, by omega⟩
      have hk : k < L.length := by omega
      have e_ : setS L k (l, s) = (L.set k (l, s), 0) := by unfold setS; rw [if_pos hv, if_pos hi]; simp
      rw [e_]
      have hok2 : ShOk (L.set k (l, s)) pl gn := by have := set_ok (i := k) (l := (l, s)) hok; rw [e_] at this; exact this
      refine wp_skip ?_
      refine block_ok ?_
      refine then_ok ?_
      have he25 : Env 27 [(6, .int .i64 0), (5, .pointer (some ⟨p1, 0, none⟩)), (0, .pointer (some ⟨p, 0, none⟩)), (1, .int .i64 k)] a24 := he24.mem ⟨rfl, rfl, rfl, rfl, trivial⟩
      clear he24
      as_aux_lemma =>
        have hll := okL_len hv
        obtain ⟨Fr_, hrow⟩ := hD.get (i := 0) rfl
        obtain ⟨gb, off, cur, e3, -⟩ := OwnO.at_ (R := rL) (show OwnO rL _ _ _ _ from hrow) (k := k) (by omega)
        subst e3
        clear hrow cur
        refine wp_seq ?_
        refine wp_region_held_drew (S := Hp (bare w) [⟨p1, 36, #[.slice B l.length cb, .bool s]⟩, ⟨p, 108, #[.slice (some ⟨gb, off, none⟩) L.length c, .int .i64 pl, .int .i64 gn]⟩]) (by kernel_rfl) (hH21.drew) (fun _ => ?_)
        have hn : New w21 (World.drew w21) := (Fr.refl _ _).drew
        replace hD := (hD).new hn
        replace hx := hx.new hn
        clear hn
        have hH26 := hH21.drew
        clear hH21
        generalize World.drew w21 = w26 at *
        refine hW (fuel := 8) (i := 0) (.pointer (some ⟨p, 0, none⟩)) he25 rfl (by kernel_rfl) (fun _ _ _ h => h) (fun w' _ => rn_mv rfl (he25.op rfl) w') hH26 ?_
        intro a27 he27
        clear he25 a24
        refine hW (fuel := 7) (i := 1) (.pointer (some ⟨p, 0, none⟩)) he27 rfl (by kernel_rfl) (fun _ _ _ h => h) (fun w' _ => rn_nilck rfl (he27.op rfl) w') hH26 ?_
        intro a28 he28
        clear he27 a27
        refine hW (fuel := 6) (i := 2) (.pointer (some ⟨p, 0, none⟩)) he28 rfl (by kernel_rfl) (fun _ _ _ h => h) (fun w' _ => rn_faS0 rfl (he28.op rfl) rfl w') hH26 ?_
        intro a29 he29
        clear he28 a28
        refine hW (fuel := 5) (i := 3) (.slice (some ⟨gb, off, none⟩) L.length c) he29 rfl (by kernel_rfl) (fun _ _ _ h => h) (fun w' hw' => rn_ldLs rfl (he29.op rfl) (hw'.at (i := 1) rfl) rfl) hH26 ?_
        intro a30 he30
        clear he29 a29
        refine hW (fuel := 4) (i := 4) (.int .i64 k) he30 rfl (by kernel_rfl) (fun _ _ _ h => h) (fun w' _ => rn_mv rfl (he30.op rfl) w') hH26 ?_
        intro a31 he31
        clear he30 a30
        refine hW (fuel := 3) (i := 5) (.agg #[.slice B l.length cb, .bool s]) he31 rfl (by kernel_rfl) (fun _ _ _ h => h) (fun w' hw' => rn_ldp _ rfl (he31.op rfl) undL rfl infoL2 (hw'.at (i := 0) rfl) rfl) hH26 ?_
        intro a32 he32
        clear he31 a31
        refine hC (fuel := 2) (i := 6) he32 (by kernel_rfl) rfl rfl rfl Tryd.func65 (by kernel_rfl) rfl rfl (wanted_plain rfl _) rfl (copy_d _ l s (by omega) w26 hx) ?_
        rintro _ w33 ⟨Ac, cc, rfl, ht⟩
        have hD2 := hD.made ht
        have hH33 := hH26.call ht.new
        replace hx := hx.new ht.new
        replace hD := hD2
        clear hD2 ht
        refine ⟨_, rfl, hH33, ?_⟩
        intro a34 he34
        clear he32 a32 hH26
        refine hW (fuel := 1) (i := 7) (.pointer (some ⟨gb, off + k * 2, none⟩)) he34 rfl (by kernel_rfl) (fun _ _ _ h => h) (fun w' _ => rn_idxL (i := k) rfl (he34.op rfl) (he34.op rfl) (by omega) (by rw [addr_add]) w') hH33 ?_
        intro a35 he35
        clear he34 a34
        replace hD := hD.pick 1 rfl
        replace hD := hD.pick 2 rfl
        replace hD := hD.pick 1 rfl
        replace hD := hD.pick 2 rfl
        replace hD := hD.pick 2 rfl
        replace hD := hD.pick 2 rfl
        obtain ⟨F_, hsep, hF, hstep⟩ := Dt.step (A := [rowD (.slice (some ⟨gb, off, none⟩) L.length c) xs, elsD xs L, cellsD (.slice Ac l.length cc) l]) (D := []) hD
        refine hRow (fuel := 0) (j := 8) (u := ⟨Ac, l.length, cc, s⟩) (l := (l, s)) (i := k) hsep hF rfl (by omega) he35 (by kernel_rfl) rfl rfl (wanted_plain rfl _) rfl rfl rfl ?_
        intro w36 a37 ht he37
        obtain ⟨hD2, hHs⟩ := hstep _ _ ht
        have hH36 := hHs _ rfl hH33
        clear hHs hstep hsep hF hD ht
        have hD := hD2
        clear hD2
        refine ⟨hH36, ?_⟩
        clear he35 a35 hH33
        refine wpAnyH_done (by kernel_rfl) ?_ _
        refine then_ok ?_
        refine wp_seq (wp_region_lit ?_)
        refine lW (.int .i64 0) he37 rfl (rn_asg rfl (he37.op rfl) w36) ?_
        intro a38 he38
        clear he37 a37
        refine wpList_nil (then_ok ?_)
        have e4 : L.length = (L.set k (l, s)).length := by simp
        have hDe : Dt _ _ F 0 _ [rowD (.slice (some ⟨gb, off, none⟩) (L.set k (l, s)).length c) (xs.set k ⟨Ac, l.length, cc, s⟩), elsD (xs.set k ⟨Ac, l.length, cc, s⟩) (L.set k (l, s))] _ := e4 ▸ hD
        have hBe := hH36.at (i := 1) rfl
        simp only at hBe
        rw [e4] at hBe
        refine wp_ret ?_
        try simp only [Exit.then, Exit.inBlock, Exit.noGoto]
        exact ret_env rfl he38 rfl ⟨rfl, sh_shut hDe (by simp) (.inl hFp) hBe hok2⟩
    have hz : (decide (0 ≤ i) && decide (i < (L.length : Nat))) = false := by rw [← Bool.decide_and]; exact decide_eq_false hi
    refine wp_seq (wp_region_lit ?_)
    refine lW (.pointer (some ⟨p, 0, none⟩)) he18 rfl (rn_mv rfl (he18.op rfl) w15) ?_
    intro a39 he39
    clear he18 a18
    refine lW (.int .i64 i) he39 rfl (rn_mv rfl (he39.op rfl) w15) ?_
    intro a40 he40
    clear he39 a39
    refine lC he40 rfl rfl Tryd.func64 (by kernel_rfl) rfl rfl (wanted_plain rfl _) rfl (has_b _ _ _ _ pl gn w15 (hH15.at (i := 1) rfl) i false hz hD.tab) ?_
    intro w41 a42 hn he42
    have hH41 := hH15.call hn
    replace hD := (hD).new hn
    replace hx := hx.new hn
    clear he40 a40 hH15 hn
    refine lW (.bool true) he42 rfl (rn_not (b := false) rfl (he42.op rfl) w41) ?_
    intro a43 he43
    clear he42 a42
    refine lW (.bool true) he43 rfl (rn_asg rfl (he43.op rfl) w41) ?_
    intro a44 he44
    clear he43 a43
    refine wpList_nil (then_ok ?_)
    refine wp_cond_true (he44.op rfl) ?_
    refine wp_seq (wp_region_lit ?_)
    refine lW (.int .i64 3) he44 rfl (rn_asg rfl (he44.op rfl) w41) ?_
    intro a45 he45
    clear he44 a44
    refine wpList_nil (then_ok ?_)
    have e_ : setS L i (l, s) = (L, 3) := by unfold setS; rw [if_pos hv, if_neg hi]
    rw [e_]
    refine wp_ret ?_
    try simp only [Exit.then, Exit.inBlock, Exit.noGoto]
    exact ret_env rfl he45 rfl ⟨rfl, sh_shut (L := L) (pl := pl) (gn := gn) hD (by simp) (.inl hFp) (hH41.at (i := 1) rfl) hok⟩
set_option linter.unusedSimpArgs false in
set_option maxRecDepth 100000 in
set_option maxHeartbeats 1600000 in
theorem drop_b (F : FP) (p pl gn : Nat) (L : List Ln) (i : Int) (w : World) (hs : (shD p L pl gn).P w F) (hF : ∀ k, F k → 2 ≤ k ∧ k < w.heap.size) (hT : Tab w) : Calls Tryd.prog 67 #[.pointer (some ⟨p, 0, none⟩), .int .i64 i] w fun e w' => e = .returned (.int .i64 (dropS L gn i).2.2) ∧ Turned [shD p (dropS L gn i).1 pl (dropS L gn i).2.1] F w w' := by
  obtain ⟨A, c, xs, G, hB, hsep, hG, hFp, hGp, hok⟩ := id hs
  have hpl : ((pl : Int) == 0) = false := by have := hok.1; simp; omega
  have hlen := hok.len
  refine calls_args (vl := [.pointer (some ⟨p, 0, none⟩), .int .i64 i]) 43 Tryd.func67 rfl Tryd.ntmps67 (by kernel_rfl) (fun a he => ?_)
  have he0 : Env 43 [(0, .pointer (some ⟨p, 0, none⟩)), (1, .int .i64 i)] a := he
  clear he
  have hH := Hp.bare1 hB
  have hD := Dt.begin1 hT hsep hG hF hFp hGp
  refine wp_seq (wp_region_lit ?_)
  refine lW (.int .i64 0) he0 rfl (rn_asg rfl (he0.op rfl) w) ?_
  intro a1 he1
  clear he0 a
  refine wpList_nil (then_ok ?_)
  refine wp_seq ?_
  refine wp_block ?_
  refine wp_seq (wp_region_lit ?_)
  refine lW (.pointer (some ⟨p, 0, none⟩)) he1 rfl (rn_mv rfl (he1.op rfl) w) ?_
  intro a2 he2
  clear he1 a1
  refine lC he2 rfl rfl Tryd.func63 (by kernel_rfl) rfl rfl (wanted_plain rfl _) rfl (unmade_f _ _ _ _ pl gn w (hH.at (i := 0) rfl) hpl hD.tab) ?_
  intro w3 a4 hn he4
  have hH3 := hH.call hn
  replace hD := (hD).new hn
  clear he2 a2 hH hn
  refine lW (.bool false) he4 rfl (rn_asg rfl (he4.op rfl) w3) ?_
  intro a5 he5
  clear he4 a4
  refine wpList_nil (then_ok ?_)
  refine wp_cond_false (he5.op rfl) ?_
  by_cases h0 : i < 0
  · skip
    refine wp_seq (wp_region_lit ?_)
    refine lW (.int .i64 i) he5 rfl (rn_mv rfl (he5.op rfl) w3) ?_
    intro a6 he6
    clear he5 a5
    refine lW (.bool true) he6 rfl (rn_lss rfl (he6.op rfl) (he6.op rfl) (decide_eq_true h0) w3) ?_
    intro a7 he7
    clear he6 a6
    refine lW (.bool true) he7 rfl (rn_mv rfl (he7.op rfl) w3) ?_
    intro a8 he8
    clear he7 a7
    refine lSkip he8 rfl rfl (he8.wantNot rfl rfl rfl rfl rfl rfl) ?_
    intro a9 he9
    clear he8 a8
    refine lSkip he9 rfl rfl (he9.wantNot rfl rfl rfl rfl rfl rfl) ?_
    intro a10 he10
    clear he9 a9
    refine lSkip he10 rfl rfl (he10.wantNot rfl rfl rfl rfl rfl rfl) ?_
    intro a11 he11
    clear he10 a10
    refine lSkip he11 rfl rfl (he11.wantNot rfl rfl rfl rfl rfl rfl) ?_
    intro a12 he12
    clear he11 a11
    refine lSkip he12 rfl rfl (he12.wantNot rfl rfl rfl rfl rfl rfl) ?_
    intro a13 he13
    clear he12 a12
    refine lSkip he13 rfl rfl (he13.wantNot rfl rfl rfl rfl rfl rfl) ?_
    intro a14 he14
    clear he13 a13
    refine lSkip he14 rfl rfl (he14.wantNot rfl rfl rfl rfl rfl rfl) ?_
    intro a15 he15
    clear he14 a14
    refine lW (.bool true) he15 rfl (rn_pk rfl (he15.op rfl) (he15.op rfl) w3) ?_
    intro a16 he16
    clear he15 a15
    refine lW (.bool true) he16 rfl (rn_asg rfl (he16.op rfl) w3) ?_
    intro a17 he17
    clear he16 a16
    refine wpList_nil (then_ok ?_)
    refine wp_cond_true (he17.op rfl) ?_
    refine wp_seq (wp_region_lit ?_)
    refine lW (.int .i64 3) he17 rfl (rn_asg rfl (he17.op rfl) w3) ?_
    intro a18 he18
    clear he17 a17
    refine wpList_nil (then_ok ?_)
    have e_ : dropS L gn i = (L, gn, 3) := by unfold dropS; rw [if_neg (by omega)]
    rw [e_]
    refine wp_ret ?_
    try simp only [Exit.then, Exit.inBlock, Exit.noGoto]
    exact ret_env rfl he18 rfl ⟨rfl, sh_shut (L := L) (pl := pl) (gn := gn) hD (by simp) (.inl hFp) (hH3.at (i := 0) rfl) hok⟩
  by_cases h1 : (L.length : Nat) < i
  · skip
    refine wp_seq (wp_region_lit ?_)
    refine lW (.int .i64 i) he5 rfl (rn_mv rfl (he5.op rfl) w3) ?_
    intro a19 he19
    clear he5 a5
    refine lW (.bool false) he19 rfl (rn_lss rfl (he19.op rfl) (he19.op rfl) (decide_eq_false h0) w3) ?_
    intro a20 he20
    clear he19 a19
    refine lW (.bool false) he20 rfl (rn_mv rfl (he20.op rfl) w3) ?_
    intro a21 he21
    clear he20 a20
    refine lV (.int .i64 i) he21 rfl rfl (he21.want rfl rfl rfl rfl rfl) (rn_mv rfl (he21.op rfl) w3) ?_
    intro a22 he22
    clear he21 a21
    refine lV (.pointer (some ⟨p, 0, none⟩)) he22 rfl rfl (he22.want rfl rfl rfl rfl rfl) (rn_mv rfl (he22.op rfl) w3) ?_
    intro a23 he23
    clear he22 a22
    refine lV (.pointer (some ⟨p, 0, none⟩)) he23 rfl rfl (he23.want rfl rfl rfl rfl rfl) (rn_nilck rfl (he23.op rfl) w3) ?_
    intro a24 he24
    clear he23 a23
    refine lV (.pointer (some ⟨p, 0, none⟩)) he24 rfl rfl (he24.want rfl rfl rfl rfl rfl) (rn_faS0 rfl (he24.op rfl) rfl w3) ?_
    intro a25 he25
    clear he24 a24
    refine lV (.slice A L.length c) he25 rfl rfl (he25.want rfl rfl rfl rfl rfl) (rn_ldLs rfl (he25.op rfl) (hH3.at (i := 0) rfl) rfl) ?_
    intro a26 he26
    clear he25 a25
    refine lV (.int .i64 L.length) he26 rfl rfl (he26.want rfl rfl rfl rfl rfl) (rn_lenL rfl (he26.op rfl) w3) ?_
    intro a27 he27
    clear he26 a26
    refine lV (.bool true) he27 rfl rfl (he27.want rfl rfl rfl rfl rfl) (rn_gtr rfl (he27.op rfl) (he27.op rfl) (decide_eq_true h1) w3) ?_
    intro a28 he28
    clear he27 a27
    refine lW (.bool true) he28 rfl (rn_pk0 rfl (he28.op rfl) (he28.op rfl) w3) ?_
    intro a29 he29
    clear he28 a28
    refine lW (.bool true) he29 rfl (rn_asg rfl (he29.op rfl) w3) ?_
    intro a30 he30
    clear he29 a29
    refine wpList_nil (then_ok ?_)
    refine wp_cond_true (he30.op rfl) ?_
    refine wp_seq (wp_region_lit ?_)
    refine lW (.int .i64 3) he30 rfl (rn_asg rfl (he30.op rfl) w3) ?_
    intro a31 he31
    clear he30 a30
    refine wpList_nil (then_ok ?_)
    have e_ : dropS L gn i = (L, gn, 3) := by unfold dropS; rw [if_neg (by omega)]
    rw [e_]
    refine wp_ret ?_
    try simp only [Exit.then, Exit.inBlock, Exit.noGoto]
    exact ret_env rfl he31 rfl ⟨rfl, sh_shut (L := L) (pl := pl) (gn := gn) hD (by simp) (.inl hFp) (hH3.at (i := 0) rfl) hok⟩
  refine wp_seq (wp_region_lit ?_)
  refine lW (.int .i64 i) he5 rfl (rn_mv rfl (he5.op rfl) w3) ?_
  intro a32 he32
  clear he5 a5
  refine lW (.bool false) he32 rfl (rn_lss rfl (he32.op rfl) (he32.op rfl) (decide_eq_false h0) w3) ?_
  intro a33 he33
  clear he32 a32
  refine lW (.bool false) he33 rfl (rn_mv rfl (he33.op rfl) w3) ?_
  intro a34 he34
  clear he33 a33
  refine lV (.int .i64 i) he34 rfl rfl (he34.want rfl rfl rfl rfl rfl) (rn_mv rfl (he34.op rfl) w3) ?_
  intro a35 he35
  clear he34 a34
  refine lV (.pointer (some ⟨p, 0, none⟩)) he35 rfl rfl (he35.want rfl rfl rfl rfl rfl) (rn_mv rfl (he35.op rfl) w3) ?_
  intro a36 he36
  clear he35 a35
  refine lV (.pointer (some ⟨p, 0, none⟩)) he36 rfl rfl (he36.want rfl rfl rfl rfl rfl) (rn_nilck rfl (he36.op rfl) w3) ?_
  intro a37 he37
  clear he36 a36
  refine lV (.pointer (some ⟨p, 0, none⟩)) he37 rfl rfl (he37.want rfl rfl rfl rfl rfl) (rn_faS0 rfl (he37.op rfl) rfl w3) ?_
  intro a38 he38
  clear he37 a37
  refine lV (.slice A L.length c) he38 rfl rfl (he38.want rfl rfl rfl rfl rfl) (rn_ldLs rfl (he38.op rfl) (hH3.at (i := 0) rfl) rfl) ?_
  intro a39 he39
  clear he38 a38
  refine lV (.int .i64 L.length) he39 rfl rfl (he39.want rfl rfl rfl rfl rfl) (rn_lenL rfl (he39.op rfl) w3) ?_
  intro a40 he40
  clear he39 a39
  refine lV (.bool false) he40 rfl rfl (he40.want rfl rfl rfl rfl rfl) (rn_gtr rfl (he40.op rfl) (he40.op rfl) (decide_eq_false h1) w3) ?_
  intro a41 he41
  clear he40 a40
  refine lW (.bool false) he41 rfl (rn_pk0 rfl (he41.op rfl) (he41.op rfl) w3) ?_
  intro a42 he42
  clear he41 a41
  refine lW (.bool false) he42 rfl (rn_asg rfl (he42.op rfl) w3) ?_
  intro a43 he43
  clear he42 a42
  refine wpList_nil (then_ok ?_)
  refine wp_cond_false (he43.op rfl) ?_
  obtain ⟨k, rfl⟩ : ∃ k : Nat, i = k := ⟨i.toNat, by omega⟩
  have hk : k ≤ L.length := by omega
  have e_ : dropS L gn k = (L.drop k, gn + k, 0) := by unfold dropS; rw [if_pos (by omega)]; simp
  rw [e_]
  have hok2 : ShOk (L.drop k) pl (gn + k) := by have := drop_ok (n := k) hok; rw [e_] at this; exact this
  refine wp_skip ?_
  refine block_ok ?_
  refine then_ok ?_
  have he44 : Env 43 [(0, .pointer (some ⟨p, 0, none⟩)), (1, .int .i64 k)] a43 := he43.mem ⟨rfl, rfl, trivial⟩
  clear he43
  as_aux_lemma =>
    have hlc : L.length ≤ c := by obtain ⟨_, hr⟩ := hD.get (i := 0) rfl; obtain ⟨_, _, _, h, _⟩ := (show OwnO rL _ _ _ _ from hr).rdg; exact h
    obtain ⟨A2, e2, -⟩ := OwnO.cuth (R := rL) (show OwnO rL _ _ _ _ from (hD.get (i := 0) rfl).choose_spec) hk
    obtain ⟨A3, e3, -⟩ := OwnO.cutl (R := rL) (show OwnO rL _ _ _ _ from (hD.get (i := 0) rfl).choose_spec) hk
    refine wp_seq (wp_region_lit ?_)
    refine lW (.pointer (some ⟨p, 0, none⟩)) he44 rfl (rn_mv rfl (he44.op rfl) w3) ?_
    intro a45 he45
    clear he44 a43
    refine lW (.pointer (some ⟨p, 0, none⟩)) he45 rfl (rn_nilck rfl (he45.op rfl) w3) ?_
    intro a46 he46
    clear he45 a45
    refine lW (.pointer (some ⟨p, 0, none⟩)) he46 rfl (rn_faS0 rfl (he46.op rfl) rfl w3) ?_
    intro a47 he47
    clear he46 a46
    refine lW (.slice A L.length c) he47 rfl (rn_ldLs rfl (he47.op rfl) (hH3.at (i := 0) rfl) rfl) ?_
    intro a48 he48
    clear he47 a47
    refine lW (.int .i64 k) he48 rfl (rn_mv rfl (he48.op rfl) w3) ?_
    intro a49 he49
    clear he48 a48
    refine lW (.slice A2 k c) he49 rfl (rg_cuth (R := rL) (k := k) rfl (he49.op rfl) (he49.op rfl) (by omega) e2 w3) ?_
    intro a50 he50
    clear he49 a49
    obtain ⟨F_, hsep, hF, hstep⟩ := Dt.step (A := [rowD (.slice A L.length c) xs]) (D := [elsD xs L]) hD
    refine lEx0 he50 rfl (wanted_plain rfl _) (clear_d (k := 0) (m := k) hsep.the (fun g_ o_ h_ hA_ => sl_addr e2 (by omega) g_ o_ hA_) (by omega) rfl (he50.op rfl)) ?_
    rintro _ w51 ⟨rfl, ht⟩
    obtain ⟨hD2, hHs⟩ := hstep _ _ ht
    have hH51 := hHs _ rfl hH3
    clear hHs hstep hsep hF
    replace hD := hD2
    clear hD2 ht
    intro a52 he52
    clear he50 a50 hH3
    refine wpList_nil (then_ok ?_)
    refine wp_seq (wp_region_lit ?_)
    refine lW (.pointer (some ⟨p, 0, none⟩)) he52 rfl (rn_mv rfl (he52.op rfl) w51) ?_
    intro a53 he53
    clear he52 a52
    refine lW (.pointer (some ⟨p, 0, none⟩)) he53 rfl (rn_mv rfl (he53.op rfl) w51) ?_
    intro a54 he54
    clear he53 a53
    refine lW (.pointer (some ⟨p, 0, none⟩)) he54 rfl (rn_nilck rfl (he54.op rfl) w51) ?_
    intro a55 he55
    clear he54 a54
    refine lW (.pointer (some ⟨p, 0, none⟩)) he55 rfl (rn_faS0 rfl (he55.op rfl) rfl w51) ?_
    intro a56 he56
    clear he55 a55
    refine lW (.slice A L.length c) he56 rfl (rn_ldLs rfl (he56.op rfl) (hH51.at (i := 0) rfl) rfl) ?_
    intro a57 he57
    clear he56 a56
    refine lW (.int .i64 k) he57 rfl (rn_mv rfl (he57.op rfl) w51) ?_
    intro a58 he58
    clear he57 a57
    have e4 : L.length - k = (L.drop k).length := by simp
    have e5 : sliced A k L.length c 2 = .slice A3 (L.drop k).length (c - k) := by rw [← e4]; exact e3
    refine lW (.slice A3 (L.drop k).length (c - k)) he58 rfl (rg_cutl (R := rL) (k := k) rfl (he58.op rfl) (he58.op rfl) hk e5 w51) ?_
    intro a59 he59
    clear he58 a58
    refine lW (.pointer (some ⟨p, 0, none⟩)) he59 rfl (rn_nilck rfl (he59.op rfl) w51) ?_
    intro a60 he60
    clear he59 a59
    refine lW (.pointer (some ⟨p, 0, none⟩)) he60 rfl (rn_faS0 rfl (he60.op rfl) rfl w51) ?_
    intro a61 he61
    clear he60 a60
    refine lSetF 0 #[.slice A3 (L.drop k).length (c - k)] (cs := #[.slice A3 (L.drop k).length (c - k), .int .i64 pl, .int .i64 gn]) he61 hH51 rfl (wanted_plain rfl _) rfl rfl rfl rfl rfl (by kernel_rfl) (by kernel_rfl) (by kernel_rfl) rfl ?_
    intro w62 a63 hH62 hf he63
    replace hD := hD.setb (i := 0) rfl rfl hf
    replace hH62 : Hp (bare w) [⟨p, 108, #[.slice A3 (L.drop k).length (c - k), .int .i64 pl, .int .i64 gn]⟩] w62 := hH62
    clear hf
    clear he61 a61 hH51
    refine wpList_nil (then_ok ?_)
    refine wp_seq (wp_region_lit ?_)
    refine lW (.pointer (some ⟨p, 0, none⟩)) he63 rfl (rn_mv rfl (he63.op rfl) w62) ?_
    intro a64 he64
    clear he63 a63
    refine lW (.pointer (some ⟨p, 0, none⟩)) he64 rfl (rn_nilck rfl (he64.op rfl) w62) ?_
    intro a65 he65
    clear he64 a64
    refine lW (.pointer (some ⟨p, 2, none⟩)) he65 rfl (rn_faS2 rfl (he65.op rfl) rfl w62) ?_
    intro a66 he66
    clear he65 a65
    refine lW (.int .i64 gn) he66 rfl (rn_ld1 rfl (he66.op rfl) Tryd.underlying3 (hH62.at (i := 0) rfl) rfl) ?_
    intro a67 he67
    clear he66 a66
    refine lW (.int .i64 k) he67 rfl (rn_mv rfl (he67.op rfl) w62) ?_
    intro a68 he68
    clear he67 a67
    have hp9 := hok.2.1
    have hpg := hok.2.2.1
    refine lW (.int .i64 ((gn + k : Nat) : Int)) he68 rfl (rn_add1 rfl (he68.op rfl) (he68.op rfl) (by rw [IntWalk.i64_in _ ⟨by omega, by omega⟩]; omega) w62) ?_
    intro a69 he69
    clear he68 a68
    refine lW (.pointer (some ⟨p, 0, none⟩)) he69 rfl (rn_nilck rfl (he69.op rfl) w62) ?_
    intro a70 he70
    clear he69 a69
    refine lW (.pointer (some ⟨p, 2, none⟩)) he70 rfl (rn_faS2 rfl (he70.op rfl) rfl w62) ?_
    intro a71 he71
    clear he70 a70
    refine lSetF 0 #[.int .i64 ((gn + k : Nat) : Int)] (cs := #[.slice A3 (L.drop k).length (c - k), .int .i64 pl, .int .i64 ((gn + k : Nat) : Int)]) he71 hH62 rfl (wanted_plain rfl _) rfl rfl rfl rfl rfl (by kernel_rfl) (by kernel_rfl) (by kernel_rfl) rfl ?_
    intro w72 a73 hH72 hf he73
    replace hD := hD.setb (i := 0) rfl rfl hf
    replace hH72 : Hp (bare w) [⟨p, 108, #[.slice A3 (L.drop k).length (c - k), .int .i64 pl, .int .i64 ((gn + k : Nat) : Int)]⟩] w72 := hH72
    clear hf
    clear he71 a71 hH62
    refine wpList_nil (then_ok ?_)
    refine wp_seq (wp_region_lit ?_)
    refine lW (.int .i64 0) he73 rfl (rn_asg rfl (he73.op rfl) w72) ?_
    intro a74 he74
    clear he73 a73
    refine wpList_nil (then_ok ?_)
    have e6 : ∀ y : LV, (xs.take 0 ++ List.replicate k zL ++ xs.drop (0 + k)).drop k = xs.drop k := fun _ => by rw [List.take_zero, List.nil_append, Nat.zero_add, List.drop_left' (by simp)]
    replace hD := Dt.front (A := [rowD (.slice A L.length c) (xs.take 0 ++ List.replicate k zL ++ xs.drop (0 + k))]) (B := [rowD (.slice A3 (L.drop k).length (c - k)) (xs.drop k)]) (D := [elsD xs L]) hD (fun G h => by have := row_cutl e5 hk h; rw [e6 zL] at this; exact this)
    replace hD := hD.pick 1 rfl
    replace hD := Dt.front (A := [elsD xs L]) (B := [elsD (xs.drop k) (L.drop k)]) (D := [rowD (.slice A3 (L.drop k).length (c - k)) (xs.drop k)]) hD (fun G h => SepL.one (els_drop h.the k))
    replace hD := hD.pick 1 rfl
    have hBe := hH72.at (i := 0) rfl
    simp only at hBe
    refine wp_ret ?_
    try simp only [Exit.then, Exit.inBlock, Exit.noGoto]
    exact ret_env rfl he74 rfl ⟨rfl, sh_shut hD (by simp) (.inl hFp) hBe hok2⟩
set_option linter.unusedSimpArgs false in
set_option maxRecDepth 100000 in
set_option maxHeartbeats 1600000 in
theorem pop_b (F : FP) (p pl gn : Nat) (L : List Ln)  (w : World) (hs : (shD p L pl gn).P w F) (hF : ∀ k, F k → 2 ≤ k ∧ k < w.heap.size) (hT : Tab w) : Calls Tryd.prog 56 #[.pointer (some ⟨p, 0, none⟩)] w fun e w' => ∃ A' c', e = .returned (.tuple #[.agg #[.slice A' (popS L).2.1.1.length c', .bool (popS L).2.1.2], .int .i64 (popS L).2.2]) ∧ Turned [shD p (popS L).1 pl gn, cellsD (.slice A' (popS L).2.1.1.length c') (popS L).2.1.1] F w w' := by
  obtain ⟨A, c, xs, G, hB, hsep, hG, hFp, hGp, hok⟩ := id hs
  have hpl : ((pl : Int) == 0) = false := by have := hok.1; simp; omega
  have hlen := hok.len
  refine calls_args (vl := [.pointer (some ⟨p, 0, none⟩)]) 47 Tryd.func56 rfl Tryd.ntmps56 (by kernel_rfl) (fun a he => ?_)
  have he0 : Env 47 [(0, .pointer (some ⟨p, 0, none⟩))] a := he
  clear he
  have hH := Hp.bare1 hB
  have hD := Dt.begin1 hT hsep hG hF hFp hGp
  refine wp_seq (wp_region_lit ?_)
  refine lNewP (fun p => .pointer (some ⟨p, 0, none⟩)) he0 hH rfl rfl (wanted_plain rfl _) (rn_allocL rfl w) ?_
  intro p1 w1 a2 hp hn hH1 he2
  replace hD := hD.cons hn hp (hH1.at (i := 0) rfl).lt
  clear he0 a hH hn hp
  refine lW (.int .i64 0) he2 rfl (rn_asg rfl (he2.op rfl) w1) ?_
  intro a3 he3
  clear he2 a2
  refine wpList_nil (then_ok ?_)
  refine wp_seq ?_
  refine wp_block ?_
  refine wp_seq (wp_region_lit ?_)
  refine lW (.pointer (some ⟨p, 0, none⟩)) he3 rfl (rn_mv rfl (he3.op rfl) w1) ?_
  intro a4 he4
  clear he3 a3
  refine lC he4 rfl rfl Tryd.func63 (by kernel_rfl) rfl rfl (wanted_plain rfl _) rfl (unmade_f _ _ _ _ pl gn w1 (hH1.at (i := 1) rfl) hpl hD.tab) ?_
  intro w5 a6 hn he6
  have hH5 := hH1.call hn
  replace hD := (hD).new hn
  clear he4 a4 hH1 hn
  refine lW (.bool false) he6 rfl (rn_asg rfl (he6.op rfl) w5) ?_
  intro a7 he7
  clear he6 a6
  refine wpList_nil (then_ok ?_)
  refine wp_cond_false (he7.op rfl) ?_
  by_cases h0 : L.length = 0
  · skip
    refine wp_seq (wp_region_lit ?_)
    refine lW (.pointer (some ⟨p, 0, none⟩)) he7 rfl (rn_mv rfl (he7.op rfl) w5) ?_
    intro a8 he8
    clear he7 a7
    refine lW (.pointer (some ⟨p, 0, none⟩)) he8 rfl (rn_nilck rfl (he8.op rfl) w5) ?_
    intro a9 he9
    clear he8 a8
    refine lW (.pointer (some ⟨p, 0, none⟩)) he9 rfl (rn_faS0 rfl (he9.op rfl) rfl w5) ?_
    intro a10 he10
    clear he9 a9
    refine lW (.slice A L.length c) he10 rfl (rn_ldLs rfl (he10.op rfl) (hH5.at (i := 1) rfl) rfl) ?_
    intro a11 he11
    clear he10 a10
    refine lW (.int .i64 L.length) he11 rfl (rn_lenL rfl (he11.op rfl) w5) ?_
    intro a12 he12
    clear he11 a11
    refine lW (.bool true) he12 rfl (rn_eqI rfl (he12.op rfl) (he12.op rfl) (by simp [h0]) w5) ?_
    intro a13 he13
    clear he12 a12
    refine lW (.bool true) he13 rfl (rn_asg rfl (he13.op rfl) w5) ?_
    intro a14 he14
    clear he13 a13
    refine wpList_nil (then_ok ?_)
    refine wp_cond_true (he14.op rfl) ?_
    refine wp_seq (wp_region_lit ?_)
    refine lW (.agg #[.slice none 0 0, .bool false]) he14 rfl (rn_bL rfl  w5) ?_
    intro a15 he15
    clear he14 a14
    refine lSetF 0 #[.slice none 0 0, .bool false] (cs := #[.slice none 0 0, .bool false]) he15 hH5 rfl (wanted_plain rfl _) rfl rfl rfl rfl rfl (by kernel_rfl) (by kernel_rfl) (by kernel_rfl) rfl ?_
    intro w16 a17 hH16 hf he17
    replace hD := hD.setb (i := 0) rfl rfl hf
    replace hH16 : Hp (bare w) [⟨p1, 36, #[.slice none 0 0, .bool false]⟩, ⟨p, 108, #[.slice A L.length c, .int .i64 pl, .int .i64 gn]⟩] w16 := hH16
    clear hf
    clear he15 a15 hH5
    refine lW (.int .i64 9) he17 rfl (rn_asg rfl (he17.op rfl) w16) ?_
    intro a18 he18
    clear he17 a17
    refine wpList_nil (then_ok ?_)
    have e_ : popS L = (L, zLn, 9) := by simp [popS, h0]
    rw [e_]
    replace hD := Dt.front (A := []) (B := [cellsD (.slice none 0 0) []]) (D := [rowD (.slice A L.length c) xs, elsD xs L]) hD (fun G h => SepL.one (d := cellsD _ _) (cells_nil _ _))
    replace hD := hD.pick 1 rfl
    replace hD := hD.pick 2 rfl
    replace hD := hD.pick 1 rfl
    have hsh := sh_shut (L := L) (pl := pl) (gn := gn) hD (by simp) (.inl hFp) (hH16.at (i := 1) rfl) hok
    refine wp_ret ?_
    try simp only [Exit.then, Exit.inBlock, Exit.noGoto]
    exact ret_rowt rfl he18 rfl rfl (hH16.at (i := 0) rfl) undL rfl infoL2 ⟨none, 0, rfl, hsh⟩
  refine wp_seq (wp_region_lit ?_)
  refine lW (.pointer (some ⟨p, 0, none⟩)) he7 rfl (rn_mv rfl (he7.op rfl) w5) ?_
  intro a19 he19
  clear he7 a7
  refine lW (.pointer (some ⟨p, 0, none⟩)) he19 rfl (rn_nilck rfl (he19.op rfl) w5) ?_
  intro a20 he20
  clear he19 a19
  refine lW (.pointer (some ⟨p, 0, none⟩)) he20 rfl (rn_faS0 rfl (he20.op rfl) rfl w5) ?_
  intro a21 he21
  clear he20 a20
  refine lW (.slice A L.length c) he21 rfl (rn_ldLs rfl (he21.op rfl) (hH5.at (i := 1) rfl) rfl) ?_
  intro a22 he22
  clear he21 a21
  refine lW (.int .i64 L.length) he22 rfl (rn_lenL rfl (he22.op rfl) w5) ?_
  intro a23 he23
  clear he22 a22
  refine lW (.bool false) he23 rfl (rn_eqI rfl (he23.op rfl) (he23.op rfl) (by simpa using h0) w5) ?_
  intro a24 he24
  clear he23 a23
  refine lW (.bool false) he24 rfl (rn_asg rfl (he24.op rfl) w5) ?_
  intro a25 he25
  clear he24 a24
  refine wpList_nil (then_ok ?_)
  refine wp_cond_false (he25.op rfl) ?_
  obtain ⟨k, hk⟩ : ∃ k, L.length = k + 1 := ⟨L.length - 1, by omega⟩
  have hLk : ∃ m, L[k]? = some m := ⟨_, List.getElem?_eq_getElem (by omega)⟩
  obtain ⟨m, hLk⟩ := hLk
  have e_ : popS L = (L.take k, m, 0) := by unfold popS; rw [if_neg h0, hk, Nat.add_sub_cancel, List.getD_eq_getElem?_getD, hLk]; rfl
  rw [e_]
  have hok2 : ShOk (L.take k) pl gn := by have := pop_ok (pl := pl) (gn := gn) hok; rw [e_] at this; exact this
  refine wp_skip ?_
  refine block_ok ?_
  refine then_ok ?_
  refine wp_seq (wp_region_lit ?_)
  refine lW (.pointer (some ⟨p, 0, none⟩)) he25 rfl (rn_mv rfl (he25.op rfl) w5) ?_
  intro a26 he26
  clear he25 a25
  refine lW (.pointer (some ⟨p, 0, none⟩)) he26 rfl (rn_nilck rfl (he26.op rfl) w5) ?_
  intro a27 he27
  clear he26 a26
  refine lW (.pointer (some ⟨p, 0, none⟩)) he27 rfl (rn_faS0 rfl (he27.op rfl) rfl w5) ?_
  intro a28 he28
  clear he27 a27
  refine lW (.slice A L.length c) he28 rfl (rn_ldLs rfl (he28.op rfl) (hH5.at (i := 1) rfl) rfl) ?_
  intro a29 he29
  clear he28 a28
  refine lW (.int .i64 L.length) he29 rfl (rn_lenL rfl (he29.op rfl) w5) ?_
  intro a30 he30
  clear he29 a29
  refine lW (.int .i64 k) he30 rfl (rn_subI rfl (he30.op rfl) (he30.op rfl) (by rw [IntWalk.i64_in _ ⟨by omega, by omega⟩]; omega) w5) ?_
  intro a31 he31
  clear he30 a30
  refine lW (.int .i64 k) he31 rfl (rn_asg rfl (he31.op rfl) w5) ?_
  intro a32 he32
  clear he31 a31
  refine wpList_nil (then_ok ?_)
  have he33 : Env 47 [(4, .int .i64 k), (3, .int .i64 0), (2, .pointer (some ⟨p1, 0, none⟩)), (0, .pointer (some ⟨p, 0, none⟩))] a32 := he32.mem ⟨rfl, rfl, rfl, rfl, trivial⟩
  clear he32
  as_aux_lemma =>
    have hxl : xs.length = L.length := by obtain ⟨_, h⟩ := hD.get (i := 1) rfl; exact h.1
    obtain ⟨x, hx⟩ : ∃ x, xs[k]? = some x := ⟨_, List.getElem?_eq_getElem (by omega)⟩
    obtain ⟨hxs, hxf⟩ := els_get (hD.get (i := 1) rfl).choose_spec hx hLk
    obtain ⟨Ax, cx, hxe⟩ := hxf.sl.shape
    clear hxf
    obtain ⟨xa, xn, xc, xz⟩ := x
    simp only [Value.slice.injEq] at hxe hxs
    obtain ⟨rfl, rfl, rfl⟩ := hxe
    subst hxs
    have hlc : L.length ≤ c := by obtain ⟨_, hr⟩ := hD.get (i := 0) rfl; obtain ⟨_, _, _, h, _⟩ := (show OwnO rL _ _ _ _ from hr).rdg; exact h
    obtain ⟨A2, e2, -⟩ := OwnO.cutl (R := rL) (show OwnO rL _ _ _ _ from (hD.get (i := 0) rfl).choose_spec) (k := k) (by omega)
    obtain ⟨A3, e3, -⟩ := OwnO.cuth (R := rL) (show OwnO rL _ _ _ _ from (hD.get (i := 0) rfl).choose_spec) (k := k) (by omega)
    have e4 : L.length - k = 1 := by omega
    rw [e4] at e2
    have e5 : (L.take k).length = k := by rw [List.length_take]; omega
    have e6 : sliced A 0 k c 2 = .slice A3 (L.take k).length c := by rw [e5]; exact e3
    obtain ⟨bb, hrd, -, -, -⟩ := (show OwnO rL _ _ _ _ from (hD.get (i := 0) rfl).choose_spec).rdg
    obtain ⟨oo, eA⟩ := hrd.base (by omega)
    subst eA
    refine wp_seq (wp_region_lit ?_)
    refine lW (.pointer (some ⟨p, 0, none⟩)) he33 rfl (rn_mv rfl (he33.op rfl) w5) ?_
    intro a34 he34
    clear he33 a32
    refine lW (.pointer (some ⟨p, 0, none⟩)) he34 rfl (rn_nilck rfl (he34.op rfl) w5) ?_
    intro a35 he35
    clear he34 a34
    refine lW (.pointer (some ⟨p, 0, none⟩)) he35 rfl (rn_faS0 rfl (he35.op rfl) rfl w5) ?_
    intro a36 he36
    clear he35 a35
    refine lW (.slice (some ⟨bb, oo, none⟩) L.length c) he36 rfl (rn_ldLs rfl (he36.op rfl) (hH5.at (i := 1) rfl) rfl) ?_
    intro a37 he37
    clear he36 a36
    refine lW (.int .i64 k) he37 rfl (rn_mv rfl (he37.op rfl) w5) ?_
    intro a38 he38
    clear he37 a37
    refine lW (.pointer (some ⟨bb, oo + k * 2, none⟩)) he38 rfl (rn_idxL (i := k) rfl (he38.op rfl) (he38.op rfl) (by omega) (by rw [addr_add]) w5) ?_
    intro a39 he39
    clear he38 a38
    refine lW (.agg #[.slice xa m.1.length xc, .bool m.2]) he39 rfl (rn_ldLn (i := k) rfl (he39.op rfl) hrd rfl hx) ?_
    intro a40 he40
    clear he39 a39
    refine lNewP (fun p => .pointer (some ⟨p, 0, none⟩)) he40 hH5 rfl rfl (wanted_plain rfl _) (rn_allocL rfl w5) ?_
    intro p41 w41 a42 hp hn hH41 he42
    replace hD := hD.cons hn hp (hH41.at (i := 0) rfl).lt
    replace hrd := hrd.new hn
    clear he40 a40 hH5 hn hp
    refine lSetF 0 #[.slice xa m.1.length xc, .bool m.2] (cs := #[.slice xa m.1.length xc, .bool m.2]) he42 hH41 rfl (wanted_plain rfl _) rfl rfl rfl rfl rfl (by kernel_rfl) (by kernel_rfl) (by kernel_rfl) rfl ?_
    intro w43 a44 hH43 hf he44
    replace hD := hD.setb (i := 0) rfl rfl hf
    replace hH43 : Hp (bare w) [⟨p41, 36, #[.slice xa m.1.length xc, .bool m.2]⟩, ⟨p1, 36, #[.slice none 0 0, .bool false]⟩, ⟨p, 108, #[.slice (some ⟨bb, oo, none⟩) L.length c, .int .i64 pl, .int .i64 gn]⟩] w43 := hH43
    clear hf
    clear he42 a42 hH41
    refine wpList_nil (then_ok ?_)
    refine wp_seq (wp_region_lit ?_)
    refine lW (.pointer (some ⟨p, 0, none⟩)) he44 rfl (rn_mv rfl (he44.op rfl) w43) ?_
    intro a45 he45
    clear he44 a44
    refine lW (.pointer (some ⟨p, 0, none⟩)) he45 rfl (rn_nilck rfl (he45.op rfl) w43) ?_
    intro a46 he46
    clear he45 a45
    refine lW (.pointer (some ⟨p, 0, none⟩)) he46 rfl (rn_faS0 rfl (he46.op rfl) rfl w43) ?_
    intro a47 he47
    clear he46 a46
    refine lW (.slice (some ⟨bb, oo, none⟩) L.length c) he47 rfl (rn_ldLs rfl (he47.op rfl) (hH43.at (i := 2) rfl) rfl) ?_
    intro a48 he48
    clear he47 a47
    refine lW (.int .i64 k) he48 rfl (rn_mv rfl (he48.op rfl) w43) ?_
    intro a49 he49
    clear he48 a48
    refine lW (.slice A2 1 (c - k)) he49 rfl (rg_cutl (R := rL) (k := k) rfl (he49.op rfl) (he49.op rfl) (by omega) e2 w43) ?_
    intro a50 he50
    clear he49 a49
    obtain ⟨F_, hsep, hF, hstep⟩ := Dt.step (A := [rowD (.slice (some ⟨bb, oo, none⟩) L.length c) xs]) (D := [elsD xs L]) hD
    refine lEx0 he50 rfl (wanted_plain rfl _) (clear_d (k := k) (m := 1) hsep.the (fun g_ o_ h_ hA_ => sl_addr e2 (by omega) g_ o_ hA_) (by omega) rfl (he50.op rfl)) ?_
    rintro _ w51 ⟨rfl, ht⟩
    obtain ⟨hD2, hHs⟩ := hstep _ _ ht
    have hH51 := hHs _ rfl hH43
    clear hHs hstep hsep hF
    replace hD := hD2
    clear hD2 ht
    intro a52 he52
    clear he50 a50 hH43
    refine wpList_nil (then_ok ?_)
    refine wp_seq (wp_region_lit ?_)
    refine lW (.pointer (some ⟨p, 0, none⟩)) he52 rfl (rn_mv rfl (he52.op rfl) w51) ?_
    intro a53 he53
    clear he52 a52
    refine lW (.pointer (some ⟨p, 0, none⟩)) he53 rfl (rn_mv rfl (he53.op rfl) w51) ?_
    intro a54 he54
    clear he53 a53
    refine lW (.pointer (some ⟨p, 0, none⟩)) he54 rfl (rn_nilck rfl (he54.op rfl) w51) ?_
    intro a55 he55
    clear he54 a54
    refine lW (.pointer (some ⟨p, 0, none⟩)) he55 rfl (rn_faS0 rfl (he55.op rfl) rfl w51) ?_
    intro a56 he56
    clear he55 a55
    refine lW (.slice (some ⟨bb, oo, none⟩) L.length c) he56 rfl (rn_ldLs rfl (he56.op rfl) (hH51.at (i := 2) rfl) rfl) ?_
    intro a57 he57
    clear he56 a56
    refine lW (.int .i64 k) he57 rfl (rn_mv rfl (he57.op rfl) w51) ?_
    intro a58 he58
    clear he57 a57
    refine lW (.slice A3 (L.take k).length c) he58 rfl (rg_cuth (R := rL) (k := k) rfl (he58.op rfl) (he58.op rfl) (by omega) e6 w51) ?_
    intro a59 he59
    clear he58 a58
    refine lW (.pointer (some ⟨p, 0, none⟩)) he59 rfl (rn_nilck rfl (he59.op rfl) w51) ?_
    intro a60 he60
    clear he59 a59
    refine lW (.pointer (some ⟨p, 0, none⟩)) he60 rfl (rn_faS0 rfl (he60.op rfl) rfl w51) ?_
    intro a61 he61
    clear he60 a60
    refine lSetF 2 #[.slice A3 (L.take k).length c] (cs := #[.slice A3 (L.take k).length c, .int .i64 pl, .int .i64 gn]) he61 hH51 rfl (wanted_plain rfl _) rfl rfl rfl rfl rfl (by kernel_rfl) (by kernel_rfl) (by kernel_rfl) rfl ?_
    intro w62 a63 hH62 hf he63
    replace hD := hD.setb (i := 2) rfl rfl hf
    replace hH62 : Hp (bare w) [⟨p41, 36, #[.slice xa m.1.length xc, .bool m.2]⟩, ⟨p1, 36, #[.slice none 0 0, .bool false]⟩, ⟨p, 108, #[.slice A3 (L.take k).length c, .int .i64 pl, .int .i64 gn]⟩] w62 := hH62
    clear hf
    clear he61 a61 hH51
    refine wpList_nil (then_ok ?_)
    refine wp_seq (wp_region_lit ?_)
    refine lW (.agg #[.slice xa m.1.length xc, .bool m.2]) he63 rfl (rn_ldp _ rfl (he63.op rfl) undL rfl infoL2 (hH62.at (i := 0) rfl) rfl) ?_
    intro a64 he64
    clear he63 a63
    refine lSetF 1 #[.slice xa m.1.length xc, .bool m.2] (cs := #[.slice xa m.1.length xc, .bool m.2]) he64 hH62 rfl (wanted_plain rfl _) rfl rfl rfl rfl rfl (by kernel_rfl) (by kernel_rfl) (by kernel_rfl) rfl ?_
    intro w65 a66 hH65 hf he66
    replace hD := hD.setb (i := 1) rfl rfl hf
    replace hH65 : Hp (bare w) [⟨p41, 36, #[.slice xa m.1.length xc, .bool m.2]⟩, ⟨p1, 36, #[.slice xa m.1.length xc, .bool m.2]⟩, ⟨p, 108, #[.slice A3 (L.take k).length c, .int .i64 pl, .int .i64 gn]⟩] w65 := hH65
    clear hf
    clear he64 a64 hH62
    refine lW (.int .i64 0) he66 rfl (rn_asg rfl (he66.op rfl) w65) ?_
    intro a67 he67
    clear he66 a66
    refine wpList_nil (then_ok ?_)
    have e7 : (xs.take k ++ List.replicate 1 zL ++ xs.drop (k + 1)).take k = xs.take k := by rw [List.append_assoc, List.take_left' (by rw [List.length_take]; omega)]
    replace hD := Dt.front (A := [rowD (.slice (some ⟨bb, oo, none⟩) L.length c) (xs.take k ++ List.replicate 1 zL ++ xs.drop (k + 1))]) (B := [rowD (.slice A3 (L.take k).length c) (xs.take k)]) (D := [elsD xs L]) hD (fun G h => by have := row_cuth e6 (by omega) h; rw [e7] at this; exact this)
    replace hD := hD.pick 1 rfl
    have e8 : xs.drop k = [⟨xa, m.1.length, xc, m.2⟩] := by obtain ⟨h1, h2⟩ := List.getElem?_eq_some_iff.1 hx; rw [List.drop_eq_getElem_cons h1, h2, List.drop_eq_nil_of_le (by omega)]
    have e9 : L.drop k = [m] := by obtain ⟨h1, h2⟩ := List.getElem?_eq_some_iff.1 hLk; rw [List.drop_eq_getElem_cons h1, h2, List.drop_eq_nil_of_le (by omega)]
    replace hD := Dt.front (A := [elsD xs L]) (B := [elsD (xs.take k) (L.take k), cellsD (.slice xa m.1.length xc) m.1]) (D := [rowD (.slice A3 (L.take k).length c) (xs.take k)]) hD (fun G h => by have h2 := els_cut h.the k; rw [e8, e9] at h2; obtain ⟨X_, Y_, q1, q2, q3, q4, q5⟩ := h2; obtain ⟨X2, Y2, r1, r2, r3, r4, r5⟩ := (els_head q2.the).2; exact ⟨X_, Y_, q1, (SepL.one r1).up (fun j hj => q5 j (r4 j hj)) |>.up (fun _ h => h) |> fun z => (SepL.one r1).up r4, q3, q4, q5⟩)
    replace hD := hD.pick 2 rfl
    have hBe := hH65.at (i := 2) rfl
    simp only at hBe
    have hsh := sh_shut hD (by simp) (.inl hFp) hBe hok2
    refine wp_ret ?_
    try simp only [Exit.then, Exit.inBlock, Exit.noGoto]
    exact ret_rowt rfl he67 rfl rfl (hH65.at (i := 1) rfl) undL rfl infoL2 ⟨xa, xc, rfl, hsh⟩
set_option linter.unusedSimpArgs false in
set_option maxRecDepth 100000 in
set_option maxHeartbeats 1600000 in
theorem get_b (F : FP) (p pl gn : Nat) (L : List Ln) (i : Int) (w : World) (hs : (shD p L pl gn).P w F) (hT : Tab w) : Calls Tryd.prog 49 #[.pointer (some ⟨p, 0, none⟩), .int .i64 i] w fun e w' => ∃ A' c', e = .returned (.tuple #[.agg #[.slice A' (getS L i).1.1.length c', .bool (getS L i).1.2], .int .i64 (getS L i).2]) ∧ Made [cellsD (.slice A' (getS L i).1.1.length c') (getS L i).1.1] w w' := by
  obtain ⟨A, c, xs, G, hB, hsep, hG, hFp, hGp, hok⟩ := id hs
  have hpl : ((pl : Int) == 0) = false := by have := hok.1; simp; omega
  have hlen := hok.len
  refine calls_args (vl := [.pointer (some ⟨p, 0, none⟩), .int .i64 i]) 24 Tryd.func49 rfl Tryd.ntmps49 (by kernel_rfl) (fun a he => ?_)
  have he0 : Env 24 [(0, .pointer (some ⟨p, 0, none⟩)), (1, .int .i64 i)] a := he
  clear he
  have hH := Hp.bare1 hB
  have hD := Dt.read1 hT hB.lt
  refine wp_seq (wp_region_lit ?_)
  refine lNewP (fun p => .pointer (some ⟨p, 0, none⟩)) he0 hH rfl rfl (wanted_plain rfl _) (rn_allocL rfl w) ?_
  intro p1 w1 a2 hp hn hH1 he2
  replace hD := hD.cons hn hp (hH1.at (i := 0) rfl).lt
  clear he0 a hH hn hp
  refine lW (.int .i64 0) he2 rfl (rn_asg rfl (he2.op rfl) w1) ?_
  intro a3 he3
  clear he2 a2
  refine wpList_nil (then_ok ?_)
  refine wp_seq ?_
  refine wp_block ?_
  refine wp_seq (wp_region_lit ?_)
  refine lW (.pointer (some ⟨p, 0, none⟩)) he3 rfl (rn_mv rfl (he3.op rfl) w1) ?_
  intro a4 he4
  clear he3 a3
  refine lC he4 rfl rfl Tryd.func63 (by kernel_rfl) rfl rfl (wanted_plain rfl _) rfl (unmade_f _ _ _ _ pl gn w1 (hH1.at (i := 1) rfl) hpl hD.tab) ?_
  intro w5 a6 hn he6
  have hH5 := hH1.call hn
  replace hD := (hD).new hn
  clear he4 a4 hH1 hn
  refine lW (.bool false) he6 rfl (rn_asg rfl (he6.op rfl) w5) ?_
  intro a7 he7
  clear he6 a6
  refine wpList_nil (then_ok ?_)
  refine wp_cond_false (he7.op rfl) ?_
  by_cases hi : 0 ≤ i ∧ i < L.length
  · skip
    have hz : (decide (0 ≤ i) && decide (i < (L.length : Nat))) = true := by simp [hi.1, hi.2]
    refine wp_seq (wp_region_lit ?_)
    refine lW (.pointer (some ⟨p, 0, none⟩)) he7 rfl (rn_mv rfl (he7.op rfl) w5) ?_
    intro a8 he8
    clear he7 a7
    refine lW (.int .i64 i) he8 rfl (rn_mv rfl (he8.op rfl) w5) ?_
    intro a9 he9
    clear he8 a8
    refine lC he9 rfl rfl Tryd.func64 (by kernel_rfl) rfl rfl (wanted_plain rfl _) rfl (has_b _ _ _ _ pl gn w5 (hH5.at (i := 1) rfl) i true hz hD.tab) ?_
    intro w10 a11 hn he11
    have hH10 := hH5.call hn
    replace hD := (hD).new hn
    clear he9 a9 hH5 hn
    refine lW (.bool false) he11 rfl (rn_not (b := true) rfl (he11.op rfl) w10) ?_
    intro a12 he12
    clear he11 a11
    refine lW (.bool false) he12 rfl (rn_asg rfl (he12.op rfl) w10) ?_
    intro a13 he13
    clear he12 a12
    refine wpList_nil (then_ok ?_)
    refine wp_cond_false (he13.op rfl) ?_
    obtain ⟨k, rfl⟩ : ∃ k : Nat, i = k := ⟨i.toNat, by omega⟩
    have hk : k < L.length := by omega
    obtain ⟨m, hLk⟩ : ∃ m, L[k]? = some m := ⟨_, List.getElem?_eq_getElem (by omega)⟩
    have e_ : getS L k = (m, 0) := by unfold getS; rw [if_pos hi, Int.toNat_natCast, List.getD_eq_getElem?_getD, hLk]; rfl
    rw [e_]
    have hml := hok.cells m (List.mem_of_getElem? hLk)
    refine wp_skip ?_
    refine block_ok ?_
    refine then_ok ?_
    have he14 : Env 24 [(5, .int .i64 0), (4, .pointer (some ⟨p1, 0, none⟩)), (0, .pointer (some ⟨p, 0, none⟩)), (1, .int .i64 k)] a13 := he13.mem ⟨rfl, rfl, rfl, rfl, trivial⟩
    clear he13
    as_aux_lemma =>
      obtain ⟨F1, F2, hrow, hels, -⟩ := hsep
      have hels2 : (elsD xs L).P w F2 := hels.the
      have hxl : xs.length = L.length := hels2.1
      obtain ⟨x, hx⟩ : ∃ x, xs[k]? = some x := ⟨_, List.getElem?_eq_getElem (by omega)⟩
      obtain ⟨hxs, hxf⟩ := els_get hels2 hx hLk
      have hxg := hxf.sl
      obtain ⟨Ax, cx, hxe⟩ := hxg.shape
      clear hxf
      obtain ⟨xa, xn, xc, xz⟩ := x
      simp only [Value.slice.injEq] at hxe hxs
      obtain ⟨rfl, rfl, rfl⟩ := hxe
      subst hxs
      obtain ⟨bb, hrd, -, -, -⟩ := (show OwnO rL w F1 _ _ from hrow).rdg
      obtain ⟨oo, eA⟩ := hrd.base (by omega)
      subst eA
      replace hrd := RdG.new hrd hD.fr
      replace hxg := SlC.new hxg hD.fr
      refine wp_seq (wp_region_lit ?_)
      refine lW (.pointer (some ⟨p, 0, none⟩)) he14 rfl (rn_mv rfl (he14.op rfl) w10) ?_
      intro a15 he15
      clear he14 a13
      refine lW (.pointer (some ⟨p, 0, none⟩)) he15 rfl (rn_nilck rfl (he15.op rfl) w10) ?_
      intro a16 he16
      clear he15 a15
      refine lW (.pointer (some ⟨p, 0, none⟩)) he16 rfl (rn_faS0 rfl (he16.op rfl) rfl w10) ?_
      intro a17 he17
      clear he16 a16
      refine lW (.slice (some ⟨bb, oo, none⟩) L.length c) he17 rfl (rn_ldLs rfl (he17.op rfl) (hH10.at (i := 1) rfl) rfl) ?_
      intro a18 he18
      clear he17 a17
      refine lW (.int .i64 k) he18 rfl (rn_mv rfl (he18.op rfl) w10) ?_
      intro a19 he19
      clear he18 a18
      refine lW (.pointer (some ⟨bb, oo + k * 2, none⟩)) he19 rfl (rn_idxL (i := k) rfl (he19.op rfl) (he19.op rfl) (by omega) (by rw [addr_add]) w10) ?_
      intro a20 he20
      clear he19 a19
      refine lW (.agg #[.slice xa m.1.length xc, .bool m.2]) he20 rfl (rn_ldLn (i := k) rfl (he20.op rfl) hrd rfl hx) ?_
      intro a21 he21
      clear he20 a20
      refine lCx he21 rfl rfl Tryd.func65 (by kernel_rfl) rfl rfl (wanted_plain rfl _) rfl (copy_d _ m.1 m.2 (by omega) w10 hxg) ?_
      rintro _ w22 ⟨Ac, cc, rfl, ht⟩
      have hD2 := hD.made ht
      have hH22 := hH10.call ht.new
      replace hrd := hrd.new ht.new
      replace hxg := hxg.new ht.new
      replace hD := hD2
      clear hD2 ht
      refine ⟨_, rfl, ?_⟩
      intro a23 he23
      clear he21 a21 hH10
      refine lSetF 0 #[.slice Ac m.1.length cc, .bool m.2] (cs := #[.slice Ac m.1.length cc, .bool m.2]) he23 hH22 rfl (wanted_plain rfl _) rfl rfl rfl rfl rfl (by kernel_rfl) (by kernel_rfl) (by kernel_rfl) rfl ?_
      intro w24 a25 hH24 hf he25
      replace hD := hD.setb (i := 0) rfl rfl hf
      replace hH24 : Hp (bare w) [⟨p1, 36, #[.slice Ac m.1.length cc, .bool m.2]⟩, ⟨p, 108, #[.slice (some ⟨bb, oo, none⟩) L.length c, .int .i64 pl, .int .i64 gn]⟩] w24 := hH24
      clear hf
      clear he23 a23 hH22
      refine lW (.int .i64 0) he25 rfl (rn_asg rfl (he25.op rfl) w24) ?_
      intro a26 he26
      clear he25 a25
      refine wpList_nil (then_ok ?_)
      refine wp_ret ?_
      try simp only [Exit.then, Exit.inBlock, Exit.noGoto]
      exact ret_rowt rfl he26 rfl rfl (hH24.at (i := 0) rfl) undL rfl infoL2 ⟨Ac, cc, rfl, hD.turned⟩
  have hz : (decide (0 ≤ i) && decide (i < (L.length : Nat))) = false := by rw [← Bool.decide_and]; exact decide_eq_false hi
  refine wp_seq (wp_region_lit ?_)
  refine lW (.pointer (some ⟨p, 0, none⟩)) he7 rfl (rn_mv rfl (he7.op rfl) w5) ?_
  intro a27 he27
  clear he7 a7
  refine lW (.int .i64 i) he27 rfl (rn_mv rfl (he27.op rfl) w5) ?_
  intro a28 he28
  clear he27 a27
  refine lC he28 rfl rfl Tryd.func64 (by kernel_rfl) rfl rfl (wanted_plain rfl _) rfl (has_b _ _ _ _ pl gn w5 (hH5.at (i := 1) rfl) i false hz hD.tab) ?_
  intro w29 a30 hn he30
  have hH29 := hH5.call hn
  replace hD := (hD).new hn
  clear he28 a28 hH5 hn
  refine lW (.bool true) he30 rfl (rn_not (b := false) rfl (he30.op rfl) w29) ?_
  intro a31 he31
  clear he30 a30
  refine lW (.bool true) he31 rfl (rn_asg rfl (he31.op rfl) w29) ?_
  intro a32 he32
  clear he31 a31
  refine wpList_nil (then_ok ?_)
  refine wp_cond_true (he32.op rfl) ?_
  refine wp_seq (wp_region_lit ?_)
  refine lW (.agg #[.slice none 0 0, .bool false]) he32 rfl (rn_bL rfl  w29) ?_
  intro a33 he33
  clear he32 a32
  refine lSetF 0 #[.slice none 0 0, .bool false] (cs := #[.slice none 0 0, .bool false]) he33 hH29 rfl (wanted_plain rfl _) rfl rfl rfl rfl rfl (by kernel_rfl) (by kernel_rfl) (by kernel_rfl) rfl ?_
  intro w34 a35 hH34 hf he35
  replace hD := hD.setb (i := 0) rfl rfl hf
  replace hH34 : Hp (bare w) [⟨p1, 36, #[.slice none 0 0, .bool false]⟩, ⟨p, 108, #[.slice A L.length c, .int .i64 pl, .int .i64 gn]⟩] w34 := hH34
  clear hf
  clear he33 a33 hH29
  refine lW (.int .i64 3) he35 rfl (rn_asg rfl (he35.op rfl) w34) ?_
  intro a36 he36
  clear he35 a35
  refine wpList_nil (then_ok ?_)
  have e_ : getS L i = (zLn, 3) := by unfold getS; rw [if_neg hi]
  rw [e_]
  replace hD := Dt.front (A := []) (B := [cellsD (.slice none 0 0) []]) (D := []) hD (fun G h => SepL.one (d := cellsD _ _) (cells_nil _ _))
  refine wp_ret ?_
  try simp only [Exit.then, Exit.inBlock, Exit.noGoto]
  exact ret_rowt rfl he36 rfl rfl (hH34.at (i := 0) rfl) undL rfl infoL2 ⟨none, 0, rfl, hD.turned⟩
set_option linter.unusedSimpArgs false in
set_option maxRecDepth 100000 in
set_option maxHeartbeats 1600000 in
theorem lines_b (F : FP) (p pl gn : Nat) (L : List Ln)  (w : World) (hs : (shD p L pl gn).P w F) (hT : Tab w) : Calls Tryd.prog 68 #[.pointer (some ⟨p, 0, none⟩)] w fun e w' => ∃ A' c', e = .returned (.slice A' L.length c') ∧ Made [linesD (.slice A' L.length c') L] w w' := by
  obtain ⟨A, c, xs, G, hB, hsep, hG, hFp, hGp, hok⟩ := id hs
  have hpl : ((pl : Int) == 0) = false := by have := hok.1; simp; omega
  have hlen := hok.len
  obtain ⟨F1, F2, hrow, hels, -⟩ := hsep
  have hels2 : (elsD xs L).P w F2 := hels.the
  have hxl : xs.length = L.length := hels2.1
  obtain ⟨bb, hrd, -, -, -⟩ := (show OwnO rL w F1 _ _ from hrow).rdg
  refine calls_args (vl := [.pointer (some ⟨p, 0, none⟩)]) 31 Tryd.func68 rfl Tryd.ntmps68 (by kernel_rfl) (fun a he => ?_)
  have he0 : Env 31 [(0, .pointer (some ⟨p, 0, none⟩))] a := he
  clear he
  have hH := Hp.bare1 hB
  have hD := Dt.read1 hT hB.lt
  refine wp_seq (wp_region_lit ?_)
  refine lW (.slice none 0 0) he0 rfl (rn_asg rfl (he0.op rfl) w) ?_
  intro a1 he1
  clear he0 a
  refine wpList_nil (then_ok ?_)
  refine wp_seq ?_
  refine wp_seq (wp_region_lit ?_)
  refine lW (.pointer (some ⟨p, 0, none⟩)) he1 rfl (rn_mv rfl (he1.op rfl) w) ?_
  intro a2 he2
  clear he1 a1
  refine lC he2 rfl rfl Tryd.func63 (by kernel_rfl) rfl rfl (wanted_plain rfl _) rfl (unmade_f _ _ _ _ pl gn w (hH.at (i := 0) rfl) hpl hD.tab) ?_
  intro w3 a4 hn he4
  have hH3 := hH.call hn
  replace hD := (hD).new hn
  clear he2 a2 hH hn
  refine wpList_nil (then_ok ?_)
  refine wp_cond_false (he4.op rfl) ?_
  refine wp_skip ?_
  refine then_ok ?_
  refine wp_seq (wp_region_lit ?_)
  refine lW (.pointer (some ⟨p, 0, none⟩)) he4 rfl (rn_mv rfl (he4.op rfl) w3) ?_
  intro a5 he5
  clear he4 a4
  refine lW (.pointer (some ⟨p, 0, none⟩)) he5 rfl (rn_nilck rfl (he5.op rfl) w3) ?_
  intro a6 he6
  clear he5 a5
  refine lW (.pointer (some ⟨p, 0, none⟩)) he6 rfl (rn_faS0 rfl (he6.op rfl) rfl w3) ?_
  intro a7 he7
  clear he6 a6
  refine lW (.slice A L.length c) he7 rfl (rn_ldLs rfl (he7.op rfl) (hH3.at (i := 0) rfl) rfl) ?_
  intro a8 he8
  clear he7 a7
  refine lW (.int .i64 L.length) he8 rfl (rn_lenL rfl (he8.op rfl) w3) ?_
  intro a9 he9
  clear he8 a8
  obtain ⟨zn, hzn⟩ : ∃ z, w3.heap.size = z := ⟨_, rfl⟩
  refine lEx he9 rfl rfl (wanted_plain rfl _) (rg_make (R := rL) (c := L.length) zL_ls rfl (he9.op rfl) (he9.op rfl) (by omega)) ?_
  rintro _ w10 ⟨rfl, hn, hO, hsz⟩
  rw [hzn] at hO hsz ⊢
  have ht : Made [rowD (.slice (some ⟨zn, 0, none⟩) L.length L.length) (List.replicate L.length zL), elsD (List.replicate L.length zL) (List.replicate L.length zLn)] w3 w10 := ⟨hn, _, SepL.two (d := rowD _ _) hO (els_zero _ (fun _ => False) _) (fun _ _ h => h), fun k hk => hk.elim (fun h => .inr (by have h2 : k = zn := h; omega)) (fun h => h.elim)⟩
  have hD2 := hD.made ht
  have hH10 := hH3.call hn
  replace hD := hD2
  clear hD2 ht hO
  intro a11 he11
  clear he9 a9 hH3 hn
  have hys : ∃ ys, List.replicate L.length zL = ys := ⟨_, rfl⟩
  obtain ⟨ys, hys⟩ := hys
  rw [hys] at hD
  refine lW (.slice (some ⟨zn, 0, none⟩) L.length L.length) he11 rfl (rn_asg rfl (he11.op rfl) w10) ?_
  intro a12 he12
  clear he11 a11
  refine wpList_nil (then_ok ?_)
  have he13 : Env 31 [(3, .slice (some ⟨zn, 0, none⟩) L.length L.length), (0, .pointer (some ⟨p, 0, none⟩))] a12 := he12.mem ⟨rfl, rfl, trivial⟩
  clear he12
  refine wp_seq ?_
  refine wp_seq (wp_region_lit ?_)
  refine lW (.pointer (some ⟨p, 0, none⟩)) he13 rfl (rn_mv rfl (he13.op rfl) w10) ?_
  intro a14 he14
  clear he13 a12
  refine lW (.pointer (some ⟨p, 0, none⟩)) he14 rfl (rn_nilck rfl (he14.op rfl) w10) ?_
  intro a15 he15
  clear he14 a14
  refine lW (.pointer (some ⟨p, 0, none⟩)) he15 rfl (rn_faS0 rfl (he15.op rfl) rfl w10) ?_
  intro a16 he16
  clear he15 a15
  refine lW (.slice A L.length c) he16 rfl (rn_ldLs rfl (he16.op rfl) (hH10.at (i := 0) rfl) rfl) ?_
  intro a17 he17
  clear he16 a16
  refine lW (.int .i64 L.length) he17 rfl (rn_lenL rfl (he17.op rfl) w10) ?_
  intro a18 he18
  clear he17 a17
  refine lW (.int .i64 0) he18 rfl (rn_mv rfl (he18.op rfl) w10) ?_
  intro a19 he19
  clear he18 a18
  refine wpList_nil (then_ok ?_)
  refine wp_block ?_
  refine loop_nat (fun q a w' => ∃ (k : Nat) (ys_ : List LV), q = L.length - k ∧ k ≤ L.length ∧ Env 31 [(0, .pointer (some ⟨p, 0, none⟩)), (3, .slice (some ⟨zn, 0, none⟩) L.length L.length), (17, .slice A L.length c), (18, .int .i64 L.length), (19, .int .i64 k)] a ∧ Hp (bare w) [⟨p, 108, #[.slice A L.length c, .int .i64 pl, .int .i64 gn]⟩] w' ∧ Dt (bare w) w (fun _ => False) 1 [p] [rowD (.slice (some ⟨zn, 0, none⟩) L.length L.length) ys_, elsD ys_ (L.take k ++ List.replicate (L.length - k) zLn)] w') L.length ⟨0, _, by omega, by omega, he19.mem ⟨rfl, rfl, rfl, rfl, rfl, trivial⟩, hH10, hD⟩ ?_
  clear he19 hH10
  rintro q a20 w20 ⟨k, ys_, rfl, hk, he20, hH20, hD⟩
  by_cases hkn : k < L.length
  · skip
    refine wp_seq (wp_region_lit ?_)
    refine lW (.bool true) he20 rfl (rn_lss rfl (he20.op rfl) (he20.op rfl) (decide_eq_true (by omega)) w20) ?_
    intro a21 he21
    clear he20 a20
    refine wpList_nil (then_ok ?_)
    refine wp_seq ?_
    refine wp_cond_true (he21.op rfl) ?_
    refine wp_skip ?_
    refine then_ok ?_
    obtain ⟨m, hLk⟩ : ∃ m, L[k]? = some m := ⟨_, List.getElem?_eq_getElem hkn⟩
    have hml := hok.cells m (List.mem_of_getElem? hLk)
    obtain ⟨x, hx⟩ : ∃ x, xs[k]? = some x := ⟨_, List.getElem?_eq_getElem (by omega)⟩
    obtain ⟨hxs, hxf⟩ := els_get hels2 hx hLk
    have hxg := SlC.new hxf.sl hD.fr
    obtain ⟨Ax, cx, hxe⟩ := hxg.shape
    clear hxf
    obtain ⟨xa, xn, xc, xz⟩ := x
    simp only [Value.slice.injEq] at hxe hxs
    obtain ⟨rfl, rfl, rfl⟩ := hxe
    subst hxs
    have hrd2 := RdG.new hrd hD.fr
    obtain ⟨oo, eA⟩ := hrd2.base (by omega)
    subst eA
    refine wp_seq ?_
    refine wp_block ?_
    refine wp_seq (wp_region_lit ?_)
    refine lW (.int .i64 k) he21 rfl (rn_mv rfl (he21.op rfl) w20) ?_
    intro a22 he22
    clear he21 a21
    refine lW (.pointer (some ⟨bb, oo + k * 2, none⟩)) he22 rfl (rn_idxL (i := k) rfl (he22.op rfl) (he22.op rfl) (by omega) (by rw [addr_add]) w20) ?_
    intro a23 he23
    clear he22 a22
    refine lW (.agg #[.slice xa m.1.length xc, .bool m.2]) he23 rfl (rn_ldLn (i := k) rfl (he23.op rfl) hrd2 rfl hx) ?_
    intro a24 he24
    clear he23 a23
    refine lNewP (fun p => .pointer (some ⟨p, 0, none⟩)) he24 hH20 rfl rfl (wanted_plain rfl _) (rn_allocL rfl w20) ?_
    intro p25 w25 a26 hp hn hH25 he26
    replace hD := hD.cons hn hp (hH25.at (i := 0) rfl).lt
    replace hrd2 := hrd2.new hn
    replace hxg := hxg.new hn
    clear he24 a24 hH20 hn hp
    refine lW (.int .i64 k) he26 rfl (rn_asg rfl (he26.op rfl) w25) ?_
    intro a27 he27
    clear he26 a26
    refine lSetF 0 #[.slice xa m.1.length xc, .bool m.2] (cs := #[.slice xa m.1.length xc, .bool m.2]) he27 hH25 rfl (wanted_plain rfl _) rfl rfl rfl rfl rfl (by kernel_rfl) (by kernel_rfl) (by kernel_rfl) rfl ?_
    intro w28 a29 hH28 hf he29
    replace hD := hD.setb (i := 0) rfl rfl hf
    replace hH28 : Hp (bare w) [⟨p25, 36, #[.slice xa m.1.length xc, .bool m.2]⟩, ⟨p, 108, #[.slice (some ⟨bb, oo, none⟩) L.length c, .int .i64 pl, .int .i64 gn]⟩] w28 := hH28
    clear hf
    clear he27 a27 hH25
    refine wpList_nil (then_ok ?_)
    have hxg := SlC.new (els_get hels2 hx hLk).2.sl hD.fr
    refine wp_region_lit ?_
    refine lW (.slice (some ⟨zn, 0, none⟩) L.length L.length) he29 rfl (rn_mv rfl (he29.op rfl) w28) ?_
    intro a30 he30
    clear he29 a29
    refine lW (.int .i64 k) he30 rfl (rn_mv rfl (he30.op rfl) w28) ?_
    intro a31 he31
    clear he30 a30
    refine lW (.agg #[.slice xa m.1.length xc, .bool m.2]) he31 rfl (rn_ldp _ rfl (he31.op rfl) undL rfl infoL2 (hH28.at (i := 0) rfl) rfl) ?_
    intro a32 he32
    clear he31 a31
    refine lCx he32 rfl rfl Tryd.func65 (by kernel_rfl) rfl rfl (wanted_plain rfl _) rfl (copy_d _ m.1 m.2 (by omega) w28 hxg) ?_
    rintro _ w33 ⟨Ac, cc, rfl, ht⟩
    have hD2 := hD.made ht
    have hH33 := hH28.call ht.new
    replace hxg := hxg.new ht.new
    replace hD := hD2
    clear hD2 ht
    refine ⟨_, rfl, ?_⟩
    intro a34 he34
    clear he32 a32 hH28
    refine lW (.pointer (some ⟨zn, 0 + k * 2, none⟩)) he34 rfl (rn_idxL (i := k) rfl (he34.op rfl) (he34.op rfl) (by omega) (by rw [addr_add]) w33) ?_
    intro a35 he35
    clear he34 a34
    replace hD := hD.pick 1 rfl
    replace hD := hD.pick 2 rfl
    replace hD := hD.pick 1 rfl
    have hyl : ys_.length = L.length := by obtain ⟨_, h⟩ := hD.get (i := 1) rfl; have h1 := h.1; simp only [List.length_append, List.length_take, List.length_replicate] at h1; omega
    replace hD := hD.pick 2 rfl
    replace hD := hD.pick 2 rfl
    replace hD := hD.pick 2 rfl
    obtain ⟨F_, hsep, hF, hstep⟩ := Dt.step (A := [rowD (.slice (some ⟨zn, 0, none⟩) L.length L.length) ys_, elsD ys_ (L.take k ++ List.replicate (L.length - k) zLn), cellsD (.slice Ac m.1.length cc) m.1]) (D := []) hD
    refine lRow (u := ⟨Ac, m.1.length, cc, m.2⟩) (l := m) (i := k) hsep hF rfl (by omega) he35 rfl (wanted_plain rfl _) rfl rfl rfl ?_
    intro w36 a37 ht he37
    obtain ⟨hD2, hHs⟩ := hstep _ _ ht
    have hH36 := hHs _ rfl hH33
    clear hHs hstep hsep hF hD ht
    have hD := hD2
    clear hD2
    clear he35 a35 hH33
    refine wpList_nil ?_
    refine block_ok ?_
    refine then_ok ?_
    have hH38 := hH36.tail rfl
    clear hH36
    replace hD := hD.tail
    refine wp_region_lit ?_
    refine lW (.int .i64 ((k + 1 : Nat) : Int)) he37 rfl (rn_add1 rfl (he37.op rfl) (he37.op rfl) (by rw [IntWalk.i64_in _ ⟨by omega, by omega⟩]; omega) w36) ?_
    intro a39 he39
    clear he37 a37
    refine lW (.int .i64 ((k + 1 : Nat) : Int)) he39 rfl (rn_mv rfl (he39.op rfl) w36) ?_
    intro a40 he40
    clear he39 a39
    refine wpList_nil (then_ok ?_)
    have e1 : (L.take k ++ List.replicate (L.length - k) zLn).set k m = L.take (k + 1) ++ List.replicate (L.length - (k + 1)) zLn := by
      obtain ⟨h1, h2⟩ := List.getElem?_eq_some_iff.1 hLk
      have h3 : (L.take k).length = k := by rw [List.length_take]; omega
      rw [List.set_append_right _ _ (by omega), h3, Nat.sub_self, show L.length - k = (L.length - (k + 1)) + 1 by omega, List.replicate_succ, List.set_cons_zero, List.take_succ_eq_append_getElem h1, h2]; simp
    rw [e1] at hD
    refine ⟨L.length - (k + 1), by omega, k + 1, _, rfl, by omega, he40.mem ⟨rfl, rfl, rfl, rfl, rfl, trivial⟩, hH38, hD⟩
  refine wp_seq (wp_region_lit ?_)
  refine lW (.bool false) he20 rfl (rn_lss rfl (he20.op rfl) (he20.op rfl) (decide_eq_false (by omega)) w20) ?_
  intro a41 he41
  clear he20 a20
  refine wpList_nil (then_ok ?_)
  refine wp_seq ?_
  refine wp_cond_false (he41.op rfl) ?_
  refine wp_exit ?_
  simp only [Exit.then, Exit.inBlock, if_true]
  have e1 : L.take k ++ List.replicate (L.length - k) zLn = L := by rw [List.take_of_length_le (by omega), show L.length - k = 0 by omega]; simp
  rw [e1] at hD
  replace hD := Dt.front (A := [rowD (.slice (some ⟨zn, 0, none⟩) L.length L.length) ys_, elsD ys_ L]) (B := [linesD (.slice (some ⟨zn, 0, none⟩) L.length L.length) L]) (D := []) hD (fun G h => lines_shut h)
  refine wp_seq (wp_region_lit ?_)
  refine lW (.slice (some ⟨zn, 0, none⟩) L.length L.length) he41 rfl (rn_mv rfl (he41.op rfl) w20) ?_
  intro a42 he42
  clear he41 a41
  refine lW (.slice (some ⟨zn, 0, none⟩) L.length L.length) he42 rfl (rn_asg rfl (he42.op rfl) w20) ?_
  intro a43 he43
  clear he42 a42
  refine wpList_nil (then_ok ?_)
  refine wp_ret ?_
  try simp only [Exit.then, Exit.inBlock, Exit.noGoto]
  exact ret_env rfl he43 rfl ⟨_, _, rfl, hD.turned⟩
set_option linter.unusedSimpArgs false in
set_option maxRecDepth 100000 in
set_option maxHeartbeats 1600000 in
theorem copy_b (F : FP) (p pl gn : Nat) (L : List Ln)  (w : World) (hs : (shD p L pl gn).P w F) (hT : Tab w) : Calls Tryd.prog 55 #[.pointer (some ⟨p, 0, none⟩)] w fun e w' => ∃ q, e = .returned (.pointer (some ⟨q, 0, none⟩)) ∧ Made [shD q L pl gn] w w' := by
  obtain ⟨A, c, xs, G, hB, hsep, hG, hFp, hGp, hok⟩ := id hs
  have hpl : ((pl : Int) == 0) = false := by have := hok.1; simp; omega
  have hlen := hok.len
  refine calls_args (vl := [.pointer (some ⟨p, 0, none⟩)]) 17 Tryd.func55 rfl Tryd.ntmps55 (by kernel_rfl) (fun a he => ?_)
  have he0 : Env 17 [(0, .pointer (some ⟨p, 0, none⟩))] a := he
  clear he
  have hH := Hp.bare1 hB
  have hD := Dt.read1 hT hB.lt
  refine wp_seq (wp_region_lit ?_)
  refine lW (.pointer none) he0 rfl (rn_asg rfl (he0.op rfl) w) ?_
  intro a1 he1
  clear he0 a
  refine wpList_nil (then_ok ?_)
  refine wp_seq ?_
  refine wp_seq (wp_region_lit ?_)
  refine lW (.pointer (some ⟨p, 0, none⟩)) he1 rfl (rn_mv rfl (he1.op rfl) w) ?_
  intro a2 he2
  clear he1 a1
  refine lC he2 rfl rfl Tryd.func63 (by kernel_rfl) rfl rfl (wanted_plain rfl _) rfl (unmade_f _ _ _ _ pl gn w (hH.at (i := 0) rfl) hpl hD.tab) ?_
  intro w3 a4 hn he4
  have hH3 := hH.call hn
  replace hD := (hD).new hn
  replace hs := (shD _ _ _ _).fr hs hn (fun _ _ h => h)
  clear he2 a2 hH hn
  refine wpList_nil (then_ok ?_)
  refine wp_cond_false (he4.op rfl) ?_
  refine wp_skip ?_
  refine then_ok ?_
  refine wp_seq ?_
  refine wp_region_held_drew (S := Hp (bare w) [⟨p, 108, #[.slice A L.length c, .int .i64 pl, .int .i64 gn]⟩]) (by kernel_rfl) (hH3.drew) (fun _ => ?_)
  have hn : New w3 (World.drew w3) := (Fr.refl _ _).drew
  replace hD := (hD).new hn
  replace hs := (shD _ _ _ _).fr hs hn (fun _ _ h => h)
  clear hn
  have hH5 := hH3.drew
  clear hH3
  generalize World.drew w3 = w5 at *
  refine hW (fuel := 12) (i := 0) (.pointer (some ⟨p, 0, none⟩)) he4 rfl (by kernel_rfl) (fun _ _ _ h => h) (fun w' _ => rn_mv rfl (he4.op rfl) w') hH5 ?_
  intro a6 he6
  clear he4 a4
  refine hW (fuel := 11) (i := 2) (.pointer (some ⟨p, 0, none⟩)) he6 rfl (by kernel_rfl) (fun _ _ _ h => h) (fun w' _ => rn_mv rfl (he6.op rfl) w') hH5 ?_
  intro a7 he7
  clear he6 a6
  refine hW (fuel := 10) (i := 3) (.pointer (some ⟨p, 0, none⟩)) he7 rfl (by kernel_rfl) (fun _ _ _ h => h) (fun w' _ => rn_nilck rfl (he7.op rfl) w') hH5 ?_
  intro a8 he8
  clear he7 a7
  refine hW (fuel := 9) (i := 4) (.pointer (some ⟨p, 1, none⟩)) he8 rfl (by kernel_rfl) (fun _ _ _ h => h) (fun w' _ => rn_faS1 rfl (he8.op rfl) rfl w') hH5 ?_
  intro a9 he9
  clear he8 a8
  refine hW (fuel := 8) (i := 5) (.int .i64 pl) he9 rfl (by kernel_rfl) (fun _ _ _ h => h) (fun w' hw' => rn_ld1 rfl (he9.op rfl) Tryd.underlying3 (hw'.at (i := 0) rfl) rfl) hH5 ?_
  intro a10 he10
  clear he9 a9
  refine hW (fuel := 7) (i := 6) (.pointer (some ⟨p, 0, none⟩)) he10 rfl (by kernel_rfl) (fun _ _ _ h => h) (fun w' _ => rn_mv rfl (he10.op rfl) w') hH5 ?_
  intro a11 he11
  clear he10 a10
  refine hW (fuel := 6) (i := 7) (.pointer (some ⟨p, 0, none⟩)) he11 rfl (by kernel_rfl) (fun _ _ _ h => h) (fun w' _ => rn_nilck rfl (he11.op rfl) w') hH5 ?_
  intro a12 he12
  clear he11 a11
  refine hW (fuel := 5) (i := 8) (.pointer (some ⟨p, 2, none⟩)) he12 rfl (by kernel_rfl) (fun _ _ _ h => h) (fun w' _ => rn_faS2 rfl (he12.op rfl) rfl w') hH5 ?_
  intro a13 he13
  clear he12 a12
  refine hW (fuel := 4) (i := 9) (.int .i64 gn) he13 rfl (by kernel_rfl) (fun _ _ _ h => h) (fun w' hw' => rn_ld1 rfl (he13.op rfl) Tryd.underlying3 (hw'.at (i := 0) rfl) rfl) hH5 ?_
  intro a14 he14
  clear he13 a13
  refine hC (fuel := 3) (i := 1) he14 (by kernel_rfl) rfl rfl rfl Tryd.func68 (by kernel_rfl) rfl rfl (wanted_plain rfl _) rfl (lines_b F p pl gn L w5 hs hD.tab) ?_
  rintro _ w15 ⟨A2, c2, rfl, ht⟩
  have hD2 := hD.made ht
  have hH15 := hH5.call ht.new
  replace hD := hD2
  clear hD2 ht
  refine ⟨_, rfl, hH15, ?_⟩
  intro a16 he16
  clear he14 a14 hH5
  refine hW (fuel := 2) (i := 10) (.agg #[.slice A2 L.length c2, .int .i64 pl, .int .i64 gn]) he16 rfl (by kernel_rfl) (fun _ _ _ h => h) (fun w' _ => rn_bS012 rfl (he16.op rfl) (he16.op rfl) (he16.op rfl) w') hH15 ?_
  intro a17 he17
  clear he16 a16
  refine hNewP (fuel := 1) (i := 11) (fun p => .pointer (some ⟨p, 0, none⟩)) he17 hH15 (by kernel_rfl) rfl rfl rfl (wanted_plain rfl _) (rn_boxS rfl (he17.op rfl) w15) ?_
  intro p18 w18 a19 hp hn hH18 he19
  replace hD := hD.cons hn hp (hH18.at (i := 0) rfl).lt
  refine ⟨(hH18.drop1 0 rfl), ?_⟩
  clear he17 a17 hH15 hn hp
  refine hW (fuel := 0) (i := 12) (.pointer (some ⟨p18, 0, none⟩)) he19 rfl (by kernel_rfl) (fun _ _ _ h => h) (fun w' _ => rn_asg rfl (he19.op rfl) w') (hH18.drop1 0 rfl) ?_
  intro a20 he20
  clear he19 a19
  refine wpAnyH_done (by kernel_rfl) ?_ _
  refine then_ok ?_
  obtain ⟨ys, hD3⟩ := Dt.lines hD
  have hsh := sh_shut (ps := [p18, p]) hD3 (by simp) (hD3.wr 0 _ rfl (by simp)) (hH18.at (i := 0) rfl) hok
  refine wp_ret ?_
  try simp only [Exit.then, Exit.inBlock, Exit.noGoto]
  exact ret_env rfl he20 rfl ⟨_, rfl, hsh⟩
theorem lenS_b (F : FP) (p pl gn : Nat) (L : List Ln)  (w : World) (hs : (shD p L pl gn).P w F) (hT : Tab w) : Calls Tryd.prog 48 #[.pointer (some ⟨p, 0, none⟩)] w fun e w' => e = .returned (.int .i64 L.length) ∧ New w w' := by
  obtain ⟨A, c, xs, G, hB, hsep, hG, hFp, hGp, hok⟩ := id hs
  have hpl : ((pl : Int) == 0) = false := by have := hok.1; simp; omega
  have hlen := hok.len
  exact len_b _ _ _ _ pl gn w hB hpl hT
theorem goneS_b (F : FP) (p pl gn : Nat) (L : List Ln)  (w : World) (hs : (shD p L pl gn).P w F) (hT : Tab w) : Calls Tryd.prog 62 #[.pointer (some ⟨p, 0, none⟩)] w fun e w' => e = .returned (.int .i64 gn) ∧ New w w' := by
  obtain ⟨A, c, xs, G, hB, hsep, hG, hFp, hGp, hok⟩ := id hs
  have hpl : ((pl : Int) == 0) = false := by have := hok.1; simp; omega
  have hlen := hok.len
  exact gone_b _ _ _ _ pl gn w hB hpl hT
end Go.Proofs.YtlpjhaghphmbeaaDoor
