/-
  The specification's Parse.
-/
import Derived.Test.YtpebpjkhkgakfaaDoorPText
namespace Go.Proofs.YtpebpjkhkgakfaaDoor
open Go.RowKit

theorem take_min {α : Type} (l : List α) : l.take (min l.length 16) = l.take 16 := by
  rcases Nat.le_total l.length 16 with h | h
  · rw [List.take_of_length_le (by omega), List.take_of_length_le (by omega)]
  · rw [show min l.length 16 = 16 by omega]
set_option linter.unusedSimpArgs false in
set_option maxRecDepth 100000 in
set_option maxHeartbeats 1600000 in
theorem RParse_yes (s : List UInt8) (hf : ∀ c ∈ s, fine c) (hs : s.length ≤ 100000) (w : World) : Calls Tryd.prog 18 #[.string (bs s)] w fun e w' => ∃ A c b, e = .returned (.tuple #[.slice A (lst s).length c, .bool true]) ∧ Rd w' b A (lst s).length (ivs (lst s)) ∧ New w w' := by
  refine calls_args (vl := [Value.string (bs s)]) 54 Tryd.func18 rfl Tryd.ntmps18 (by kernel_rfl) (fun a he => ?_)
  have he0 : Env 54 [(0, Value.string (bs s))] a := he
  clear he
  have hH := Hp.start w
  refine wp_seq ?_
  refine wp_region_lit ?_
  refine lV (Value.slice none 0 0) he0 rfl rfl (wanted_plain rfl _) (rn_asg rfl (he0.op rfl) w) ?_
  intro a1 he1
  clear he0 a
  refine lV (Value.bool false) he1 rfl rfl (wanted_plain rfl _) (rn_asg rfl (he1.op rfl) w) ?_
  intro a2 he2
  clear he1 a1
  refine wpList_nil ?_
  refine then_ok ?_
  refine wp_seq ?_
  refine wp_seq ?_
  refine wp_region_lit ?_
  refine lV (Value.int .i64 0) he2 rfl rfl (wanted_plain rfl _) (rn_asg rfl (he2.op rfl) w) ?_
  intro a3 he3
  clear he2 a2
  refine wpList_nil ?_
  refine then_ok ?_
  refine wp_block ?_
  refine loop_nat (fun q a w' => ∃ (i : Nat), q = s.length - i ∧ i ≤ s.length ∧ (∀ c ∈ s.take i, fine c) ∧ Env 54 [(4, Value.int .i64 (i : Int)), (0, Value.string (bs s))] a ∧ Hp w [] w') _ ⟨0, rfl, Nat.zero_le _, (fun n hn => by simp at hn), he3.mem ⟨rfl, rfl, trivial⟩, hH⟩ ?_
  clear he3 hH
  rintro q a4 w4 ⟨i, rfl, hi, hfi, he4, hH4⟩
  refine wp_seq ?_
  refine wp_seq ?_
  refine wp_region_lit ?_
  refine lV (Value.int .i64 (i : Int)) he4 rfl rfl (wanted_plain rfl _) (rn_mv rfl (he4.op rfl) w4) ?_
  intro a5 he5
  clear he4 a4
  refine lV (Value.string (bs s)) he5 rfl rfl (wanted_plain rfl _) (rn_mv rfl (he5.op rfl) w4) ?_
  intro a6 he6
  clear he5 a5
  refine lV (Value.int .i64 ((s.length : Nat) : Int)) he6 rfl rfl (wanted_plain rfl _) (rn_lenS rfl (he6.op rfl) w4) ?_
  intro a7 he7
  clear he6 a6
  by_cases hb0 : (i : Int) < ((s.length : Nat) : Int)
  · skip
    refine lV (Value.bool true) he7 rfl rfl (wanted_plain rfl _) (rn_lsI rfl (he7.op rfl) (he7.op rfl) (decide_eq_true hb0) w4) ?_
    intro a8 he8
    clear he7 a7
    refine wpList_nil ?_
    refine then_ok ?_
    refine wp_cond_true (he8.op rfl) ?_
    refine wp_skip ?_
    refine then_ok ?_
    refine wp_seq ?_
    refine wp_block ?_
    refine wp_seq ?_
    have hc8 := UInt8.toNat_lt (s.getD i 0)
    change _ < 256 at hc8
    have hfc := hf _ (getD_mem (l := s) (i := i) (d := 0) (by omega))
    refine wp_region_lit ?_
    refine lV (Value.string (bs s)) he8 rfl rfl (wanted_plain rfl _) (rn_mv rfl (he8.op rfl) w4) ?_
    intro a9 he9
    clear he8 a8
    refine lV (Value.int .i64 (i : Int)) he9 rfl rfl (wanted_plain rfl _) (rn_mv rfl (he9.op rfl) w4) ?_
    intro a10 he10
    clear he9 a9
    refine lV (Value.int .u8 ((s.getD i 0).toNat : Int)) he10 rfl rfl (wanted_plain rfl _) (rn_ixS (k := i) rfl (he10.op rfl) (he10.op rfl) (getD_at (by omega)) w4) ?_
    intro a11 he11
    clear he10 a10
    refine lV (Value.int .i32 ((s.getD i 0).toNat : Int)) he11 rfl rfl (wanted_plain rfl _) (rn_cvUR rfl (he11.op rfl) (i32w (by omega) (by omega)) w4) ?_
    intro a12 he12
    clear he11 a11
    refine lC he12 rfl rfl Tryd.func22 (by kernel_rfl) rfl rfl (wanted_plain rfl _) rfl (Fine_c ((s.getD i 0).toNat : Int) true (decide_eq_true (by have := hf _ (getD_mem (l := s) (i := i) (d := 0) (by omega)); omega)) w4) ?_
    intro w13 a14 hn he14
    have hH13 := hH4.call hn
    clear he12 a12 hH4 hn
    refine lV (Value.bool false) he14 rfl rfl (wanted_plain rfl _) (rn_not (b := true) rfl (he14.op rfl) w13) ?_
    intro a15 he15
    clear he14 a14
    refine wpList_nil ?_
    refine then_ok ?_
    refine wp_cond_false (he15.op rfl) ?_
    refine wp_skip ?_
    refine block_ok ?_
    refine then_ok ?_
    refine wp_region_lit ?_
    refine lV (Value.int .i64 (i : Int)) he15 rfl rfl (wanted_plain rfl _) (rn_mv rfl (he15.op rfl) w13) ?_
    intro a16 he16
    clear he15 a15
    refine lV (Value.int .i64 ((i + 1 : Nat) : Int)) he16 rfl rfl (wanted_plain rfl _) (rn_addI rfl (he16.op rfl) (he16.op rfl) (by rw [i64w (by omega) (by omega)]; omega) w13) ?_
    intro a17 he17
    clear he16 a16
    refine lV (Value.int .i64 ((i + 1 : Nat) : Int)) he17 rfl rfl (wanted_plain rfl _) (rn_asg rfl (he17.op rfl) w13) ?_
    intro a18 he18
    clear he17 a17
    refine wpList_nil ?_
    refine then_ok ?_
    exact ⟨s.length - (i + 1), by omega, i + 1, rfl, by omega, fine_take hfi (getD_at (d := 0) (by omega)) (by omega), he18.mem ⟨rfl, rfl, trivial⟩, hH13⟩
  · skip
    refine lV (Value.bool false) he7 rfl rfl (wanted_plain rfl _) (rn_lsI rfl (he7.op rfl) (he7.op rfl) (decide_eq_false hb0) w4) ?_
    intro a8 he8
    clear he7 a7
    refine wpList_nil ?_
    refine then_ok ?_
    refine wp_cond_false (he8.op rfl) ?_
    refine wp_exit ?_
    refine then_exit ?_
    refine then_exit ?_
    refine block_exit ?_
    refine then_ok ?_
    refine wp_seq ?_
    refine wp_seq ?_
    refine wp_region_lit ?_
    refine lV (Value.string (bs s)) he8 rfl rfl (wanted_plain rfl _) (rn_mv rfl (he8.op rfl) w4) ?_
    intro a9 he9
    clear he8 a8
    by_cases hb1 : s = ([] : List UInt8)
    · skip
      refine lV (Value.bool true) he9 rfl rfl (wanted_plain rfl _) (rn_eqS (a := s) (c := ([] : List UInt8)) rfl (he9.op rfl) (he9.op rfl) (decide_eq_true hb1) w4) ?_
      intro a10 he10
      clear he9 a9
      refine wpList_nil ?_
      refine then_ok ?_
      refine wp_cond_true (he10.op rfl) ?_
      refine wp_seq ?_
      refine wp_region_lit ?_
      refine lV (Value.slice none 0 0) he10 rfl rfl (wanted_plain rfl _) (rn_asg rfl (he10.op rfl) w4) ?_
      intro a11 he11
      clear he10 a10
      refine lV (Value.bool true) he11 rfl rfl (wanted_plain rfl _) (rn_asg rfl (he11.op rfl) w4) ?_
      intro a12 he12
      clear he11 a11
      refine wpList_nil ?_
      refine then_ok ?_
      refine wp_ret ?_
      try simp only [Exit.then, Exit.inBlock, Exit.noGoto]
      exact ret_tt rfl he12 rfl rfl (by have he := hb1; subst he; exact ⟨none, 0, 0, rfl, Rd.nil _ _ _, hH4.new⟩)
    · skip
      refine lV (Value.bool false) he9 rfl rfl (wanted_plain rfl _) (rn_eqS (a := s) (c := ([] : List UInt8)) rfl (he9.op rfl) (he9.op rfl) (decide_eq_false hb1) w4) ?_
      intro a10 he10
      clear he9 a9
      refine wpList_nil ?_
      refine then_ok ?_
      refine wp_cond_false (he10.op rfl) ?_
      refine wp_skip ?_
      refine then_ok ?_
      refine wp_seq ?_
      refine wp_region_lit ?_
      refine lV (Value.slice none 0 0) he10 rfl rfl (wanted_plain rfl _) (rn_asg rfl (he10.op rfl) w4) ?_
      intro a11 he11
      clear he10 a10
      refine wpList_nil ?_
      refine then_ok ?_
      refine wp_seq ?_
      refine wp_region_lit ?_
      refine lV (Value.string { data := #[] }) he11 rfl rfl (wanted_plain rfl _) (rn_asg rfl (he11.op rfl) w4) ?_
      intro a12 he12
      clear he11 a11
      refine wpList_nil ?_
      refine then_ok ?_
      refine wp_seq ?_
      refine wp_seq ?_
      refine wp_region_lit ?_
      refine lV (Value.int .i64 0) he12 rfl rfl (wanted_plain rfl _) (rn_asg rfl (he12.op rfl) w4) ?_
      intro a13 he13
      clear he12 a12
      refine wpList_nil ?_
      refine then_ok ?_
      refine wp_block ?_
      have hown := own_nil w4 w.heap.size 3
      refine loop_nat (fun q a w' => ∃ (j : Nat) (out : List Int) (part : List UInt8) (v : Value), q = s.length - j ∧ j ≤ s.length ∧ nz (say (s.take j)) = out ++ [num part] ∧ (∀ c ∈ part, 48 ≤ c.toNat ∧ c.toNat ≤ 57) ∧ part.length ≤ j ∧ out.length ≤ j ∧ Env 54 [(7, Value.int .i64 (j : Int)), (6, Value.string (bs part)), (5, v), (0, Value.string (bs s))] a ∧ Hp w [] w' ∧ w'.ownsRow w.heap.size 3 1 v out.length (ivs out)) _ ⟨0, [], [], .slice none 0 0, rfl, Nat.zero_le _, rfl, (fun c hc => by cases hc), Nat.le_refl _, Nat.le_refl _, he13.mem ⟨rfl, rfl, rfl, rfl, trivial⟩, hH4, hown⟩ ?_
      clear he13 hH4
      rintro q a14 w14 ⟨j, out, part, v, rfl, hi, hsay, hpd, hpl, hol, he14, hH14, hown⟩
      refine wp_seq ?_
      refine wp_seq ?_
      refine wp_region_lit ?_
      refine lV (Value.int .i64 (j : Int)) he14 rfl rfl (wanted_plain rfl _) (rn_mv rfl (he14.op rfl) w14) ?_
      intro a15 he15
      clear he14 a14
      refine lV (Value.string (bs s)) he15 rfl rfl (wanted_plain rfl _) (rn_mv rfl (he15.op rfl) w14) ?_
      intro a16 he16
      clear he15 a15
      refine lV (Value.int .i64 ((s.length : Nat) : Int)) he16 rfl rfl (wanted_plain rfl _) (rn_lenS rfl (he16.op rfl) w14) ?_
      intro a17 he17
      clear he16 a16
      by_cases hb2 : (j : Int) < ((s.length : Nat) : Int)
      · skip
        refine lV (Value.bool true) he17 rfl rfl (wanted_plain rfl _) (rn_lsI rfl (he17.op rfl) (he17.op rfl) (decide_eq_true hb2) w14) ?_
        intro a18 he18
        clear he17 a17
        refine wpList_nil ?_
        refine then_ok ?_
        refine wp_cond_true (he18.op rfl) ?_
        refine wp_skip ?_
        refine then_ok ?_
        refine wp_seq ?_
        refine wp_block ?_
        refine wp_seq ?_
        have hfc := hf _ (getD_mem (l := s) (i := j) (d := 0) (by omega))
        refine wp_region_lit ?_
        refine lV (Value.string (bs s)) he18 rfl rfl (wanted_plain rfl _) (rn_mv rfl (he18.op rfl) w14) ?_
        intro a19 he19
        clear he18 a18
        refine lV (Value.int .i64 (j : Int)) he19 rfl rfl (wanted_plain rfl _) (rn_mv rfl (he19.op rfl) w14) ?_
        intro a20 he20
        clear he19 a19
        refine lV (Value.int .u8 ((s.getD j 0).toNat : Int)) he20 rfl rfl (wanted_plain rfl _) (rn_ixS (k := j) rfl (he20.op rfl) (he20.op rfl) (getD_at (by omega)) w14) ?_
        intro a21 he21
        clear he20 a20
        by_cases hb3 : ((s.getD j 0).toNat : Int) = 59
        · skip
          refine lV (Value.bool true) he21 rfl rfl (wanted_plain rfl _) (rn_eqU rfl (he21.op rfl) (he21.op rfl) (beqT hb3) w14) ?_
          intro a22 he22
          clear he21 a21
          refine wpList_nil ?_
          refine then_ok ?_
          refine wp_cond_true (he22.op rfl) ?_
          refine wp_seq ?_
          refine wp_region_lit ?_
          refine lV (v) he22 rfl rfl (wanted_plain rfl _) (rn_mv rfl (he22.op rfl) w14) ?_
          intro a23 he23
          clear he22 a22
          refine lV (Value.string (bs part)) he23 rfl rfl (wanted_plain rfl _) (rn_mv rfl (he23.op rfl) w14) ?_
          intro a24 he24
          clear he23 a23
          refine lC he24 rfl rfl Tryd.func30 (by kernel_rfl) rfl rfl (wanted_plain rfl _) rfl (number_c part hpd (by omega) w14) ?_
          intro w25 a26 hn he26
          have hH25 := hH14.call hn
          replace hown := own_fr hown hn (fun _ _ h => h)
          clear he24 a24 hH14 hn
          refine lNewP (fun p => .slice (some ⟨p, 0, none⟩) 1 1) he26 hH25 rfl rfl (wanted_plain rfl _) (rn_bsJ1 rfl (he26.op rfl) w25) ?_
          intro p27 w27 a28 hp hn hH27 he28
          replace hown := own_fr hown hn (fun _ _ h => h)
          clear he26 a26 hH25 hn hp
          refine lEx he28 rfl rfl (wanted_plain rfl _) (rx_appJ hown (rd_own (l := [num part]) (hH27.at (i := 0) rfl)) rfl (he28.op rfl) (he28.op rfl) (by simp only [List.length_cons, List.length_nil]; omega) hH27.new.size) ?_
          rintro v29 w29 ⟨ho_, hg_⟩
          have hH29 : Hp w [] w29 := (hH27.tail rfl).grown hg_ (own_lo hown)
          replace hown : World.ownsRow w29 w.heap.size 3 1 v29 (out.length + 1) (ivs (out ++ [num part])) := ho_
          intro a30 he30
          clear he28 a28 hH27 hg_
          refine lV (v29) he30 rfl rfl (wanted_plain rfl _) (rn_asg rfl (he30.op rfl) w29) ?_
          intro a31 he31
          clear he30 a30
          refine wpList_nil ?_
          refine then_ok ?_
          refine wp_region_lit ?_
          refine lV (Value.string { data := #[] }) he31 rfl rfl (wanted_plain rfl _) (rn_asg rfl (he31.op rfl) w29) ?_
          intro a32 he32
          clear he31 a31
          refine wpList_nil ?_
          refine block_ok ?_
          refine then_ok ?_
          refine wp_region_lit ?_
          refine lV (Value.int .i64 (j : Int)) he32 rfl rfl (wanted_plain rfl _) (rn_mv rfl (he32.op rfl) w29) ?_
          intro a33 he33
          clear he32 a32
          refine lV (Value.int .i64 ((j + 1 : Nat) : Int)) he33 rfl rfl (wanted_plain rfl _) (rn_addI rfl (he33.op rfl) (he33.op rfl) (by rw [i64w (by omega) (by omega)]; omega) w29) ?_
          intro a34 he34
          clear he33 a33
          refine lV (Value.int .i64 ((j + 1 : Nat) : Int)) he34 rfl rfl (wanted_plain rfl _) (rn_asg rfl (he34.op rfl) w29) ?_
          intro a35 he35
          clear he34 a34
          refine wpList_nil ?_
          refine then_ok ?_
          exact ⟨s.length - (j + 1), by omega, j + 1, (out ++ [num part]), [], v29, rfl, by omega, (by rw [take_snoc (getD_at (d := 0) (by omega))]; exact say_next hsay (by omega)), (fun c hc => by cases hc), (by first | omega | (simp only [List.length_append, List.length_cons, List.length_nil]; omega)), (by first | omega | (simp only [List.length_append, List.length_cons, List.length_nil]; omega)), he35.mem ⟨rfl, rfl, rfl, rfl, trivial⟩, hH29, (by rw [List.length_append]; exact hown)⟩
        · skip
          refine lV (Value.bool false) he21 rfl rfl (wanted_plain rfl _) (rn_eqU rfl (he21.op rfl) (he21.op rfl) (beqF hb3) w14) ?_
          intro a22 he22
          clear he21 a21
          refine wpList_nil ?_
          refine then_ok ?_
          refine wp_cond_false (he22.op rfl) ?_
          refine wp_region_lit ?_
          refine lV (Value.string (bs part)) he22 rfl rfl (wanted_plain rfl _) (rn_mv rfl (he22.op rfl) w14) ?_
          intro a23 he23
          clear he22 a22
          refine lV (Value.string (bs s)) he23 rfl rfl (wanted_plain rfl _) (rn_mv rfl (he23.op rfl) w14) ?_
          intro a24 he24
          clear he23 a23
          refine lV (Value.int .i64 (j : Int)) he24 rfl rfl (wanted_plain rfl _) (rn_mv rfl (he24.op rfl) w14) ?_
          intro a25 he25
          clear he24 a24
          refine lV (Value.int .i64 (j : Int)) he25 rfl rfl (wanted_plain rfl _) (rn_mv rfl (he25.op rfl) w14) ?_
          intro a26 he26
          clear he25 a25
          refine lV (Value.int .i64 ((j + 1 : Nat) : Int)) he26 rfl rfl (wanted_plain rfl _) (rn_addI rfl (he26.op rfl) (he26.op rfl) (by rw [i64w (by omega) (by omega)]; omega) w14) ?_
          intro a27 he27
          clear he26 a26
          refine lV (Value.string (bs [(s.getD j 0)])) he27 rfl rfl (wanted_plain rfl _) (rn_cut1 (i := j) rfl (he27.op rfl) (he27.op rfl) (he27.op rfl) rfl rfl (by omega) w14) ?_
          intro a28 he28
          clear he27 a27
          refine lV (Value.string (bs (part ++ [(s.getD j 0)]))) he28 rfl rfl (wanted_plain rfl _) (rn_addS (a := part) (c := [(s.getD j 0)]) rfl (he28.op rfl) (he28.op rfl) (by first | decide | omega | (simp only [List.length_append, List.length_cons, List.length_nil]; omega)) rfl w14) ?_
          intro a29 he29
          clear he28 a28
          refine lV (Value.string (bs (part ++ [(s.getD j 0)]))) he29 rfl rfl (wanted_plain rfl _) (rn_asg rfl (he29.op rfl) w14) ?_
          intro a30 he30
          clear he29 a29
          refine wpList_nil ?_
          refine block_ok ?_
          refine then_ok ?_
          refine wp_region_lit ?_
          refine lV (Value.int .i64 (j : Int)) he30 rfl rfl (wanted_plain rfl _) (rn_mv rfl (he30.op rfl) w14) ?_
          intro a31 he31
          clear he30 a30
          refine lV (Value.int .i64 ((j + 1 : Nat) : Int)) he31 rfl rfl (wanted_plain rfl _) (rn_addI rfl (he31.op rfl) (he31.op rfl) (by rw [i64w (by omega) (by omega)]; omega) w14) ?_
          intro a32 he32
          clear he31 a31
          refine lV (Value.int .i64 ((j + 1 : Nat) : Int)) he32 rfl rfl (wanted_plain rfl _) (rn_asg rfl (he32.op rfl) w14) ?_
          intro a33 he33
          clear he32 a32
          refine wpList_nil ?_
          refine then_ok ?_
          exact ⟨s.length - (j + 1), by omega, j + 1, out, (part ++ [s.getD j 0]), v, rfl, by omega, (by rw [take_snoc (getD_at (d := 0) (by omega))]; exact say_part hsay (by omega)), (fun c hc => by rcases List.mem_append.1 hc with hc | hc; exact hpd c hc; simp only [List.mem_singleton] at hc; subst hc; omega), (by first | omega | (simp only [List.length_append, List.length_cons, List.length_nil]; omega)), (by first | omega | (simp only [List.length_append, List.length_cons, List.length_nil]; omega)), he33.mem ⟨rfl, rfl, rfl, rfl, trivial⟩, hH14, hown⟩
      · skip
        refine lV (Value.bool false) he17 rfl rfl (wanted_plain rfl _) (rn_lsI rfl (he17.op rfl) (he17.op rfl) (decide_eq_false hb2) w14) ?_
        intro a18 he18
        clear he17 a17
        refine wpList_nil ?_
        refine then_ok ?_
        refine wp_cond_false (he18.op rfl) ?_
        refine wp_exit ?_
        refine then_exit ?_
        refine then_exit ?_
        refine block_exit ?_
        refine then_ok ?_
        refine wp_seq ?_
        refine wp_region_lit ?_
        refine lV (v) he18 rfl rfl (wanted_plain rfl _) (rn_mv rfl (he18.op rfl) w14) ?_
        intro a19 he19
        clear he18 a18
        refine lV (Value.string (bs part)) he19 rfl rfl (wanted_plain rfl _) (rn_mv rfl (he19.op rfl) w14) ?_
        intro a20 he20
        clear he19 a19
        refine lC he20 rfl rfl Tryd.func30 (by kernel_rfl) rfl rfl (wanted_plain rfl _) rfl (number_c part hpd (by omega) w14) ?_
        intro w21 a22 hn he22
        have hH21 := hH14.call hn
        replace hown := own_fr hown hn (fun _ _ h => h)
        clear he20 a20 hH14 hn
        refine lNewP (fun p => .slice (some ⟨p, 0, none⟩) 1 1) he22 hH21 rfl rfl (wanted_plain rfl _) (rn_bsJ1 rfl (he22.op rfl) w21) ?_
        intro p23 w23 a24 hp hn hH23 he24
        replace hown := own_fr hown hn (fun _ _ h => h)
        clear he22 a22 hH21 hn hp
        refine lEx he24 rfl rfl (wanted_plain rfl _) (rx_appJ hown (rd_own (l := [num part]) (hH23.at (i := 0) rfl)) rfl (he24.op rfl) (he24.op rfl) (by simp only [List.length_cons, List.length_nil]; omega) hH23.new.size) ?_
        rintro v25 w25 ⟨ho_, hg_⟩
        have hH25 : Hp w [] w25 := (hH23.tail rfl).grown hg_ (own_lo hown)
        replace hown : World.ownsRow w25 w.heap.size 3 1 v25 (out.length + 1) (ivs (out ++ [num part])) := ho_
        intro a26 he26
        clear he24 a24 hH23 hg_
        refine lV (v25) he26 rfl rfl (wanted_plain rfl _) (rn_asg rfl (he26.op rfl) w25) ?_
        intro a27 he27
        clear he26 a26
        refine wpList_nil ?_
        refine then_ok ?_
        refine wp_seq ?_
        have he28 : Env 54 [(5, v25), (0, Value.string (bs s))] a27 := he27.mem ⟨rfl, rfl, trivial⟩
        clear he27
        obtain ⟨A29, c29, rfl, hnc, -⟩ := own_slice hown
        replace he28 : Env 54 [(5, Value.slice A29 (out.length + 1) c29), (0, Value.string (bs s))] a27 := he28
        refine wp_region_lit ?_
        refine lV (Value.slice A29 (out.length + 1) c29) he28 rfl rfl (wanted_plain rfl _) (rn_mv rfl (he28.op rfl) w25) ?_
        intro a30 he30
        clear he28 a27
        refine lV (Value.slice A29 (out.length + 1) c29) he30 rfl rfl (wanted_plain rfl _) (rn_mv rfl (he30.op rfl) w25) ?_
        intro a31 he31
        clear he30 a30
        refine lV (Value.int .i64 (((out.length + 1) : Nat) : Int)) he31 rfl rfl (wanted_plain rfl _) (rn_lenJ rfl (he31.op rfl) w25) ?_
        intro a32 he32
        clear he31 a31
        refine lV (Value.int .i64 (min (((out.length + 1) : Nat) : Int) 16)) he32 rfl rfl (wanted_plain rfl _) (rn_minI rfl (he32.op rfl) (he32.op rfl) rfl w25) ?_
        intro a33 he33
        clear he32 a32
        refine lV (Value.slice (if c29 = 0 then A29 else A29.map (·.add 0)) (min (out.length + 1) 16) c29) he33 rfl rfl (wanted_plain rfl _) (rn_hiJ (k := min (out.length + 1) 16) rfl (he33.op rfl) (he33.op rfl) (by omega) (by omega) w25) ?_
        intro a34 he34
        clear he33 a33
        refine lV (Value.slice (if c29 = 0 then A29 else A29.map (·.add 0)) (min (out.length + 1) 16) c29) he34 rfl rfl (wanted_plain rfl _) (rn_asg rfl (he34.op rfl) w25) ?_
        intro a35 he35
        clear he34 a34
        refine lV (Value.bool true) he35 rfl rfl (wanted_plain rfl _) (rn_asg rfl (he35.op rfl) w25) ?_
        intro a36 he36
        clear he35 a35
        refine wpList_nil ?_
        refine then_ok ?_
        refine wp_ret ?_
        try simp only [Exit.then, Exit.inBlock, Exit.noGoto]
        exact ret_tt rfl he36 rfl rfl (by rw [List.take_of_length_le (by omega)] at hsay; obtain ⟨b_, hb_⟩ := own_cut (k := min (out.length + 1) 16) hown (by simp) (by omega); have hl : lst s = (out ++ [num part]).take (min (out.length + 1) 16) := ((lst_out hb1 hsay).trans (take_min _).symm).trans (by rw [List.length_append]; rfl); have hll : (lst s).length = min (out.length + 1) 16 := (by rw [hl, List.length_take, List.length_append, List.length_singleton]; omega); exact ⟨_, _, b_, by rw [hll], by rw [hll, hl]; exact hb_, hH25.new⟩)
set_option linter.unusedSimpArgs false in
set_option maxRecDepth 100000 in
set_option maxHeartbeats 1600000 in
theorem RParse_no (s : List UInt8) (hno : ¬ ∀ c ∈ s, fine c) (hs : s.length ≤ 100000) (w : World) : Calls Tryd.prog 18 #[.string (bs s)] w fun e w' => e = .returned (.tuple #[.slice none 0 0, .bool false]) ∧ New w w' := by
  refine calls_args (vl := [Value.string (bs s)]) 54 Tryd.func18 rfl Tryd.ntmps18 (by kernel_rfl) (fun a he => ?_)
  have he0 : Env 54 [(0, Value.string (bs s))] a := he
  clear he
  have hH := Hp.start w
  refine wp_seq ?_
  refine wp_region_lit ?_
  refine lV (Value.slice none 0 0) he0 rfl rfl (wanted_plain rfl _) (rn_asg rfl (he0.op rfl) w) ?_
  intro a1 he1
  clear he0 a
  refine lV (Value.bool false) he1 rfl rfl (wanted_plain rfl _) (rn_asg rfl (he1.op rfl) w) ?_
  intro a2 he2
  clear he1 a1
  refine wpList_nil ?_
  refine then_ok ?_
  refine wp_seq ?_
  refine wp_seq ?_
  refine wp_region_lit ?_
  refine lV (Value.int .i64 0) he2 rfl rfl (wanted_plain rfl _) (rn_asg rfl (he2.op rfl) w) ?_
  intro a3 he3
  clear he2 a2
  refine wpList_nil ?_
  refine then_ok ?_
  refine wp_block ?_
  refine loop_nat (fun q a w' => ∃ (i : Nat), q = s.length - i ∧ i ≤ s.length ∧ (∀ c ∈ s.take i, fine c) ∧ Env 54 [(4, Value.int .i64 (i : Int)), (0, Value.string (bs s))] a ∧ Hp w [] w') _ ⟨0, rfl, Nat.zero_le _, (fun n hn => by simp at hn), he3.mem ⟨rfl, rfl, trivial⟩, hH⟩ ?_
  clear he3 hH
  rintro q a4 w4 ⟨i, rfl, hi, hfi, he4, hH4⟩
  refine wp_seq ?_
  refine wp_seq ?_
  refine wp_region_lit ?_
  refine lV (Value.int .i64 (i : Int)) he4 rfl rfl (wanted_plain rfl _) (rn_mv rfl (he4.op rfl) w4) ?_
  intro a5 he5
  clear he4 a4
  refine lV (Value.string (bs s)) he5 rfl rfl (wanted_plain rfl _) (rn_mv rfl (he5.op rfl) w4) ?_
  intro a6 he6
  clear he5 a5
  refine lV (Value.int .i64 ((s.length : Nat) : Int)) he6 rfl rfl (wanted_plain rfl _) (rn_lenS rfl (he6.op rfl) w4) ?_
  intro a7 he7
  clear he6 a6
  by_cases hb0 : (i : Int) < ((s.length : Nat) : Int)
  · skip
    refine lV (Value.bool true) he7 rfl rfl (wanted_plain rfl _) (rn_lsI rfl (he7.op rfl) (he7.op rfl) (decide_eq_true hb0) w4) ?_
    intro a8 he8
    clear he7 a7
    refine wpList_nil ?_
    refine then_ok ?_
    refine wp_cond_true (he8.op rfl) ?_
    refine wp_skip ?_
    refine then_ok ?_
    refine wp_seq ?_
    refine wp_block ?_
    refine wp_seq ?_
    have hc8 := UInt8.toNat_lt (s.getD i 0)
    change _ < 256 at hc8
    refine wp_region_lit ?_
    refine lV (Value.string (bs s)) he8 rfl rfl (wanted_plain rfl _) (rn_mv rfl (he8.op rfl) w4) ?_
    intro a9 he9
    clear he8 a8
    refine lV (Value.int .i64 (i : Int)) he9 rfl rfl (wanted_plain rfl _) (rn_mv rfl (he9.op rfl) w4) ?_
    intro a10 he10
    clear he9 a9
    refine lV (Value.int .u8 ((s.getD i 0).toNat : Int)) he10 rfl rfl (wanted_plain rfl _) (rn_ixS (k := i) rfl (he10.op rfl) (he10.op rfl) (getD_at (by omega)) w4) ?_
    intro a11 he11
    clear he10 a10
    refine lV (Value.int .i32 ((s.getD i 0).toNat : Int)) he11 rfl rfl (wanted_plain rfl _) (rn_cvUR rfl (he11.op rfl) (i32w (by omega) (by omega)) w4) ?_
    intro a12 he12
    clear he11 a11
    by_cases hb1 : fineI ((s.getD i 0).toNat : Int)
    · skip
      refine lC he12 rfl rfl Tryd.func22 (by kernel_rfl) rfl rfl (wanted_plain rfl _) rfl (Fine_c ((s.getD i 0).toNat : Int) true (decide_eq_true hb1) w4) ?_
      intro w13 a14 hn he14
      have hH13 := hH4.call hn
      clear he12 a12 hH4 hn
      refine lV (Value.bool false) he14 rfl rfl (wanted_plain rfl _) (rn_not (b := true) rfl (he14.op rfl) w13) ?_
      intro a15 he15
      clear he14 a14
      refine wpList_nil ?_
      refine then_ok ?_
      refine wp_cond_false (he15.op rfl) ?_
      refine wp_skip ?_
      refine block_ok ?_
      refine then_ok ?_
      refine wp_region_lit ?_
      refine lV (Value.int .i64 (i : Int)) he15 rfl rfl (wanted_plain rfl _) (rn_mv rfl (he15.op rfl) w13) ?_
      intro a16 he16
      clear he15 a15
      refine lV (Value.int .i64 ((i + 1 : Nat) : Int)) he16 rfl rfl (wanted_plain rfl _) (rn_addI rfl (he16.op rfl) (he16.op rfl) (by rw [i64w (by omega) (by omega)]; omega) w13) ?_
      intro a17 he17
      clear he16 a16
      refine lV (Value.int .i64 ((i + 1 : Nat) : Int)) he17 rfl rfl (wanted_plain rfl _) (rn_asg rfl (he17.op rfl) w13) ?_
      intro a18 he18
      clear he17 a17
      refine wpList_nil ?_
      refine then_ok ?_
      exact ⟨s.length - (i + 1), by omega, i + 1, rfl, by omega, fine_take hfi (getD_at (d := 0) (by omega)) (by omega), he18.mem ⟨rfl, rfl, trivial⟩, hH13⟩
    · skip
      refine lC he12 rfl rfl Tryd.func22 (by kernel_rfl) rfl rfl (wanted_plain rfl _) rfl (Fine_c ((s.getD i 0).toNat : Int) false (decide_eq_false hb1) w4) ?_
      intro w13 a14 hn he14
      have hH13 := hH4.call hn
      clear he12 a12 hH4 hn
      refine lV (Value.bool true) he14 rfl rfl (wanted_plain rfl _) (rn_not (b := false) rfl (he14.op rfl) w13) ?_
      intro a15 he15
      clear he14 a14
      refine wpList_nil ?_
      refine then_ok ?_
      refine wp_cond_true (he15.op rfl) ?_
      refine wp_seq ?_
      refine wp_region_lit ?_
      refine lV (Value.slice none 0 0) he15 rfl rfl (wanted_plain rfl _) (rn_asg rfl (he15.op rfl) w13) ?_
      intro a16 he16
      clear he15 a15
      refine lV (Value.bool false) he16 rfl rfl (wanted_plain rfl _) (rn_asg rfl (he16.op rfl) w13) ?_
      intro a17 he17
      clear he16 a16
      refine wpList_nil ?_
      refine then_ok ?_
      refine wp_ret ?_
      try simp only [Exit.then, Exit.inBlock, Exit.noGoto]
      exact ret_tt rfl he17 rfl rfl ⟨by rfl, hH13.new⟩
  · skip
    refine lV (Value.bool false) he7 rfl rfl (wanted_plain rfl _) (rn_lsI rfl (he7.op rfl) (he7.op rfl) (decide_eq_false hb0) w4) ?_
    intro a8 he8
    clear he7 a7
    refine wpList_nil ?_
    refine then_ok ?_
    refine wp_cond_false (he8.op rfl) ?_
    refine wp_exit ?_
    refine then_exit ?_
    refine then_exit ?_
    refine block_exit ?_
    refine then_ok ?_
    refine wp_seq ?_
    refine wp_seq ?_
    exact absurd (fine_all hfi (by omega)) hno
end Go.Proofs.YtpebpjkhkgakfaaDoor
