/-
  The specification's texts: numbers, texts, places with texts.
-/
import Derived.Test.YtijaemfalljdoaaDoorPText
namespace Go.Proofs.YtijaemfalljdoaaDoor
open Go.RowKit

set_option linter.unusedSimpArgs false in
set_option maxRecDepth 100000 in
set_option maxHeartbeats 1600000 in
theorem number_c (u : Nat) : u ≤ 10995116277760 → ∀ w, Calls Tryd.prog 36 #[.int .i64 (u : Int)] w fun e w' => e = .returned (.string (bs (Lib.decDigits u))) ∧ New w w' := by
  induction u using Nat.strongRecOn with
  | _ u ih =>
  intro hu w
  refine calls_args (vl := [Value.int .i64 (u : Int)]) 20 Tryd.func36 rfl Tryd.ntmps36 (by kernel_rfl) (fun a he => ?_)
  have he0 : Env 20 [(0, Value.int .i64 (u : Int))] a := he
  clear he
  have hH := Hp.start w
  refine wp_seq ?_
  refine wp_region_lit ?_
  refine lV (Value.string { data := #[] }) he0 rfl rfl (wanted_plain rfl _) (rn_asg rfl (he0.op rfl) w) ?_
  intro a1 he1
  clear he0 a
  refine wpList_nil ?_
  refine then_ok ?_
  refine wp_seq ?_
  refine wp_seq ?_
  refine wp_region_lit ?_
  refine lV (Value.int .i64 (u : Int)) he1 rfl rfl (wanted_plain rfl _) (rn_mv rfl (he1.op rfl) w) ?_
  intro a2 he2
  clear he1 a1
  by_cases hb0 : (u : Int) < 10
  · skip
    refine lV (Value.bool true) he2 rfl rfl (wanted_plain rfl _) (rn_lsI rfl (he2.op rfl) (he2.op rfl) (decide_eq_true hb0) w) ?_
    intro a3 he3
    clear he2 a2
    refine wpList_nil ?_
    refine then_ok ?_
    refine wp_cond_true (he3.op rfl) ?_
    refine wp_seq ?_
    refine wp_region_lit ?_
    refine lV (Value.int .i64 (u : Int)) he3 rfl rfl (wanted_plain rfl _) (rn_mv rfl (he3.op rfl) w) ?_
    intro a4 he4
    clear he3 a3
    refine lV (Value.int .i64 (48 + (u : Int))) he4 rfl rfl (wanted_plain rfl _) (rn_addI rfl (he4.op rfl) (he4.op rfl) (i64w (by omega) (by omega)) w) ?_
    intro a5 he5
    clear he4 a4
    refine lV (Value.int .u8 ((UInt8.ofNat (48 + u)).toNat : Int)) he5 rfl rfl (wanted_plain rfl _) (rn_cvIU rfl (he5.op rfl) (by rw [digit_nat (by omega), u8w (by omega) (by omega)]; omega) w) ?_
    intro a6 he6
    clear he5 a5
    refine lNewP (fun p => .slice (some ⟨p, 0, none⟩) 1 1) he6 hH rfl rfl (wanted_plain rfl _) (rn_bsU1 rfl (he6.op rfl) w) ?_
    intro p7 w7 a8 hp hn hH7 he8
    clear he6 a6 hH hn hp
    refine lV (Value.string (bs [(UInt8.ofNat (48 + u))])) he8 rfl rfl (wanted_plain rfl _) (rn_cvBS1 (c := (UInt8.ofNat (48 + u))) rfl (he8.op rfl) (hH7.at (i := 0) rfl)) ?_
    intro a9 he9
    clear he8 a8
    refine lV (Value.string (bs [(UInt8.ofNat (48 + u))])) he9 rfl rfl (wanted_plain rfl _) (rn_asg rfl (he9.op rfl) w7) ?_
    intro a10 he10
    clear he9 a9
    refine wpList_nil ?_
    refine then_ok ?_
    refine wp_ret ?_
    try simp only [Exit.then, Exit.inBlock, Exit.noGoto]
    exact ret_env rfl he10 rfl ⟨by first | rw [Lib.decDigits_one (by omega)] | rw [digits_big (u := u) (by omega)], hH7.new⟩
  · skip
    refine lV (Value.bool false) he2 rfl rfl (wanted_plain rfl _) (rn_lsI rfl (he2.op rfl) (he2.op rfl) (decide_eq_false hb0) w) ?_
    intro a3 he3
    clear he2 a2
    refine wpList_nil ?_
    refine then_ok ?_
    refine wp_cond_false (he3.op rfl) ?_
    refine wp_skip ?_
    refine then_ok ?_
    refine wp_seq ?_
    have hd := digits_len 13 (u / 10) (by omega)
    have heb4 : Env 20 [(4, Value.bool false), (3, Value.int .i64 (u : Int)), (0, Value.int .i64 (u : Int))] a3 := he3.mem ⟨rfl, rfl, rfl, trivial⟩
    clear he3
    refine region_any (S := fun W => Hp w [] W) (I := HoldsK [.val (Value.int .i64 (u : Int)), .val (Value.int .i64 ((u / 10 : Nat) : Int)), .val (Value.string (bs (Lib.decDigits (u / 10 : Nat)))), .val (Value.int .i64 (u : Int)), .val (Value.int .i64 ((u % 10 : Nat) : Int)), .val (Value.int .i64 (48 + ((u % 10 : Nat) : Int))), .val (Value.int .u8 ((UInt8.ofNat (48 + u % 10)).toNat : Int)), .row 1 5 #[Value.int .u8 ((UInt8.ofNat (48 + u % 10)).toNat : Int)], .val (Value.string (bs [(UInt8.ofNat (48 + u % 10))])), .val (Value.string (bs ((Lib.decDigits (u / 10 : Nat)) ++ [(UInt8.ofNat (48 + u % 10))]))), .val (Value.string (bs ((Lib.decDigits (u / 10 : Nat)) ++ [(UInt8.ofNat (48 + u % 10))])))]) (by kernel_rfl) heb4 hH.drew (by kernel_rfl) HoldsK.new (fun w_ w1_ h_ hn_ => h_.call hn_) ?_ ?_
    · skip
      refine StepsAll.cons ?_ ?_
      · intro aa ww hB hd
        have he : Env 20 [(4, Value.bool false), (3, Value.int .i64 (u : Int)), (0, Value.int .i64 (u : Int))] aa := hB.env
        exact .inr ⟨(wanted_plain rfl _), Does.val (v := Value.int .i64 (u : Int)) (rn_mv rfl (he.op rfl) ww) ⟨Fr.refl _ _, rfl⟩⟩
      refine StepsAll.cons ?_ ?_
      · intro aa ww hB hd
        have h10 : aa.eval (.tmp 10) = Value.int .i64 (u : Int) := hd 0 (by kernel_rfl)
        have he : Env 20 [(10, Value.int .i64 (u : Int)), (4, Value.bool false), (3, Value.int .i64 (u : Int)), (0, Value.int .i64 (u : Int))] aa := (hB.env.add h10)
        exact .inr ⟨(wanted_plain rfl _), Does.val (v := Value.int .i64 ((u / 10 : Nat) : Int)) (rn_quoNI rfl (he.op rfl) (he.op rfl) (by omega) (by omega) (by omega) (by omega) ww) ⟨Fr.refl _ _, rfl⟩⟩
      refine StepsAll.cons ?_ ?_
      · intro aa ww hB hd
        have h11 : aa.eval (.tmp 11) = Value.int .i64 ((u / 10 : Nat) : Int) := hd 1 (by kernel_rfl)
        have he : Env 20 [(11, Value.int .i64 ((u / 10 : Nat) : Int)), (4, Value.bool false), (3, Value.int .i64 (u : Int)), (0, Value.int .i64 (u : Int))] aa := (hB.env.add h11)
        exact .inr ⟨(wanted_plain rfl _), does_call Tryd.func36 (by kernel_rfl) rfl rfl (he.args rfl) (ih _ (by omega) (by omega) ww) (fun e_ w_ h_ => ⟨_, h_.1, h_.2, rfl⟩)⟩
      refine StepsAll.cons ?_ ?_
      · intro aa ww hB hd
        have he : Env 20 [(4, Value.bool false), (3, Value.int .i64 (u : Int)), (0, Value.int .i64 (u : Int))] aa := hB.env
        exact .inr ⟨(wanted_plain rfl _), Does.val (v := Value.int .i64 (u : Int)) (rn_mv rfl (he.op rfl) ww) ⟨Fr.refl _ _, rfl⟩⟩
      refine StepsAll.cons ?_ ?_
      · intro aa ww hB hd
        have h13 : aa.eval (.tmp 13) = Value.int .i64 (u : Int) := hd 3 (by kernel_rfl)
        have he : Env 20 [(13, Value.int .i64 (u : Int)), (4, Value.bool false), (3, Value.int .i64 (u : Int)), (0, Value.int .i64 (u : Int))] aa := (hB.env.add h13)
        exact .inr ⟨(wanted_plain rfl _), Does.val (v := Value.int .i64 ((u % 10 : Nat) : Int)) (rn_remNI rfl (he.op rfl) (he.op rfl) (by omega) (by omega) (by omega) ww) ⟨Fr.refl _ _, rfl⟩⟩
      refine StepsAll.cons ?_ ?_
      · intro aa ww hB hd
        have h14 : aa.eval (.tmp 14) = Value.int .i64 ((u % 10 : Nat) : Int) := hd 4 (by kernel_rfl)
        have he : Env 20 [(14, Value.int .i64 ((u % 10 : Nat) : Int)), (4, Value.bool false), (3, Value.int .i64 (u : Int)), (0, Value.int .i64 (u : Int))] aa := (hB.env.add h14)
        exact .inr ⟨(wanted_plain rfl _), Does.val (v := Value.int .i64 (48 + ((u % 10 : Nat) : Int))) (rn_addI rfl (he.op rfl) (he.op rfl) (i64w (by omega) (by omega)) ww) ⟨Fr.refl _ _, rfl⟩⟩
      refine StepsAll.cons ?_ ?_
      · intro aa ww hB hd
        have h15 : aa.eval (.tmp 15) = Value.int .i64 (48 + ((u % 10 : Nat) : Int)) := hd 5 (by kernel_rfl)
        have he : Env 20 [(15, Value.int .i64 (48 + ((u % 10 : Nat) : Int))), (4, Value.bool false), (3, Value.int .i64 (u : Int)), (0, Value.int .i64 (u : Int))] aa := (hB.env.add h15)
        exact .inr ⟨(wanted_plain rfl _), Does.val (v := Value.int .u8 ((UInt8.ofNat (48 + u % 10)).toNat : Int)) (rn_cvIU rfl (he.op rfl) (by rw [digit_nat (by omega), u8w (by omega) (by omega)]; omega) ww) ⟨Fr.refl _ _, rfl⟩⟩
      refine StepsAll.cons ?_ ?_
      · intro aa ww hB hd
        have h16 : aa.eval (.tmp 16) = Value.int .u8 ((UInt8.ofNat (48 + u % 10)).toNat : Int) := hd 6 (by kernel_rfl)
        have he : Env 20 [(16, Value.int .u8 ((UInt8.ofNat (48 + u % 10)).toNat : Int)), (4, Value.bool false), (3, Value.int .i64 (u : Int)), (0, Value.int .i64 (u : Int))] aa := (hB.env.add h16)
        exact .inr ⟨(wanted_plain rfl _), Does.val (rn_bsU1 rfl (he.op rfl) ww) ⟨(Fr.refl _ _).alloc _, _, rfl, Blk.new _ _ _⟩⟩
      refine StepsAll.cons ?_ ?_
      · intro aa ww hB hd
        have hx17 : ∃ p, aa.eval (.tmp 17) = .slice (some ⟨p, 0, none⟩) 1 1 ∧ Blk ww p 5 #[Value.int .u8 ((UInt8.ofNat (48 + u % 10)).toNat : Int)] := hd 7 (by kernel_rfl)
        obtain ⟨p17, h17, hr17⟩ := hx17
        have he : Env 20 [(17, Value.slice (some ⟨p17, 0, none⟩) 1 1), (4, Value.bool false), (3, Value.int .i64 (u : Int)), (0, Value.int .i64 (u : Int))] aa := (hB.env.add h17)
        exact .inr ⟨(wanted_plain rfl _), Does.val (v := Value.string (bs [(UInt8.ofNat (48 + u % 10))])) (rn_cvBS1 (c := (UInt8.ofNat (48 + u % 10))) rfl (he.op rfl) hr17) ⟨Fr.refl _ _, rfl⟩⟩
      refine StepsAll.cons ?_ ?_
      · intro aa ww hB hd
        have h12 : aa.eval (.tmp 12) = Value.string (bs (Lib.decDigits (u / 10 : Nat))) := hd 2 (by kernel_rfl)
        have h18 : aa.eval (.tmp 18) = Value.string (bs [(UInt8.ofNat (48 + u % 10))]) := hd 8 (by kernel_rfl)
        have he : Env 20 [(18, Value.string (bs [(UInt8.ofNat (48 + u % 10))])), (12, Value.string (bs (Lib.decDigits (u / 10 : Nat)))), (4, Value.bool false), (3, Value.int .i64 (u : Int)), (0, Value.int .i64 (u : Int))] aa := ((hB.env.add h12).add h18)
        exact .inr ⟨(wanted_plain rfl _), Does.val (v := Value.string (bs ((Lib.decDigits (u / 10 : Nat)) ++ [(UInt8.ofNat (48 + u % 10))]))) (rn_addS (a := (Lib.decDigits (u / 10 : Nat))) (c := [(UInt8.ofNat (48 + u % 10))]) rfl (he.op rfl) (he.op rfl) (by first | omega | (simp only [List.length_append, List.length_cons, List.length_nil]; omega)) rfl ww) ⟨Fr.refl _ _, rfl⟩⟩
      refine StepsAll.cons ?_ ?_
      · intro aa ww hB hd
        have h19 : aa.eval (.tmp 19) = Value.string (bs ((Lib.decDigits (u / 10 : Nat)) ++ [(UInt8.ofNat (48 + u % 10))])) := hd 9 (by kernel_rfl)
        have he : Env 20 [(19, Value.string (bs ((Lib.decDigits (u / 10 : Nat)) ++ [(UInt8.ofNat (48 + u % 10))]))), (4, Value.bool false), (3, Value.int .i64 (u : Int)), (0, Value.int .i64 (u : Int))] aa := (hB.env.add h19)
        exact .inr ⟨(wanted_plain rfl _), Does.val (v := Value.string (bs ((Lib.decDigits (u / 10 : Nat)) ++ [(UInt8.ofNat (48 + u % 10))]))) (rn_asg rfl (he.op rfl) ww) ⟨Fr.refl _ _, rfl⟩⟩
      exact StepsAll.nil
    · intro aa ww hB hall
      have h2 : aa.eval (.tmp 2) = Value.string (bs ((Lib.decDigits (u / 10 : Nat)) ++ [(UInt8.ofNat (48 + u % 10))])) := hall 10 (Nat.le_of_ble_eq_true (n := 11) (by kernel_rfl))
      have he5 : Env 20 [(2, Value.string (bs ((Lib.decDigits (u / 10 : Nat)) ++ [(UInt8.ofNat (48 + u % 10))]))), (4, Value.bool false), (3, Value.int .i64 (u : Int)), (0, Value.int .i64 (u : Int))] aa := (hB.env.add h2)
      have hH5 := hB.held
      clear hB hall heb4 hH h2
      refine then_ok ?_
      refine wp_ret ?_
      try simp only [Exit.then, Exit.inBlock, Exit.noGoto]
      exact ret_env rfl he5 rfl ⟨by first | rw [Lib.decDigits_one (by omega)] | rw [digits_big (u := u) (by omega)], hH5.new⟩
theorem number_i (n : Int) (h0 : 0 ≤ n) (h1 : n ≤ 10995116277760) (w : World) : Calls Tryd.prog 36 #[.int .i64 n] w fun e w' => e = .returned (.string (bs (Lib.decDigits n.toNat))) ∧ New w w' := by
  have e : n = (n.toNat : Int) := by omega
  have := number_c n.toNat (by omega) w
  rwa [← e] at this
set_option linter.unusedSimpArgs false in
set_option maxRecDepth 100000 in
set_option maxHeartbeats 1600000 in
theorem RText_c (p : Pl) (hp : okP p) (w : World) : Calls Tryd.prog 23 #[.agg #[.int .i64 p.l, .int .i64 p.c]] w fun e w' => e = .returned (.string (bs (textL p))) ∧ New w w' := by
  refine calls_args (vl := [Value.agg #[Value.int .i64 p.l, Value.int .i64 p.c]]) 11 Tryd.func23 rfl Tryd.ntmps23 (by kernel_rfl) (fun a he => ?_)
  have he0 : Env 11 [(0, Value.agg #[Value.int .i64 p.l, Value.int .i64 p.c])] a := he
  clear he
  have hH := Hp.start w
  refine wp_seq ?_
  refine wp_region_lit ?_
  refine lNewP (fun p => .pointer (some ⟨p, 0, none⟩)) he0 hH rfl rfl (wanted_plain rfl _) (rn_boxZ rfl (he0.op rfl) w) ?_
  intro p1 w1 a2 hp hn hH1 he2
  clear he0 a hH hn hp
  refine lV (Value.string { data := #[] }) he2 rfl rfl (wanted_plain rfl _) (rn_asg rfl (he2.op rfl) w1) ?_
  intro a3 he3
  clear he2 a2
  refine wpList_nil ?_
  refine then_ok ?_
  refine wp_seq ?_
  have hd1 := digits_len 12 p.l.toNat (by omega)
  have hd2 := digits_len 3 p.c.toNat (by omega)
  refine wp_region_held_drew (S := Hp w [⟨p1, 23, #[Value.int .i64 p.l, Value.int .i64 p.c]⟩]) (by kernel_rfl) (hH1.drew) (fun _ => ?_)
  have hn : New w1 (World.drew w1) := (Fr.refl _ _).drew
  clear hn
  have hH4 := hH1.drew
  clear hH1
  generalize World.drew w1 = w4 at *
  refine hV (fuel := 8) (i := 0) (Value.pointer (some ⟨p1, 0, none⟩)) he3 rfl rfl rfl (by kernel_rfl) (by kernel_rfl) (by kernel_rfl) (fun _ _ _ h => h) (wanted_plain rfl _) (fun w' _ => rn_faZ0 rfl (he3.op rfl) rfl w') hH4 ?_
  intro a5 he5
  clear he3 a3
  refine hV (fuel := 7) (i := 1) (Value.int .i64 p.l) he5 rfl rfl rfl (by kernel_rfl) (by kernel_rfl) (by kernel_rfl) (fun _ _ _ h => h) (wanted_plain rfl _) (fun w' hw' => rn_ld1 rfl (he5.op rfl) Tryd.underlying3 (hw'.at (i := 0) rfl) rfl) hH4 ?_
  intro a6 he6
  clear he5 a5
  refine hV (fuel := 6) (i := 4) (Value.pointer (some ⟨p1, 1, none⟩)) he6 rfl rfl rfl (by kernel_rfl) (by kernel_rfl) (by kernel_rfl) (fun _ _ _ h => h) (wanted_plain rfl _) (fun w' _ => rn_faZ1 rfl (he6.op rfl) rfl w') hH4 ?_
  intro a7 he7
  clear he6 a6
  refine hV (fuel := 5) (i := 5) (Value.int .i64 p.c) he7 rfl rfl rfl (by kernel_rfl) (by kernel_rfl) (by kernel_rfl) (fun _ _ _ h => h) (wanted_plain rfl _) (fun w' hw' => rn_ld1 rfl (he7.op rfl) Tryd.underlying3 (hw'.at (i := 0) rfl) rfl) hH4 ?_
  intro a8 he8
  clear he7 a7
  refine hC (fuel := 4) (i := 2) he8 (by kernel_rfl) rfl rfl rfl Tryd.func36 (by kernel_rfl) rfl rfl (wanted_plain rfl _) rfl (number_i p.l (by omega) (by omega) w4) ?_
  rintro _ w9 ⟨rfl, hn⟩
  have hH9 := hH4.call hn
  refine ⟨_, rfl, hH9, ?_⟩
  intro a10 he10
  clear he8 a8 hH4 hn
  refine hV (fuel := 3) (i := 3) (Value.string (bs ((Lib.decDigits (Int.toNat p.l)) ++ ([58] : List UInt8)))) he10 rfl rfl rfl (by kernel_rfl) (by kernel_rfl) (by kernel_rfl) (fun _ _ _ h => h) (wanted_plain rfl _) (fun w' _ => rn_addS (a := (Lib.decDigits (Int.toNat p.l))) (c := ([58] : List UInt8)) rfl (he10.op rfl) (he10.op rfl) (by first | omega | (simp only [List.length_append, List.length_cons, List.length_nil]; omega)) rfl w') hH9 ?_
  intro a11 he11
  clear he10 a10
  refine hC (fuel := 2) (i := 6) he11 (by kernel_rfl) rfl rfl rfl Tryd.func36 (by kernel_rfl) rfl rfl (wanted_plain rfl _) rfl (number_i p.c (by omega) (by omega) w9) ?_
  rintro _ w12 ⟨rfl, hn⟩
  have hH12 := hH9.call hn
  refine ⟨_, rfl, hH12, ?_⟩
  intro a13 he13
  clear he11 a11 hH9 hn
  refine hV (fuel := 1) (i := 7) (Value.string (bs (((Lib.decDigits (Int.toNat p.l)) ++ ([58] : List UInt8)) ++ (Lib.decDigits (Int.toNat p.c))))) he13 rfl rfl rfl (by kernel_rfl) (by kernel_rfl) (by kernel_rfl) (fun _ _ _ h => h) (wanted_plain rfl _) (fun w' _ => rn_addS (a := ((Lib.decDigits (Int.toNat p.l)) ++ ([58] : List UInt8))) (c := (Lib.decDigits (Int.toNat p.c))) rfl (he13.op rfl) (he13.op rfl) (by first | omega | (simp only [List.length_append, List.length_cons, List.length_nil]; omega)) rfl w') hH12 ?_
  intro a14 he14
  clear he13 a13
  refine hV (fuel := 0) (i := 8) (Value.string (bs (((Lib.decDigits (Int.toNat p.l)) ++ ([58] : List UInt8)) ++ (Lib.decDigits (Int.toNat p.c))))) he14 rfl rfl rfl (by kernel_rfl) (by kernel_rfl) (by kernel_rfl) (fun _ _ _ h => h) (wanted_plain rfl _) (fun w' _ => rn_asg rfl (he14.op rfl) w') hH12 ?_
  intro a15 he15
  clear he14 a14
  refine wpAnyH_done (by kernel_rfl) ?_ _
  refine then_ok ?_
  refine wp_ret ?_
  try simp only [Exit.then, Exit.inBlock, Exit.noGoto]
  exact ret_env rfl he15 rfl ⟨by simp [textL], hH12.new⟩
set_option linter.unusedSimpArgs false in
set_option maxRecDepth 100000 in
set_option maxHeartbeats 1600000 in
theorem RParse_c (l : List UInt8) (hl : l.length ≤ 1000) (r : Option Pl) (h : parseR l = r) (w : World) : Calls Tryd.prog 25 #[.string (bs l)] w fun e w' => e = .returned (.tuple #[(r.getD zPl).v, .bool r.isSome]) ∧ New w w' := by
  refine calls_args (vl := [Value.string (bs l)]) 68 Tryd.func25 rfl Tryd.ntmps25 (by kernel_rfl) (fun a he => ?_)
  have he0 : Env 68 [(0, Value.string (bs l))] a := he
  clear he
  have hH := Hp.start w
  refine wp_seq ?_
  refine wp_region_lit ?_
  refine lNewP (fun p => .pointer (some ⟨p, 0, none⟩)) he0 hH rfl rfl (wanted_plain rfl _) (rn_allocZ rfl w) ?_
  intro p1 w1 a2 hp hn hH1 he2
  clear he0 a hH hn hp
  refine lV (Value.bool false) he2 rfl rfl (wanted_plain rfl _) (rn_asg rfl (he2.op rfl) w1) ?_
  intro a3 he3
  clear he2 a2
  refine wpList_nil ?_
  refine then_ok ?_
  refine wp_seq ?_
  refine wp_region_lit ?_
  refine lNewP (fun p => .pointer (some ⟨p, 0, none⟩)) he3 hH1 rfl rfl (wanted_plain rfl _) (rn_allocY rfl w1) ?_
  intro p4 w4 a5 hp hn hH4 he5
  clear he3 a3 hH1 hn hp
  refine wpList_nil ?_
  refine then_ok ?_
  refine wp_seq ?_
  refine wp_region_lit ?_
  refine lV (Value.int .i64 0) he5 rfl rfl (wanted_plain rfl _) (rn_asg rfl (he5.op rfl) w4) ?_
  intro a6 he6
  clear he5 a5
  refine wpList_nil ?_
  refine then_ok ?_
  refine wp_seq ?_
  refine wp_seq ?_
  refine wp_region_lit ?_
  refine lV (Value.int .i64 0) he6 rfl rfl (wanted_plain rfl _) (rn_asg rfl (he6.op rfl) w4) ?_
  intro a7 he7
  clear he6 a6
  refine wpList_nil ?_
  refine then_ok ?_
  refine wp_block ?_
  refine loop_nat (fun q a w' => ∃ (i k : Nat) (n0 n1 : Int), q = l.length - i ∧ i ≤ l.length ∧ k ≤ 1 ∧ (0 ≤ n0 ∧ n0 ≤ 10995116277769) ∧ (0 ≤ n1 ∧ n1 ≤ 10995116277769) ∧ scanL (l.drop i) k n0 n1 = scanL l 0 0 0 ∧ Env 68 [(6, Value.int .i64 (i : Int)), (5, Value.int .i64 (k : Int)), (4, Value.pointer (some ⟨p4, 0, none⟩)), (2, Value.pointer (some ⟨p1, 0, none⟩)), (0, Value.string (bs l))] a ∧ Hp w [⟨p4, 62, #[Value.int .i64 n0, Value.int .i64 n1]⟩, ⟨p1, 23, #[Value.int .i64 0, Value.int .i64 0]⟩] w') _ ⟨0, 0, 0, 0, rfl, Nat.zero_le _, Nat.zero_le _, ⟨by decide, by decide⟩, ⟨by decide, by decide⟩, rfl, he7.mem ⟨rfl, rfl, rfl, rfl, rfl, trivial⟩, hH4⟩ ?_
  clear he7 hH4
  rintro q a8 w8 ⟨i, k, n0, n1, rfl, hi, hk, ha, hb, hs, he8, hH8⟩
  refine wp_seq ?_
  refine wp_seq ?_
  refine wp_region_lit ?_
  refine lV (Value.int .i64 (i : Int)) he8 rfl rfl (wanted_plain rfl _) (rn_mv rfl (he8.op rfl) w8) ?_
  intro a9 he9
  clear he8 a8
  refine lV (Value.string (bs l)) he9 rfl rfl (wanted_plain rfl _) (rn_mv rfl (he9.op rfl) w8) ?_
  intro a10 he10
  clear he9 a9
  refine lV (Value.int .i64 ((l.length : Nat) : Int)) he10 rfl rfl (wanted_plain rfl _) (rn_lenS rfl (he10.op rfl) w8) ?_
  intro a11 he11
  clear he10 a10
  by_cases hb0 : (i : Int) < ((l.length : Nat) : Int)
  · skip
    refine lV (Value.bool true) he11 rfl rfl (wanted_plain rfl _) (rn_lsI rfl (he11.op rfl) (he11.op rfl) (decide_eq_true hb0) w8) ?_
    intro a12 he12
    clear he11 a11
    refine wpList_nil ?_
    refine then_ok ?_
    refine wp_cond_true (he12.op rfl) ?_
    refine wp_skip ?_
    refine then_ok ?_
    refine wp_seq ?_
    refine wp_block ?_
    refine wp_seq ?_
    refine wp_seq ?_
    obtain ⟨c, hc⟩ : ∃ c, l[i]? = some c := ⟨_, List.getElem?_eq_getElem (by omega)⟩
    have hdr : l.drop i = c :: l.drop (i + 1) := by rw [List.drop_eq_getElem_cons (by omega)]; obtain ⟨_, e_⟩ := List.getElem?_eq_some_iff.1 hc; rw [e_]
    have hc8 := c.toNat_lt
    change c.toNat < 256 at hc8
    by_cases hb1 : k = 0
    · skip
      subst hb1
      replace he12 : Env 68 [(11, Value.bool true), (10, Value.int .i64 ((l.length : Nat) : Int)), (9, Value.string (bs l)), (8, Value.int .i64 (i : Int)), (6, Value.int .i64 (i : Int)), (5, Value.int .i64 0), (4, Value.pointer (some ⟨p4, 0, none⟩)), (2, Value.pointer (some ⟨p1, 0, none⟩)), (0, Value.string (bs l))] a12 := he12
      refine wp_region_lit ?_
      refine lV (Value.string (bs l)) he12 rfl rfl (wanted_plain rfl _) (rn_mv rfl (he12.op rfl) w8) ?_
      intro a13 he13
      clear he12 a12
      refine lV (Value.int .i64 (i : Int)) he13 rfl rfl (wanted_plain rfl _) (rn_mv rfl (he13.op rfl) w8) ?_
      intro a14 he14
      clear he13 a13
      refine lV (Value.int .u8 ((c.toNat : Nat) : Int)) he14 rfl rfl (wanted_plain rfl _) (rn_ixS (k := i) rfl (he14.op rfl) (he14.op rfl) hc w8) ?_
      intro a15 he15
      clear he14 a14
      by_cases hb2 : ((c.toNat : Nat) : Int) = 58
      · skip
        refine lV (Value.bool true) he15 rfl rfl (wanted_plain rfl _) (rn_eqU rfl (he15.op rfl) (he15.op rfl) (beqT hb2) w8) ?_
        intro a16 he16
        clear he15 a15
        refine wpList_nil ?_
        refine then_ok ?_
        refine wp_cond_true (he16.op rfl) ?_
        refine wp_seq ?_
        refine wp_region_lit ?_
        refine lV (Value.int .i64 0) he16 rfl rfl (wanted_plain rfl _) (rn_mv rfl (he16.op rfl) w8) ?_
        intro a17 he17
        clear he16 a16
        refine lV (Value.int .i64 1) he17 rfl rfl (wanted_plain rfl _) (rn_addI rfl (he17.op rfl) (he17.op rfl) (by rfl) w8) ?_
        intro a18 he18
        clear he17 a17
        refine lV (Value.int .i64 1) he18 rfl rfl (wanted_plain rfl _) (rn_asg rfl (he18.op rfl) w8) ?_
        intro a19 he19
        clear he18 a18
        refine wpList_nil ?_
        refine then_ok ?_
        refine wp_seq ?_
        refine wp_seq ?_
        refine wp_region_lit ?_
        refine lV (Value.int .i64 1) he19 rfl rfl (wanted_plain rfl _) (rn_mv rfl (he19.op rfl) w8) ?_
        intro a20 he20
        clear he19 a19
        refine lV (Value.bool false) he20 rfl rfl (wanted_plain rfl _) (rn_gtI rfl (he20.op rfl) (he20.op rfl) (by decide) w8) ?_
        intro a21 he21
        clear he20 a20
        refine wpList_nil ?_
        refine then_ok ?_
        refine wp_cond_false (he21.op rfl) ?_
        refine wp_skip ?_
        refine then_ok ?_
        refine wp_exit ?_
        refine then_exit ?_
        refine block_exit ?_
        refine then_ok ?_
        refine wp_region_lit ?_
        refine lV (Value.int .i64 (i : Int)) he21 rfl rfl (wanted_plain rfl _) (rn_mv rfl (he21.op rfl) w8) ?_
        intro a22 he22
        clear he21 a21
        refine lV (Value.int .i64 ((i + 1 : Nat) : Int)) he22 rfl rfl (wanted_plain rfl _) (rn_addI rfl (he22.op rfl) (he22.op rfl) (by rw [i64w (by omega) (by omega)]; omega) w8) ?_
        intro a23 he23
        clear he22 a22
        refine lV (Value.int .i64 ((i + 1 : Nat) : Int)) he23 rfl rfl (wanted_plain rfl _) (rn_asg rfl (he23.op rfl) w8) ?_
        intro a24 he24
        clear he23 a23
        refine wpList_nil ?_
        refine then_ok ?_
        rw [hdr, scanL, if_pos (by omega), if_pos rfl] at hs
        exact ⟨l.length - (i + 1), by omega, i + 1, 1, n0, n1, rfl, by omega, by omega, ⟨by omega, by omega⟩, ⟨by omega, by omega⟩, hs, he24.mem ⟨rfl, rfl, rfl, rfl, rfl, trivial⟩, hH8⟩
      · skip
        refine lV (Value.bool false) he15 rfl rfl (wanted_plain rfl _) (rn_eqU rfl (he15.op rfl) (he15.op rfl) (beqF hb2) w8) ?_
        intro a16 he16
        clear he15 a15
        refine wpList_nil ?_
        refine then_ok ?_
        refine wp_cond_false (he16.op rfl) ?_
        refine wp_skip ?_
        refine then_ok ?_
        refine wp_seq ?_
        refine wp_seq ?_
        refine wp_region_lit ?_
        refine lV (Value.string (bs l)) he16 rfl rfl (wanted_plain rfl _) (rn_mv rfl (he16.op rfl) w8) ?_
        intro a17 he17
        clear he16 a16
        refine lV (Value.int .i64 (i : Int)) he17 rfl rfl (wanted_plain rfl _) (rn_mv rfl (he17.op rfl) w8) ?_
        intro a18 he18
        clear he17 a17
        refine lV (Value.int .u8 ((c.toNat : Nat) : Int)) he18 rfl rfl (wanted_plain rfl _) (rn_ixS (k := i) rfl (he18.op rfl) (he18.op rfl) hc w8) ?_
        intro a19 he19
        clear he18 a18
        by_cases hb3 : ((c.toNat : Nat) : Int) < 48
        · skip
          refine lV (Value.bool true) he19 rfl rfl (wanted_plain rfl _) (rn_lsU rfl (he19.op rfl) (he19.op rfl) (decide_eq_true hb3) w8) ?_
          intro a20 he20
          clear he19 a19
          refine lV (Value.bool true) he20 rfl rfl (wanted_plain rfl _) (rn_mv rfl (he20.op rfl) w8) ?_
          intro a21 he21
          clear he20 a20
          refine lSkip he21 rfl rfl (he21.wantNot rfl rfl rfl rfl rfl rfl) ?_
          intro a22 he22
          clear he21 a21
          refine lSkip he22 rfl rfl (he22.wantNot rfl rfl rfl rfl rfl rfl) ?_
          intro a23 he23
          clear he22 a22
          refine lSkip he23 rfl rfl (he23.wantNot rfl rfl rfl rfl rfl rfl) ?_
          intro a24 he24
          clear he23 a23
          refine lSkip he24 rfl rfl (he24.wantNot rfl rfl rfl rfl rfl rfl) ?_
          intro a25 he25
          clear he24 a24
          refine lV (Value.bool true) he25 rfl rfl (wanted_plain rfl _) (rn_pk rfl (he25.op rfl) (he25.op rfl) w8) ?_
          intro a26 he26
          clear he25 a25
          refine lV (Value.bool true) he26 rfl rfl (wanted_plain rfl _) (rn_mv rfl (he26.op rfl) w8) ?_
          intro a27 he27
          clear he26 a26
          refine lSkip he27 rfl rfl (he27.wantNot rfl rfl rfl rfl rfl rfl) ?_
          intro a28 he28
          clear he27 a27
          refine lSkip he28 rfl rfl (he28.wantNot rfl rfl rfl rfl rfl rfl) ?_
          intro a29 he29
          clear he28 a28
          refine lSkip he29 rfl rfl (he29.wantNot rfl rfl rfl rfl rfl rfl) ?_
          intro a30 he30
          clear he29 a29
          refine lSkip he30 rfl rfl (he30.wantNot rfl rfl rfl rfl rfl rfl) ?_
          intro a31 he31
          clear he30 a30
          refine lV (Value.bool true) he31 rfl rfl (wanted_plain rfl _) (rn_pk rfl (he31.op rfl) (he31.op rfl) w8) ?_
          intro a32 he32
          clear he31 a31
          refine wpList_nil ?_
          refine then_ok ?_
          refine wp_cond_true (he32.op rfl) ?_
          refine wp_seq ?_
          refine wp_region_lit ?_
          refine lV (Value.agg #[Value.int .i64 0, Value.int .i64 0]) he32 rfl rfl (wanted_plain rfl _) (rn_bZ rfl  w8) ?_
          intro a33 he33
          clear he32 a32
          refine lSetF 1 #[Value.int .i64 0, Value.int .i64 0] (cs := #[Value.int .i64 0, Value.int .i64 0]) he33 hH8 rfl (wanted_plain rfl _) rfl rfl rfl rfl rfl (by kernel_rfl) (by kernel_rfl) (by kernel_rfl) rfl ?_
          intro w34 a35 hH34 hf he35
          replace hH34 : Hp w [⟨p4, 62, #[Value.int .i64 n0, Value.int .i64 n1]⟩, ⟨p1, 23, #[Value.int .i64 0, Value.int .i64 0]⟩] w34 := hH34
          clear hf
          clear he33 a33 hH8
          refine lV (Value.bool false) he35 rfl rfl (wanted_plain rfl _) (rn_asg rfl (he35.op rfl) w34) ?_
          intro a36 he36
          clear he35 a35
          refine wpList_nil ?_
          refine then_ok ?_
          refine wp_ret ?_
          try simp only [Exit.then, Exit.inBlock, Exit.noGoto]
          exact ret_rowt rfl he36 rfl rfl (hH34.at (i := 1) rfl) undZ rfl infoZ2 ⟨by (rw [hdr, scanL, if_neg (by omega), if_pos (by first | rw [if_pos rfl]; omega | rw [if_neg (by decide)]; omega)] at hs; have e2 : parseR l = none := (by unfold parseR; rw [← hs]); rw [e2] at h; subst h; rfl), hH34.new⟩
        · skip
          refine lV (Value.bool false) he19 rfl rfl (wanted_plain rfl _) (rn_lsU rfl (he19.op rfl) (he19.op rfl) (decide_eq_false hb3) w8) ?_
          intro a20 he20
          clear he19 a19
          refine lV (Value.bool false) he20 rfl rfl (wanted_plain rfl _) (rn_mv rfl (he20.op rfl) w8) ?_
          intro a21 he21
          clear he20 a20
          refine lV (Value.string (bs l)) he21 rfl rfl (he21.want rfl rfl rfl rfl rfl) (rn_mv rfl (he21.op rfl) w8) ?_
          intro a22 he22
          clear he21 a21
          refine lV (Value.int .i64 (i : Int)) he22 rfl rfl (he22.want rfl rfl rfl rfl rfl) (rn_mv rfl (he22.op rfl) w8) ?_
          intro a23 he23
          clear he22 a22
          refine lV (Value.int .u8 ((c.toNat : Nat) : Int)) he23 rfl rfl (he23.want rfl rfl rfl rfl rfl) (rn_ixS (k := i) rfl (he23.op rfl) (he23.op rfl) hc w8) ?_
          intro a24 he24
          clear he23 a23
          by_cases hb4 : 57 < ((c.toNat : Nat) : Int)
          · skip
            refine lV (Value.bool true) he24 rfl rfl (he24.want rfl rfl rfl rfl rfl) (rn_gtU rfl (he24.op rfl) (he24.op rfl) (decide_eq_true hb4) w8) ?_
            intro a25 he25
            clear he24 a24
            refine lV (Value.bool true) he25 rfl rfl (wanted_plain rfl _) (rn_pk0 rfl (he25.op rfl) (he25.op rfl) w8) ?_
            intro a26 he26
            clear he25 a25
            refine lV (Value.bool true) he26 rfl rfl (wanted_plain rfl _) (rn_mv rfl (he26.op rfl) w8) ?_
            intro a27 he27
            clear he26 a26
            refine lSkip he27 rfl rfl (he27.wantNot rfl rfl rfl rfl rfl rfl) ?_
            intro a28 he28
            clear he27 a27
            refine lSkip he28 rfl rfl (he28.wantNot rfl rfl rfl rfl rfl rfl) ?_
            intro a29 he29
            clear he28 a28
            refine lSkip he29 rfl rfl (he29.wantNot rfl rfl rfl rfl rfl rfl) ?_
            intro a30 he30
            clear he29 a29
            refine lSkip he30 rfl rfl (he30.wantNot rfl rfl rfl rfl rfl rfl) ?_
            intro a31 he31
            clear he30 a30
            refine lV (Value.bool true) he31 rfl rfl (wanted_plain rfl _) (rn_pk rfl (he31.op rfl) (he31.op rfl) w8) ?_
            intro a32 he32
            clear he31 a31
            refine wpList_nil ?_
            refine then_ok ?_
            refine wp_cond_true (he32.op rfl) ?_
            refine wp_seq ?_
            refine wp_region_lit ?_
            refine lV (Value.agg #[Value.int .i64 0, Value.int .i64 0]) he32 rfl rfl (wanted_plain rfl _) (rn_bZ rfl  w8) ?_
            intro a33 he33
            clear he32 a32
            refine lSetF 1 #[Value.int .i64 0, Value.int .i64 0] (cs := #[Value.int .i64 0, Value.int .i64 0]) he33 hH8 rfl (wanted_plain rfl _) rfl rfl rfl rfl rfl (by kernel_rfl) (by kernel_rfl) (by kernel_rfl) rfl ?_
            intro w34 a35 hH34 hf he35
            replace hH34 : Hp w [⟨p4, 62, #[Value.int .i64 n0, Value.int .i64 n1]⟩, ⟨p1, 23, #[Value.int .i64 0, Value.int .i64 0]⟩] w34 := hH34
            clear hf
            clear he33 a33 hH8
            refine lV (Value.bool false) he35 rfl rfl (wanted_plain rfl _) (rn_asg rfl (he35.op rfl) w34) ?_
            intro a36 he36
            clear he35 a35
            refine wpList_nil ?_
            refine then_ok ?_
            refine wp_ret ?_
            try simp only [Exit.then, Exit.inBlock, Exit.noGoto]
            exact ret_rowt rfl he36 rfl rfl (hH34.at (i := 1) rfl) undZ rfl infoZ2 ⟨by (rw [hdr, scanL, if_neg (by omega), if_pos (by first | rw [if_pos rfl]; omega | rw [if_neg (by decide)]; omega)] at hs; have e2 : parseR l = none := (by unfold parseR; rw [← hs]); rw [e2] at h; subst h; rfl), hH34.new⟩
          · skip
            refine lV (Value.bool false) he24 rfl rfl (he24.want rfl rfl rfl rfl rfl) (rn_gtU rfl (he24.op rfl) (he24.op rfl) (decide_eq_false hb4) w8) ?_
            intro a25 he25
            clear he24 a24
            refine lV (Value.bool false) he25 rfl rfl (wanted_plain rfl _) (rn_pk0 rfl (he25.op rfl) (he25.op rfl) w8) ?_
            intro a26 he26
            clear he25 a25
            refine lV (Value.bool false) he26 rfl rfl (wanted_plain rfl _) (rn_mv rfl (he26.op rfl) w8) ?_
            intro a27 he27
            clear he26 a26
            refine lV (Value.int .i64 0) he27 rfl rfl (he27.want rfl rfl rfl rfl rfl) (rn_mv rfl (he27.op rfl) w8) ?_
            intro a28 he28
            clear he27 a27
            refine lV (Value.pointer (some ⟨p4, 0, none⟩)) he28 rfl rfl (he28.want rfl rfl rfl rfl rfl) (rn_iaY0 rfl (he28.op rfl) (he28.op rfl) rfl w8) ?_
            intro a29 he29
            clear he28 a28
            refine lV (Value.int .i64 n0) he29 rfl rfl (he29.want rfl rfl rfl rfl rfl) (rn_ld1 rfl (he29.op rfl) Tryd.underlying3 (hH8.at (i := 0) rfl) rfl) ?_
            intro a30 he30
            clear he29 a29
            by_cases hb5 : 1099511627776 < n0
            · skip
              refine lV (Value.bool true) he30 rfl rfl (he30.want rfl rfl rfl rfl rfl) (rn_gtI rfl (he30.op rfl) (he30.op rfl) (decide_eq_true hb5) w8) ?_
              intro a31 he31
              clear he30 a30
              refine lV (Value.bool true) he31 rfl rfl (wanted_plain rfl _) (rn_pk0 rfl (he31.op rfl) (he31.op rfl) w8) ?_
              intro a32 he32
              clear he31 a31
              refine wpList_nil ?_
              refine then_ok ?_
              refine wp_cond_true (he32.op rfl) ?_
              refine wp_seq ?_
              refine wp_region_lit ?_
              refine lV (Value.agg #[Value.int .i64 0, Value.int .i64 0]) he32 rfl rfl (wanted_plain rfl _) (rn_bZ rfl  w8) ?_
              intro a33 he33
              clear he32 a32
              refine lSetF 1 #[Value.int .i64 0, Value.int .i64 0] (cs := #[Value.int .i64 0, Value.int .i64 0]) he33 hH8 rfl (wanted_plain rfl _) rfl rfl rfl rfl rfl (by kernel_rfl) (by kernel_rfl) (by kernel_rfl) rfl ?_
              intro w34 a35 hH34 hf he35
              replace hH34 : Hp w [⟨p4, 62, #[Value.int .i64 n0, Value.int .i64 n1]⟩, ⟨p1, 23, #[Value.int .i64 0, Value.int .i64 0]⟩] w34 := hH34
              clear hf
              clear he33 a33 hH8
              refine lV (Value.bool false) he35 rfl rfl (wanted_plain rfl _) (rn_asg rfl (he35.op rfl) w34) ?_
              intro a36 he36
              clear he35 a35
              refine wpList_nil ?_
              refine then_ok ?_
              refine wp_ret ?_
              try simp only [Exit.then, Exit.inBlock, Exit.noGoto]
              exact ret_rowt rfl he36 rfl rfl (hH34.at (i := 1) rfl) undZ rfl infoZ2 ⟨by (rw [hdr, scanL, if_neg (by omega), if_pos (by first | rw [if_pos rfl]; omega | rw [if_neg (by decide)]; omega)] at hs; have e2 : parseR l = none := (by unfold parseR; rw [← hs]); rw [e2] at h; subst h; rfl), hH34.new⟩
            · skip
              refine lV (Value.bool false) he30 rfl rfl (he30.want rfl rfl rfl rfl rfl) (rn_gtI rfl (he30.op rfl) (he30.op rfl) (decide_eq_false hb5) w8) ?_
              intro a31 he31
              clear he30 a30
              refine lV (Value.bool false) he31 rfl rfl (wanted_plain rfl _) (rn_pk0 rfl (he31.op rfl) (he31.op rfl) w8) ?_
              intro a32 he32
              clear he31 a31
              refine wpList_nil ?_
              refine then_ok ?_
              refine wp_cond_false (he32.op rfl) ?_
              refine wp_skip ?_
              refine then_ok ?_
              refine wp_region_split1 (S := Hp w [⟨p4, 62, #[Value.int .i64 n0, Value.int .i64 n1]⟩, ⟨p1, 23, #[Value.int .i64 0, Value.int .i64 0]⟩]) 12 1 (by kernel_rfl) (by kernel_rfl) (by kernel_rfl) ?_
              have hn : New w8 (World.drew w8) := (Fr.refl _ _).drew
              clear hn
              have hH33 := hH8.drew
              clear hH8
              generalize World.drew w8 = w33 at *
              refine hV (fuel := 11) (i := 0) (Value.int .i64 0) he32 rfl rfl rfl (by kernel_rfl) (by kernel_rfl) (by kernel_rfl) (fun _ _ _ h => h) (wanted_plain rfl _) (fun w' _ => rn_mv rfl (he32.op rfl) w') hH33 ?_
              intro a34 he34
              clear he32 a32
              refine hV (fuel := 10) (i := 1) (Value.int .i64 0) he34 rfl rfl rfl (by kernel_rfl) (by kernel_rfl) (by kernel_rfl) (fun _ _ _ h => h) (wanted_plain rfl _) (fun w' _ => rn_mv rfl (he34.op rfl) w') hH33 ?_
              intro a35 he35
              clear he34 a34
              refine hV (fuel := 9) (i := 2) (Value.pointer (some ⟨p4, 0, none⟩)) he35 rfl rfl rfl (by kernel_rfl) (by kernel_rfl) (by kernel_rfl) (fun _ _ _ h => h) (wanted_plain rfl _) (fun w' _ => rn_iaY0 rfl (he35.op rfl) (he35.op rfl) rfl w') hH33 ?_
              intro a36 he36
              clear he35 a35
              refine hV (fuel := 8) (i := 3) (Value.int .i64 n0) he36 rfl rfl rfl (by kernel_rfl) (by kernel_rfl) (by kernel_rfl) (fun _ _ _ h => h) (wanted_plain rfl _) (fun w' hw' => rn_ld1 rfl (he36.op rfl) Tryd.underlying3 (hw'.at (i := 0) rfl) rfl) hH33 ?_
              intro a37 he37
              clear he36 a36
              refine hV (fuel := 7) (i := 4) (Value.int .i64 (10 * n0)) he37 rfl rfl rfl (by kernel_rfl) (by kernel_rfl) (by kernel_rfl) (fun _ _ _ h => h) (wanted_plain rfl _) (fun w' _ => rn_mulI rfl (he37.op rfl) (he37.op rfl) (i64w (by omega) (by omega)) w') hH33 ?_
              intro a38 he38
              clear he37 a37
              refine hV (fuel := 6) (i := 5) (Value.string (bs l)) he38 rfl rfl rfl (by kernel_rfl) (by kernel_rfl) (by kernel_rfl) (fun _ _ _ h => h) (wanted_plain rfl _) (fun w' _ => rn_mv rfl (he38.op rfl) w') hH33 ?_
              intro a39 he39
              clear he38 a38
              refine hV (fuel := 5) (i := 6) (Value.int .i64 (i : Int)) he39 rfl rfl rfl (by kernel_rfl) (by kernel_rfl) (by kernel_rfl) (fun _ _ _ h => h) (wanted_plain rfl _) (fun w' _ => rn_mv rfl (he39.op rfl) w') hH33 ?_
              intro a40 he40
              clear he39 a39
              refine hV (fuel := 4) (i := 7) (Value.int .u8 ((c.toNat : Nat) : Int)) he40 rfl rfl rfl (by kernel_rfl) (by kernel_rfl) (by kernel_rfl) (fun _ _ _ h => h) (wanted_plain rfl _) (fun w' _ => rn_ixS (k := i) rfl (he40.op rfl) (he40.op rfl) hc w') hH33 ?_
              intro a41 he41
              clear he40 a40
              refine hV (fuel := 3) (i := 8) (Value.int .u8 (((c.toNat : Nat) : Int) - 48)) he41 rfl rfl rfl (by kernel_rfl) (by kernel_rfl) (by kernel_rfl) (fun _ _ _ h => h) (wanted_plain rfl _) (fun w' _ => rn_subU rfl (he41.op rfl) (he41.op rfl) (u8w (by omega) (by omega)) w') hH33 ?_
              intro a42 he42
              clear he41 a41
              refine hV (fuel := 2) (i := 9) (Value.int .i64 (((c.toNat : Nat) : Int) - 48)) he42 rfl rfl rfl (by kernel_rfl) (by kernel_rfl) (by kernel_rfl) (fun _ _ _ h => h) (wanted_plain rfl _) (fun w' _ => rn_cvUI rfl (he42.op rfl) (i64w (by omega) (by omega)) w') hH33 ?_
              intro a43 he43
              clear he42 a42
              refine hV (fuel := 1) (i := 10) (Value.int .i64 ((10 * n0) + (((c.toNat : Nat) : Int) - 48))) he43 rfl rfl rfl (by kernel_rfl) (by kernel_rfl) (by kernel_rfl) (fun _ _ _ h => h) (wanted_plain rfl _) (fun w' _ => rn_addI rfl (he43.op rfl) (he43.op rfl) (i64w (by omega) (by omega)) w') hH33 ?_
              intro a44 he44
              clear he43 a43
              refine hV (fuel := 0) (i := 11) (Value.pointer (some ⟨p4, 0, none⟩)) he44 rfl rfl rfl (by kernel_rfl) (by kernel_rfl) (by kernel_rfl) (fun _ _ _ h => h) (wanted_plain rfl _) (fun w' _ => rn_iaY0 rfl (he44.op rfl) (he44.op rfl) rfl w') hH33 ?_
              intro a45 he45
              clear he44 a44
              refine wpAnyH_done (by kernel_rfl) ?_ _
              refine head_done ?_
              refine hSetV (fuel := 0) (n := 12) 0 #[Value.int .i64 ((10 * n0) + (((c.toNat : Nat) : Int) - 48))] (cs := #[Value.int .i64 ((10 * n0) + (((c.toNat : Nat) : Int) - 48)), Value.int .i64 n1]) he45 hH33 (by kernel_rfl) rfl rfl (wanted_plain rfl _) rfl rfl rfl rfl rfl (by kernel_rfl) (by kernel_rfl) (by kernel_rfl) rfl ?_
              intro w46 a47 hH46 hf he47
              replace hH46 : Hp w [⟨p4, 62, #[Value.int .i64 ((10 * n0) + (((c.toNat : Nat) : Int) - 48)), Value.int .i64 n1]⟩, ⟨p1, 23, #[Value.int .i64 0, Value.int .i64 0]⟩] w46 := hH46
              refine ⟨trivial, ?_⟩
              clear hf
              clear he45 a45 hH33
              refine wpAnyH_done (by kernel_rfl) ?_ _
              refine block_ok ?_
              refine then_ok ?_
              refine wp_region_lit ?_
              refine lV (Value.int .i64 (i : Int)) he47 rfl rfl (wanted_plain rfl _) (rn_mv rfl (he47.op rfl) w46) ?_
              intro a48 he48
              clear he47 a47
              refine lV (Value.int .i64 ((i + 1 : Nat) : Int)) he48 rfl rfl (wanted_plain rfl _) (rn_addI rfl (he48.op rfl) (he48.op rfl) (by rw [i64w (by omega) (by omega)]; omega) w46) ?_
              intro a49 he49
              clear he48 a48
              refine lV (Value.int .i64 ((i + 1 : Nat) : Int)) he49 rfl rfl (wanted_plain rfl _) (rn_asg rfl (he49.op rfl) w46) ?_
              intro a50 he50
              clear he49 a49
              refine wpList_nil ?_
              refine then_ok ?_
              rw [hdr, scanL, if_neg (by omega), if_neg (by rw [if_pos rfl]; omega), if_pos rfl] at hs
              exact ⟨l.length - (i + 1), by omega, i + 1, 0, ((10 * n0) + (((c.toNat : Nat) : Int) - 48)), n1, rfl, by omega, by omega, ⟨by omega, by omega⟩, ⟨by omega, by omega⟩, hs, he50.mem ⟨rfl, rfl, rfl, rfl, rfl, trivial⟩, hH46⟩
    · skip
      obtain rfl : k = 1 := by omega
      replace he12 : Env 68 [(11, Value.bool true), (10, Value.int .i64 ((l.length : Nat) : Int)), (9, Value.string (bs l)), (8, Value.int .i64 (i : Int)), (6, Value.int .i64 (i : Int)), (5, Value.int .i64 1), (4, Value.pointer (some ⟨p4, 0, none⟩)), (2, Value.pointer (some ⟨p1, 0, none⟩)), (0, Value.string (bs l))] a12 := he12
      refine wp_region_lit ?_
      refine lV (Value.string (bs l)) he12 rfl rfl (wanted_plain rfl _) (rn_mv rfl (he12.op rfl) w8) ?_
      intro a13 he13
      clear he12 a12
      refine lV (Value.int .i64 (i : Int)) he13 rfl rfl (wanted_plain rfl _) (rn_mv rfl (he13.op rfl) w8) ?_
      intro a14 he14
      clear he13 a13
      refine lV (Value.int .u8 ((c.toNat : Nat) : Int)) he14 rfl rfl (wanted_plain rfl _) (rn_ixS (k := i) rfl (he14.op rfl) (he14.op rfl) hc w8) ?_
      intro a15 he15
      clear he14 a14
      by_cases hb2 : ((c.toNat : Nat) : Int) = 58
      · skip
        refine lV (Value.bool true) he15 rfl rfl (wanted_plain rfl _) (rn_eqU rfl (he15.op rfl) (he15.op rfl) (beqT hb2) w8) ?_
        intro a16 he16
        clear he15 a15
        refine wpList_nil ?_
        refine then_ok ?_
        refine wp_cond_true (he16.op rfl) ?_
        refine wp_seq ?_
        refine wp_region_lit ?_
        refine lV (Value.int .i64 1) he16 rfl rfl (wanted_plain rfl _) (rn_mv rfl (he16.op rfl) w8) ?_
        intro a17 he17
        clear he16 a16
        refine lV (Value.int .i64 2) he17 rfl rfl (wanted_plain rfl _) (rn_addI rfl (he17.op rfl) (he17.op rfl) (by rfl) w8) ?_
        intro a18 he18
        clear he17 a17
        refine lV (Value.int .i64 2) he18 rfl rfl (wanted_plain rfl _) (rn_asg rfl (he18.op rfl) w8) ?_
        intro a19 he19
        clear he18 a18
        refine wpList_nil ?_
        refine then_ok ?_
        refine wp_seq ?_
        refine wp_seq ?_
        refine wp_region_lit ?_
        refine lV (Value.int .i64 2) he19 rfl rfl (wanted_plain rfl _) (rn_mv rfl (he19.op rfl) w8) ?_
        intro a20 he20
        clear he19 a19
        refine lV (Value.bool true) he20 rfl rfl (wanted_plain rfl _) (rn_gtI rfl (he20.op rfl) (he20.op rfl) (by decide) w8) ?_
        intro a21 he21
        clear he20 a20
        refine wpList_nil ?_
        refine then_ok ?_
        refine wp_cond_true (he21.op rfl) ?_
        refine wp_seq ?_
        refine wp_region_lit ?_
        refine lV (Value.agg #[Value.int .i64 0, Value.int .i64 0]) he21 rfl rfl (wanted_plain rfl _) (rn_bZ rfl  w8) ?_
        intro a22 he22
        clear he21 a21
        refine lSetF 1 #[Value.int .i64 0, Value.int .i64 0] (cs := #[Value.int .i64 0, Value.int .i64 0]) he22 hH8 rfl (wanted_plain rfl _) rfl rfl rfl rfl rfl (by kernel_rfl) (by kernel_rfl) (by kernel_rfl) rfl ?_
        intro w23 a24 hH23 hf he24
        replace hH23 : Hp w [⟨p4, 62, #[Value.int .i64 n0, Value.int .i64 n1]⟩, ⟨p1, 23, #[Value.int .i64 0, Value.int .i64 0]⟩] w23 := hH23
        clear hf
        clear he22 a22 hH8
        refine lV (Value.bool false) he24 rfl rfl (wanted_plain rfl _) (rn_asg rfl (he24.op rfl) w23) ?_
        intro a25 he25
        clear he24 a24
        refine wpList_nil ?_
        refine then_ok ?_
        refine wp_ret ?_
        try simp only [Exit.then, Exit.inBlock, Exit.noGoto]
        exact ret_rowt rfl he25 rfl rfl (hH23.at (i := 1) rfl) undZ rfl infoZ2 ⟨by (rw [hdr, scanL, if_pos (by omega), if_neg (by decide)] at hs; have e2 : parseR l = none := (by unfold parseR; rw [← hs]); rw [e2] at h; subst h; rfl), hH23.new⟩
      · skip
        refine lV (Value.bool false) he15 rfl rfl (wanted_plain rfl _) (rn_eqU rfl (he15.op rfl) (he15.op rfl) (beqF hb2) w8) ?_
        intro a16 he16
        clear he15 a15
        refine wpList_nil ?_
        refine then_ok ?_
        refine wp_cond_false (he16.op rfl) ?_
        refine wp_skip ?_
        refine then_ok ?_
        refine wp_seq ?_
        refine wp_seq ?_
        refine wp_region_lit ?_
        refine lV (Value.string (bs l)) he16 rfl rfl (wanted_plain rfl _) (rn_mv rfl (he16.op rfl) w8) ?_
        intro a17 he17
        clear he16 a16
        refine lV (Value.int .i64 (i : Int)) he17 rfl rfl (wanted_plain rfl _) (rn_mv rfl (he17.op rfl) w8) ?_
        intro a18 he18
        clear he17 a17
        refine lV (Value.int .u8 ((c.toNat : Nat) : Int)) he18 rfl rfl (wanted_plain rfl _) (rn_ixS (k := i) rfl (he18.op rfl) (he18.op rfl) hc w8) ?_
        intro a19 he19
        clear he18 a18
        by_cases hb3 : ((c.toNat : Nat) : Int) < 48
        · skip
          refine lV (Value.bool true) he19 rfl rfl (wanted_plain rfl _) (rn_lsU rfl (he19.op rfl) (he19.op rfl) (decide_eq_true hb3) w8) ?_
          intro a20 he20
          clear he19 a19
          refine lV (Value.bool true) he20 rfl rfl (wanted_plain rfl _) (rn_mv rfl (he20.op rfl) w8) ?_
          intro a21 he21
          clear he20 a20
          refine lSkip he21 rfl rfl (he21.wantNot rfl rfl rfl rfl rfl rfl) ?_
          intro a22 he22
          clear he21 a21
          refine lSkip he22 rfl rfl (he22.wantNot rfl rfl rfl rfl rfl rfl) ?_
          intro a23 he23
          clear he22 a22
          refine lSkip he23 rfl rfl (he23.wantNot rfl rfl rfl rfl rfl rfl) ?_
          intro a24 he24
          clear he23 a23
          refine lSkip he24 rfl rfl (he24.wantNot rfl rfl rfl rfl rfl rfl) ?_
          intro a25 he25
          clear he24 a24
          refine lV (Value.bool true) he25 rfl rfl (wanted_plain rfl _) (rn_pk rfl (he25.op rfl) (he25.op rfl) w8) ?_
          intro a26 he26
          clear he25 a25
          refine lV (Value.bool true) he26 rfl rfl (wanted_plain rfl _) (rn_mv rfl (he26.op rfl) w8) ?_
          intro a27 he27
          clear he26 a26
          refine lSkip he27 rfl rfl (he27.wantNot rfl rfl rfl rfl rfl rfl) ?_
          intro a28 he28
          clear he27 a27
          refine lSkip he28 rfl rfl (he28.wantNot rfl rfl rfl rfl rfl rfl) ?_
          intro a29 he29
          clear he28 a28
          refine lSkip he29 rfl rfl (he29.wantNot rfl rfl rfl rfl rfl rfl) ?_
          intro a30 he30
          clear he29 a29
          refine lSkip he30 rfl rfl (he30.wantNot rfl rfl rfl rfl rfl rfl) ?_
          intro a31 he31
          clear he30 a30
          refine lV (Value.bool true) he31 rfl rfl (wanted_plain rfl _) (rn_pk rfl (he31.op rfl) (he31.op rfl) w8) ?_
          intro a32 he32
          clear he31 a31
          refine wpList_nil ?_
          refine then_ok ?_
          refine wp_cond_true (he32.op rfl) ?_
          refine wp_seq ?_
          refine wp_region_lit ?_
          refine lV (Value.agg #[Value.int .i64 0, Value.int .i64 0]) he32 rfl rfl (wanted_plain rfl _) (rn_bZ rfl  w8) ?_
          intro a33 he33
          clear he32 a32
          refine lSetF 1 #[Value.int .i64 0, Value.int .i64 0] (cs := #[Value.int .i64 0, Value.int .i64 0]) he33 hH8 rfl (wanted_plain rfl _) rfl rfl rfl rfl rfl (by kernel_rfl) (by kernel_rfl) (by kernel_rfl) rfl ?_
          intro w34 a35 hH34 hf he35
          replace hH34 : Hp w [⟨p4, 62, #[Value.int .i64 n0, Value.int .i64 n1]⟩, ⟨p1, 23, #[Value.int .i64 0, Value.int .i64 0]⟩] w34 := hH34
          clear hf
          clear he33 a33 hH8
          refine lV (Value.bool false) he35 rfl rfl (wanted_plain rfl _) (rn_asg rfl (he35.op rfl) w34) ?_
          intro a36 he36
          clear he35 a35
          refine wpList_nil ?_
          refine then_ok ?_
          refine wp_ret ?_
          try simp only [Exit.then, Exit.inBlock, Exit.noGoto]
          exact ret_rowt rfl he36 rfl rfl (hH34.at (i := 1) rfl) undZ rfl infoZ2 ⟨by (rw [hdr, scanL, if_neg (by omega), if_pos (by first | rw [if_pos rfl]; omega | rw [if_neg (by decide)]; omega)] at hs; have e2 : parseR l = none := (by unfold parseR; rw [← hs]); rw [e2] at h; subst h; rfl), hH34.new⟩
        · skip
          refine lV (Value.bool false) he19 rfl rfl (wanted_plain rfl _) (rn_lsU rfl (he19.op rfl) (he19.op rfl) (decide_eq_false hb3) w8) ?_
          intro a20 he20
          clear he19 a19
          refine lV (Value.bool false) he20 rfl rfl (wanted_plain rfl _) (rn_mv rfl (he20.op rfl) w8) ?_
          intro a21 he21
          clear he20 a20
          refine lV (Value.string (bs l)) he21 rfl rfl (he21.want rfl rfl rfl rfl rfl) (rn_mv rfl (he21.op rfl) w8) ?_
          intro a22 he22
          clear he21 a21
          refine lV (Value.int .i64 (i : Int)) he22 rfl rfl (he22.want rfl rfl rfl rfl rfl) (rn_mv rfl (he22.op rfl) w8) ?_
          intro a23 he23
          clear he22 a22
          refine lV (Value.int .u8 ((c.toNat : Nat) : Int)) he23 rfl rfl (he23.want rfl rfl rfl rfl rfl) (rn_ixS (k := i) rfl (he23.op rfl) (he23.op rfl) hc w8) ?_
          intro a24 he24
          clear he23 a23
          by_cases hb4 : 57 < ((c.toNat : Nat) : Int)
          · skip
            refine lV (Value.bool true) he24 rfl rfl (he24.want rfl rfl rfl rfl rfl) (rn_gtU rfl (he24.op rfl) (he24.op rfl) (decide_eq_true hb4) w8) ?_
            intro a25 he25
            clear he24 a24
            refine lV (Value.bool true) he25 rfl rfl (wanted_plain rfl _) (rn_pk0 rfl (he25.op rfl) (he25.op rfl) w8) ?_
            intro a26 he26
            clear he25 a25
            refine lV (Value.bool true) he26 rfl rfl (wanted_plain rfl _) (rn_mv rfl (he26.op rfl) w8) ?_
            intro a27 he27
            clear he26 a26
            refine lSkip he27 rfl rfl (he27.wantNot rfl rfl rfl rfl rfl rfl) ?_
            intro a28 he28
            clear he27 a27
            refine lSkip he28 rfl rfl (he28.wantNot rfl rfl rfl rfl rfl rfl) ?_
            intro a29 he29
            clear he28 a28
            refine lSkip he29 rfl rfl (he29.wantNot rfl rfl rfl rfl rfl rfl) ?_
            intro a30 he30
            clear he29 a29
            refine lSkip he30 rfl rfl (he30.wantNot rfl rfl rfl rfl rfl rfl) ?_
            intro a31 he31
            clear he30 a30
            refine lV (Value.bool true) he31 rfl rfl (wanted_plain rfl _) (rn_pk rfl (he31.op rfl) (he31.op rfl) w8) ?_
            intro a32 he32
            clear he31 a31
            refine wpList_nil ?_
            refine then_ok ?_
            refine wp_cond_true (he32.op rfl) ?_
            refine wp_seq ?_
            refine wp_region_lit ?_
            refine lV (Value.agg #[Value.int .i64 0, Value.int .i64 0]) he32 rfl rfl (wanted_plain rfl _) (rn_bZ rfl  w8) ?_
            intro a33 he33
            clear he32 a32
            refine lSetF 1 #[Value.int .i64 0, Value.int .i64 0] (cs := #[Value.int .i64 0, Value.int .i64 0]) he33 hH8 rfl (wanted_plain rfl _) rfl rfl rfl rfl rfl (by kernel_rfl) (by kernel_rfl) (by kernel_rfl) rfl ?_
            intro w34 a35 hH34 hf he35
            replace hH34 : Hp w [⟨p4, 62, #[Value.int .i64 n0, Value.int .i64 n1]⟩, ⟨p1, 23, #[Value.int .i64 0, Value.int .i64 0]⟩] w34 := hH34
            clear hf
            clear he33 a33 hH8
            refine lV (Value.bool false) he35 rfl rfl (wanted_plain rfl _) (rn_asg rfl (he35.op rfl) w34) ?_
            intro a36 he36
            clear he35 a35
            refine wpList_nil ?_
            refine then_ok ?_
            refine wp_ret ?_
            try simp only [Exit.then, Exit.inBlock, Exit.noGoto]
            exact ret_rowt rfl he36 rfl rfl (hH34.at (i := 1) rfl) undZ rfl infoZ2 ⟨by (rw [hdr, scanL, if_neg (by omega), if_pos (by first | rw [if_pos rfl]; omega | rw [if_neg (by decide)]; omega)] at hs; have e2 : parseR l = none := (by unfold parseR; rw [← hs]); rw [e2] at h; subst h; rfl), hH34.new⟩
          · skip
            refine lV (Value.bool false) he24 rfl rfl (he24.want rfl rfl rfl rfl rfl) (rn_gtU rfl (he24.op rfl) (he24.op rfl) (decide_eq_false hb4) w8) ?_
            intro a25 he25
            clear he24 a24
            refine lV (Value.bool false) he25 rfl rfl (wanted_plain rfl _) (rn_pk0 rfl (he25.op rfl) (he25.op rfl) w8) ?_
            intro a26 he26
            clear he25 a25
            refine lV (Value.bool false) he26 rfl rfl (wanted_plain rfl _) (rn_mv rfl (he26.op rfl) w8) ?_
            intro a27 he27
            clear he26 a26
            refine lV (Value.int .i64 1) he27 rfl rfl (he27.want rfl rfl rfl rfl rfl) (rn_mv rfl (he27.op rfl) w8) ?_
            intro a28 he28
            clear he27 a27
            refine lV (Value.pointer (some ⟨p4, 1, none⟩)) he28 rfl rfl (he28.want rfl rfl rfl rfl rfl) (rn_iaY1 rfl (he28.op rfl) (he28.op rfl) rfl w8) ?_
            intro a29 he29
            clear he28 a28
            refine lV (Value.int .i64 n1) he29 rfl rfl (he29.want rfl rfl rfl rfl rfl) (rn_ld1 rfl (he29.op rfl) Tryd.underlying3 (hH8.at (i := 0) rfl) rfl) ?_
            intro a30 he30
            clear he29 a29
            by_cases hb5 : 1099511627776 < n1
            · skip
              refine lV (Value.bool true) he30 rfl rfl (he30.want rfl rfl rfl rfl rfl) (rn_gtI rfl (he30.op rfl) (he30.op rfl) (decide_eq_true hb5) w8) ?_
              intro a31 he31
              clear he30 a30
              refine lV (Value.bool true) he31 rfl rfl (wanted_plain rfl _) (rn_pk0 rfl (he31.op rfl) (he31.op rfl) w8) ?_
              intro a32 he32
              clear he31 a31
              refine wpList_nil ?_
              refine then_ok ?_
              refine wp_cond_true (he32.op rfl) ?_
              refine wp_seq ?_
              refine wp_region_lit ?_
              refine lV (Value.agg #[Value.int .i64 0, Value.int .i64 0]) he32 rfl rfl (wanted_plain rfl _) (rn_bZ rfl  w8) ?_
              intro a33 he33
              clear he32 a32
              refine lSetF 1 #[Value.int .i64 0, Value.int .i64 0] (cs := #[Value.int .i64 0, Value.int .i64 0]) he33 hH8 rfl (wanted_plain rfl _) rfl rfl rfl rfl rfl (by kernel_rfl) (by kernel_rfl) (by kernel_rfl) rfl ?_
              intro w34 a35 hH34 hf he35
              replace hH34 : Hp w [⟨p4, 62, #[Value.int .i64 n0, Value.int .i64 n1]⟩, ⟨p1, 23, #[Value.int .i64 0, Value.int .i64 0]⟩] w34 := hH34
              clear hf
              clear he33 a33 hH8
              refine lV (Value.bool false) he35 rfl rfl (wanted_plain rfl _) (rn_asg rfl (he35.op rfl) w34) ?_
              intro a36 he36
              clear he35 a35
              refine wpList_nil ?_
              refine then_ok ?_
              refine wp_ret ?_
              try simp only [Exit.then, Exit.inBlock, Exit.noGoto]
              exact ret_rowt rfl he36 rfl rfl (hH34.at (i := 1) rfl) undZ rfl infoZ2 ⟨by (rw [hdr, scanL, if_neg (by omega), if_pos (by first | rw [if_pos rfl]; omega | rw [if_neg (by decide)]; omega)] at hs; have e2 : parseR l = none := (by unfold parseR; rw [← hs]); rw [e2] at h; subst h; rfl), hH34.new⟩
            · skip
              refine lV (Value.bool false) he30 rfl rfl (he30.want rfl rfl rfl rfl rfl) (rn_gtI rfl (he30.op rfl) (he30.op rfl) (decide_eq_false hb5) w8) ?_
              intro a31 he31
              clear he30 a30
              refine lV (Value.bool false) he31 rfl rfl (wanted_plain rfl _) (rn_pk0 rfl (he31.op rfl) (he31.op rfl) w8) ?_
              intro a32 he32
              clear he31 a31
              refine wpList_nil ?_
              refine then_ok ?_
              refine wp_cond_false (he32.op rfl) ?_
              refine wp_skip ?_
              refine then_ok ?_
              refine wp_region_split1 (S := Hp w [⟨p4, 62, #[Value.int .i64 n0, Value.int .i64 n1]⟩, ⟨p1, 23, #[Value.int .i64 0, Value.int .i64 0]⟩]) 12 1 (by kernel_rfl) (by kernel_rfl) (by kernel_rfl) ?_
              have hn : New w8 (World.drew w8) := (Fr.refl _ _).drew
              clear hn
              have hH33 := hH8.drew
              clear hH8
              generalize World.drew w8 = w33 at *
              refine hV (fuel := 11) (i := 0) (Value.int .i64 1) he32 rfl rfl rfl (by kernel_rfl) (by kernel_rfl) (by kernel_rfl) (fun _ _ _ h => h) (wanted_plain rfl _) (fun w' _ => rn_mv rfl (he32.op rfl) w') hH33 ?_
              intro a34 he34
              clear he32 a32
              refine hV (fuel := 10) (i := 1) (Value.int .i64 1) he34 rfl rfl rfl (by kernel_rfl) (by kernel_rfl) (by kernel_rfl) (fun _ _ _ h => h) (wanted_plain rfl _) (fun w' _ => rn_mv rfl (he34.op rfl) w') hH33 ?_
              intro a35 he35
              clear he34 a34
              refine hV (fuel := 9) (i := 2) (Value.pointer (some ⟨p4, 1, none⟩)) he35 rfl rfl rfl (by kernel_rfl) (by kernel_rfl) (by kernel_rfl) (fun _ _ _ h => h) (wanted_plain rfl _) (fun w' _ => rn_iaY1 rfl (he35.op rfl) (he35.op rfl) rfl w') hH33 ?_
              intro a36 he36
              clear he35 a35
              refine hV (fuel := 8) (i := 3) (Value.int .i64 n1) he36 rfl rfl rfl (by kernel_rfl) (by kernel_rfl) (by kernel_rfl) (fun _ _ _ h => h) (wanted_plain rfl _) (fun w' hw' => rn_ld1 rfl (he36.op rfl) Tryd.underlying3 (hw'.at (i := 0) rfl) rfl) hH33 ?_
              intro a37 he37
              clear he36 a36
              refine hV (fuel := 7) (i := 4) (Value.int .i64 (10 * n1)) he37 rfl rfl rfl (by kernel_rfl) (by kernel_rfl) (by kernel_rfl) (fun _ _ _ h => h) (wanted_plain rfl _) (fun w' _ => rn_mulI rfl (he37.op rfl) (he37.op rfl) (i64w (by omega) (by omega)) w') hH33 ?_
              intro a38 he38
              clear he37 a37
              refine hV (fuel := 6) (i := 5) (Value.string (bs l)) he38 rfl rfl rfl (by kernel_rfl) (by kernel_rfl) (by kernel_rfl) (fun _ _ _ h => h) (wanted_plain rfl _) (fun w' _ => rn_mv rfl (he38.op rfl) w') hH33 ?_
              intro a39 he39
              clear he38 a38
              refine hV (fuel := 5) (i := 6) (Value.int .i64 (i : Int)) he39 rfl rfl rfl (by kernel_rfl) (by kernel_rfl) (by kernel_rfl) (fun _ _ _ h => h) (wanted_plain rfl _) (fun w' _ => rn_mv rfl (he39.op rfl) w') hH33 ?_
              intro a40 he40
              clear he39 a39
              refine hV (fuel := 4) (i := 7) (Value.int .u8 ((c.toNat : Nat) : Int)) he40 rfl rfl rfl (by kernel_rfl) (by kernel_rfl) (by kernel_rfl) (fun _ _ _ h => h) (wanted_plain rfl _) (fun w' _ => rn_ixS (k := i) rfl (he40.op rfl) (he40.op rfl) hc w') hH33 ?_
              intro a41 he41
              clear he40 a40
              refine hV (fuel := 3) (i := 8) (Value.int .u8 (((c.toNat : Nat) : Int) - 48)) he41 rfl rfl rfl (by kernel_rfl) (by kernel_rfl) (by kernel_rfl) (fun _ _ _ h => h) (wanted_plain rfl _) (fun w' _ => rn_subU rfl (he41.op rfl) (he41.op rfl) (u8w (by omega) (by omega)) w') hH33 ?_
              intro a42 he42
              clear he41 a41
              refine hV (fuel := 2) (i := 9) (Value.int .i64 (((c.toNat : Nat) : Int) - 48)) he42 rfl rfl rfl (by kernel_rfl) (by kernel_rfl) (by kernel_rfl) (fun _ _ _ h => h) (wanted_plain rfl _) (fun w' _ => rn_cvUI rfl (he42.op rfl) (i64w (by omega) (by omega)) w') hH33 ?_
              intro a43 he43
              clear he42 a42
              refine hV (fuel := 1) (i := 10) (Value.int .i64 ((10 * n1) + (((c.toNat : Nat) : Int) - 48))) he43 rfl rfl rfl (by kernel_rfl) (by kernel_rfl) (by kernel_rfl) (fun _ _ _ h => h) (wanted_plain rfl _) (fun w' _ => rn_addI rfl (he43.op rfl) (he43.op rfl) (i64w (by omega) (by omega)) w') hH33 ?_
              intro a44 he44
              clear he43 a43
              refine hV (fuel := 0) (i := 11) (Value.pointer (some ⟨p4, 1, none⟩)) he44 rfl rfl rfl (by kernel_rfl) (by kernel_rfl) (by kernel_rfl) (fun _ _ _ h => h) (wanted_plain rfl _) (fun w' _ => rn_iaY1 rfl (he44.op rfl) (he44.op rfl) rfl w') hH33 ?_
              intro a45 he45
              clear he44 a44
              refine wpAnyH_done (by kernel_rfl) ?_ _
              refine head_done ?_
              refine hSetV (fuel := 0) (n := 12) 0 #[Value.int .i64 ((10 * n1) + (((c.toNat : Nat) : Int) - 48))] (cs := #[Value.int .i64 n0, Value.int .i64 ((10 * n1) + (((c.toNat : Nat) : Int) - 48))]) he45 hH33 (by kernel_rfl) rfl rfl (wanted_plain rfl _) rfl rfl rfl rfl rfl (by kernel_rfl) (by kernel_rfl) (by kernel_rfl) rfl ?_
              intro w46 a47 hH46 hf he47
              replace hH46 : Hp w [⟨p4, 62, #[Value.int .i64 n0, Value.int .i64 ((10 * n1) + (((c.toNat : Nat) : Int) - 48))]⟩, ⟨p1, 23, #[Value.int .i64 0, Value.int .i64 0]⟩] w46 := hH46
              refine ⟨trivial, ?_⟩
              clear hf
              clear he45 a45 hH33
              refine wpAnyH_done (by kernel_rfl) ?_ _
              refine block_ok ?_
              refine then_ok ?_
              refine wp_region_lit ?_
              refine lV (Value.int .i64 (i : Int)) he47 rfl rfl (wanted_plain rfl _) (rn_mv rfl (he47.op rfl) w46) ?_
              intro a48 he48
              clear he47 a47
              refine lV (Value.int .i64 ((i + 1 : Nat) : Int)) he48 rfl rfl (wanted_plain rfl _) (rn_addI rfl (he48.op rfl) (he48.op rfl) (by rw [i64w (by omega) (by omega)]; omega) w46) ?_
              intro a49 he49
              clear he48 a48
              refine lV (Value.int .i64 ((i + 1 : Nat) : Int)) he49 rfl rfl (wanted_plain rfl _) (rn_asg rfl (he49.op rfl) w46) ?_
              intro a50 he50
              clear he49 a49
              refine wpList_nil ?_
              refine then_ok ?_
              rw [hdr, scanL, if_neg (by omega), if_neg (by rw [if_neg (by decide)]; omega), if_neg (by decide)] at hs
              exact ⟨l.length - (i + 1), by omega, i + 1, 1, n0, ((10 * n1) + (((c.toNat : Nat) : Int) - 48)), rfl, by omega, by omega, ⟨by omega, by omega⟩, ⟨by omega, by omega⟩, hs, he50.mem ⟨rfl, rfl, rfl, rfl, rfl, trivial⟩, hH46⟩
  · skip
    refine lV (Value.bool false) he11 rfl rfl (wanted_plain rfl _) (rn_lsI rfl (he11.op rfl) (he11.op rfl) (decide_eq_false hb0) w8) ?_
    intro a12 he12
    clear he11 a11
    refine wpList_nil ?_
    refine then_ok ?_
    refine wp_cond_false (he12.op rfl) ?_
    refine wp_exit ?_
    refine then_exit ?_
    refine then_exit ?_
    refine block_exit ?_
    refine then_ok ?_
    refine wp_seq ?_
    have hfin : scanL l 0 0 0 = some (n0, n1) := by rw [← hs, List.drop_eq_nil_of_le (by omega), scanL]
    refine wp_region_lit ?_
    refine lV (Value.pointer (some ⟨p4, 0, none⟩)) he12 rfl rfl (wanted_plain rfl _) (rn_iaY0 rfl (he12.op rfl) (he12.op rfl) rfl w8) ?_
    intro a13 he13
    clear he12 a12
    refine lV (Value.int .i64 n0) he13 rfl rfl (wanted_plain rfl _) (rn_ld1 rfl (he13.op rfl) Tryd.underlying3 (hH8.at (i := 0) rfl) rfl) ?_
    intro a14 he14
    clear he13 a13
    refine lV (Value.pointer (some ⟨p4, 1, none⟩)) he14 rfl rfl (wanted_plain rfl _) (rn_iaY1 rfl (he14.op rfl) (he14.op rfl) rfl w8) ?_
    intro a15 he15
    clear he14 a14
    refine lV (Value.int .i64 n1) he15 rfl rfl (wanted_plain rfl _) (rn_ld1 rfl (he15.op rfl) Tryd.underlying3 (hH8.at (i := 0) rfl) rfl) ?_
    intro a16 he16
    clear he15 a15
    refine lV (Value.agg #[Value.int .i64 n0, Value.int .i64 n1]) he16 rfl rfl (wanted_plain rfl _) (rn_bZ01 rfl (he16.op rfl) (he16.op rfl) w8) ?_
    intro a17 he17
    clear he16 a16
    refine lNewP (fun p => .pointer (some ⟨p, 0, none⟩)) he17 hH8 rfl rfl (wanted_plain rfl _) (rn_allocZ rfl w8) ?_
    intro p18 w18 a19 hp hn hH18 he19
    clear he17 a17 hH8 hn hp
    refine lSetF 0 #[Value.int .i64 n0, Value.int .i64 n1] (cs := #[Value.int .i64 n0, Value.int .i64 n1]) he19 hH18 rfl (wanted_plain rfl _) rfl rfl rfl rfl rfl (by kernel_rfl) (by kernel_rfl) (by kernel_rfl) rfl ?_
    intro w20 a21 hH20 hf he21
    replace hH20 : Hp w [⟨p18, 23, #[Value.int .i64 n0, Value.int .i64 n1]⟩, ⟨p4, 62, #[Value.int .i64 n0, Value.int .i64 n1]⟩, ⟨p1, 23, #[Value.int .i64 0, Value.int .i64 0]⟩] w20 := hH20
    clear hf
    clear he19 a19 hH18
    refine wpList_nil ?_
    refine then_ok ?_
    refine wp_seq ?_
    refine wp_seq ?_
    refine wp_region_lit ?_
    refine lV (Value.agg #[Value.int .i64 n0, Value.int .i64 n1]) he21 rfl rfl (wanted_plain rfl _) (rn_ldp [Value.int .i64 n0, Value.int .i64 n1] rfl (he21.op rfl) undZ rfl infoZ2 (hH20.at (i := 0) rfl) rfl) ?_
    intro a22 he22
    clear he21 a21
    by_cases hb1 : okP (⟨n0, n1⟩ : Pl)
    · skip
      try dsimp only [okP, befP, colP, inP, argC, idxP] at hb1
      refine lC he22 rfl rfl Tryd.func10 (by kernel_rfl) rfl rfl (wanted_plain rfl _) rfl (RValid_c (⟨n0, n1⟩ : Pl) true (decide_eq_true hb1) w20) ?_
      intro w23 a24 hn he24
      have hH23 := hH20.call hn
      clear he22 a22 hH20 hn
      refine lV (Value.bool false) he24 rfl rfl (wanted_plain rfl _) (rn_not (b := true) rfl (he24.op rfl) w23) ?_
      intro a25 he25
      clear he24 a24
      refine lV (Value.bool false) he25 rfl rfl (wanted_plain rfl _) (rn_mv rfl (he25.op rfl) w23) ?_
      intro a26 he26
      clear he25 a25
      refine lV (Value.agg #[Value.int .i64 n0, Value.int .i64 n1]) he26 rfl rfl (he26.want rfl rfl rfl rfl rfl) (rn_ldp [Value.int .i64 n0, Value.int .i64 n1] rfl (he26.op rfl) undZ rfl infoZ2 (hH23.at (i := 0) rfl) rfl) ?_
      intro a27 he27
      clear he26 a26
      refine lC he27 rfl rfl Tryd.func23 (by kernel_rfl) rfl rfl (he27.want rfl rfl rfl rfl rfl) rfl (RText_c (⟨n0, n1⟩ : Pl) hb1 w23) ?_
      intro w28 a29 hn he29
      have hH28 := hH23.call hn
      clear he27 a27 hH23 hn
      refine lV (Value.string (bs l)) he29 rfl rfl (he29.want rfl rfl rfl rfl rfl) (rn_mv rfl (he29.op rfl) w28) ?_
      intro a30 he30
      clear he29 a29
      by_cases hb2 : (textL (⟨n0, n1⟩ : Pl)) = l
      · skip
        try dsimp only [okP, befP, colP, inP, argC, idxP] at hb2
        refine lV (Value.bool false) he30 rfl rfl (he30.want rfl rfl rfl rfl rfl) (rn_neS (a := (textL (⟨n0, n1⟩ : Pl))) (c := l) rfl (he30.op rfl) (he30.op rfl) (ndT hb2) w28) ?_
        intro a31 he31
        clear he30 a30
        refine lV (Value.bool false) he31 rfl rfl (wanted_plain rfl _) (rn_pk0 rfl (he31.op rfl) (he31.op rfl) w28) ?_
        intro a32 he32
        clear he31 a31
        refine wpList_nil ?_
        refine then_ok ?_
        refine wp_cond_false (he32.op rfl) ?_
        refine wp_skip ?_
        refine then_ok ?_
        refine wp_seq ?_
        refine wp_region_lit ?_
        refine lV (Value.agg #[Value.int .i64 n0, Value.int .i64 n1]) he32 rfl rfl (wanted_plain rfl _) (rn_ldp [Value.int .i64 n0, Value.int .i64 n1] rfl (he32.op rfl) undZ rfl infoZ2 (hH28.at (i := 0) rfl) rfl) ?_
        intro a33 he33
        clear he32 a32
        refine lSetF 2 #[Value.int .i64 n0, Value.int .i64 n1] (cs := #[Value.int .i64 n0, Value.int .i64 n1]) he33 hH28 rfl (wanted_plain rfl _) rfl rfl rfl rfl rfl (by kernel_rfl) (by kernel_rfl) (by kernel_rfl) rfl ?_
        intro w34 a35 hH34 hf he35
        replace hH34 : Hp w [⟨p18, 23, #[Value.int .i64 n0, Value.int .i64 n1]⟩, ⟨p4, 62, #[Value.int .i64 n0, Value.int .i64 n1]⟩, ⟨p1, 23, #[Value.int .i64 n0, Value.int .i64 n1]⟩] w34 := hH34
        clear hf
        clear he33 a33 hH28
        refine lV (Value.bool true) he35 rfl rfl (wanted_plain rfl _) (rn_asg rfl (he35.op rfl) w34) ?_
        intro a36 he36
        clear he35 a35
        refine wpList_nil ?_
        refine then_ok ?_
        refine wp_ret ?_
        try simp only [Exit.then, Exit.inBlock, Exit.noGoto]
        exact ret_rowt rfl he36 rfl rfl (hH34.at (i := 2) rfl) undZ rfl infoZ2 ⟨by (unfold parseR at h; rw [hfin] at h; simp only at h; (first | rw [if_pos ⟨by assumption, by assumption⟩] at h | rw [if_neg (fun hh => absurd hh.1 (by assumption))] at h | rw [if_neg (fun hh => absurd hh.2 (by assumption))] at h); subst h; rfl), hH34.new⟩
      · skip
        try dsimp only [okP, befP, colP, inP, argC, idxP] at hb2
        refine lV (Value.bool true) he30 rfl rfl (he30.want rfl rfl rfl rfl rfl) (rn_neS (a := (textL (⟨n0, n1⟩ : Pl))) (c := l) rfl (he30.op rfl) (he30.op rfl) (ndF hb2) w28) ?_
        intro a31 he31
        clear he30 a30
        refine lV (Value.bool true) he31 rfl rfl (wanted_plain rfl _) (rn_pk0 rfl (he31.op rfl) (he31.op rfl) w28) ?_
        intro a32 he32
        clear he31 a31
        refine wpList_nil ?_
        refine then_ok ?_
        refine wp_cond_true (he32.op rfl) ?_
        refine wp_seq ?_
        refine wp_region_lit ?_
        refine lV (Value.agg #[Value.int .i64 0, Value.int .i64 0]) he32 rfl rfl (wanted_plain rfl _) (rn_bZ rfl  w28) ?_
        intro a33 he33
        clear he32 a32
        refine lSetF 2 #[Value.int .i64 0, Value.int .i64 0] (cs := #[Value.int .i64 0, Value.int .i64 0]) he33 hH28 rfl (wanted_plain rfl _) rfl rfl rfl rfl rfl (by kernel_rfl) (by kernel_rfl) (by kernel_rfl) rfl ?_
        intro w34 a35 hH34 hf he35
        replace hH34 : Hp w [⟨p18, 23, #[Value.int .i64 n0, Value.int .i64 n1]⟩, ⟨p4, 62, #[Value.int .i64 n0, Value.int .i64 n1]⟩, ⟨p1, 23, #[Value.int .i64 0, Value.int .i64 0]⟩] w34 := hH34
        clear hf
        clear he33 a33 hH28
        refine lV (Value.bool false) he35 rfl rfl (wanted_plain rfl _) (rn_asg rfl (he35.op rfl) w34) ?_
        intro a36 he36
        clear he35 a35
        refine wpList_nil ?_
        refine then_ok ?_
        refine wp_ret ?_
        try simp only [Exit.then, Exit.inBlock, Exit.noGoto]
        exact ret_rowt rfl he36 rfl rfl (hH34.at (i := 2) rfl) undZ rfl infoZ2 ⟨by (unfold parseR at h; rw [hfin] at h; simp only at h; (first | rw [if_pos ⟨by assumption, by assumption⟩] at h | rw [if_neg (fun hh => absurd hh.1 (by assumption))] at h | rw [if_neg (fun hh => absurd hh.2 (by assumption))] at h); subst h; rfl), hH34.new⟩
    · skip
      try dsimp only [okP, befP, colP, inP, argC, idxP] at hb1
      refine lC he22 rfl rfl Tryd.func10 (by kernel_rfl) rfl rfl (wanted_plain rfl _) rfl (RValid_c (⟨n0, n1⟩ : Pl) false (decide_eq_false hb1) w20) ?_
      intro w23 a24 hn he24
      have hH23 := hH20.call hn
      clear he22 a22 hH20 hn
      refine lV (Value.bool true) he24 rfl rfl (wanted_plain rfl _) (rn_not (b := false) rfl (he24.op rfl) w23) ?_
      intro a25 he25
      clear he24 a24
      refine lV (Value.bool true) he25 rfl rfl (wanted_plain rfl _) (rn_mv rfl (he25.op rfl) w23) ?_
      intro a26 he26
      clear he25 a25
      refine lSkip he26 rfl rfl (he26.wantNot rfl rfl rfl rfl rfl rfl) ?_
      intro a27 he27
      clear he26 a26
      refine lSkip he27 rfl rfl (he27.wantNot rfl rfl rfl rfl rfl rfl) ?_
      intro a28 he28
      clear he27 a27
      refine lSkip he28 rfl rfl (he28.wantNot rfl rfl rfl rfl rfl rfl) ?_
      intro a29 he29
      clear he28 a28
      refine lSkip he29 rfl rfl (he29.wantNot rfl rfl rfl rfl rfl rfl) ?_
      intro a30 he30
      clear he29 a29
      refine lV (Value.bool true) he30 rfl rfl (wanted_plain rfl _) (rn_pk rfl (he30.op rfl) (he30.op rfl) w23) ?_
      intro a31 he31
      clear he30 a30
      refine wpList_nil ?_
      refine then_ok ?_
      refine wp_cond_true (he31.op rfl) ?_
      refine wp_seq ?_
      refine wp_region_lit ?_
      refine lV (Value.agg #[Value.int .i64 0, Value.int .i64 0]) he31 rfl rfl (wanted_plain rfl _) (rn_bZ rfl  w23) ?_
      intro a32 he32
      clear he31 a31
      refine lSetF 2 #[Value.int .i64 0, Value.int .i64 0] (cs := #[Value.int .i64 0, Value.int .i64 0]) he32 hH23 rfl (wanted_plain rfl _) rfl rfl rfl rfl rfl (by kernel_rfl) (by kernel_rfl) (by kernel_rfl) rfl ?_
      intro w33 a34 hH33 hf he34
      replace hH33 : Hp w [⟨p18, 23, #[Value.int .i64 n0, Value.int .i64 n1]⟩, ⟨p4, 62, #[Value.int .i64 n0, Value.int .i64 n1]⟩, ⟨p1, 23, #[Value.int .i64 0, Value.int .i64 0]⟩] w33 := hH33
      clear hf
      clear he32 a32 hH23
      refine lV (Value.bool false) he34 rfl rfl (wanted_plain rfl _) (rn_asg rfl (he34.op rfl) w33) ?_
      intro a35 he35
      clear he34 a34
      refine wpList_nil ?_
      refine then_ok ?_
      refine wp_ret ?_
      try simp only [Exit.then, Exit.inBlock, Exit.noGoto]
      exact ret_rowt rfl he35 rfl rfl (hH33.at (i := 2) rfl) undZ rfl infoZ2 ⟨by (unfold parseR at h; rw [hfin] at h; simp only at h; (first | rw [if_pos ⟨by assumption, by assumption⟩] at h | rw [if_neg (fun hh => absurd hh.1 (by assumption))] at h | rw [if_neg (fun hh => absurd hh.2 (by assumption))] at h); subst h; rfl), hH33.new⟩
end Go.Proofs.YtijaemfalljdoaaDoor
