/-
  One byte decoded.
-/
import Derived.Test.YtdkkdicgjhjinaaWhole
import Derived.Deep.RegionHeld3
import Derived.Deep.AppendLies
namespace Go.Proofs.Ytdkkdicgjhjinaa
open Go.RowKit

theorem quiet_left {P : Program} {f : FuncId} {args : Array Value} {w : World} {n : Nat} {v : Value}
    (h : Calls P f args (w.drewN n) fun e w' => e = .returned v ∧ w.drewN n = w') : Calls P f args (w.drewN n) fun e w'' => e = .returned v ∧ ∃ m, w'' = w.drewN m :=
  h.mono fun _ _ ⟨he, hm⟩ => ⟨he, n, hm.symm⟩

set_option maxHeartbeats 400000 in
theorem step_more1 (a c : Int) (hg : goesB [a] c = true) (hm : 2 < lenI a) (g : Nat) (v : Value) (w : World) (h : Dec w g [a]) :
    Calls Try.prog 27 #[.pointer (some ⟨g, 0, none⟩), v, .int .u8 c] w fun e w' => e = .returned v ∧ Dec w' g [a, c] ∧ Fr (· = g) w w' := by
  have H := Lib.hid h
  clear h
  go_enter Try.func27, Try.ntmps27
  go_wp2_with (first
    | (go_at_call 30; refine (goesOn_any [a] c g _ H.out).mono ?_; rintro e w' ⟨rfl, rfl⟩)
    | (go_at_call 31; refine (keep_any [a] c g _ H.out (by simp)).mono ?_; rintro e w1 ⟨rfl, hd1, hf1⟩; have d0 : w1.cell? ⟨g, 0, none⟩ = some (.int .u8 a) := hd1.c0; have d4 : w1.cell? ⟨g, 4, none⟩ = some (.int .i64 2) := hd1.c4; have HD := Lib.hid hd1; have HF := Lib.hid hf1; clear hd1 hf1))
  go_quiet ((go_at_call 32; exact quiet_left (length_any _ _)))
  go_wp2
  go_ret
  exact ⟨rfl, HD.out, HF.out.drewN _⟩

set_option maxHeartbeats 800000 in
theorem step_done1 (a c : Int) (hg : goesB [a] c = true) (ha : 2 ≤ lenI a) (hm : ¬ 2 < lenI a) (g : Nat) (v : Value) (w : World) (h : Dec w g [a]) (base : Nat) (l : List Int) (hown : Own32 w base v l) (hb : base ≤ w.heap.size) (hn : l.length ≤ 1000000) :
    Calls Try.prog 27 #[.pointer (some ⟨g, 0, none⟩), v, .int .u8 c] w fun e w' =>
      ∃ v', e = .returned v' ∧ Own32 w' base v' (l ++ [runeOf [a, c]]) ∧ Dec w' g [] ∧ Fr (fun k => k = g ∨ v.ownBlock = some k) w w' := by
  have ba := lenI_lo (a := a) (by omega)
  have bc := goesB1 hg
  have H := Lib.hid h
  have O := Lib.hid hown
  clear h hown
  go_enter Try.func27, Try.ntmps27
  go_wp2_with (first
    | (go_at_call 30; refine (goesOn_any [a] c g _ H.out).mono ?_; rintro e w' ⟨rfl, rfl⟩)
    | (go_at_call 31; refine (keep_any [a] c g _ H.out (by simp)).mono ?_; rintro e w1 ⟨rfl, hd1, hf1⟩; have d0 : w1.cell? ⟨g, 0, none⟩ = some (.int .u8 a) := hd1.c0; have d4 : w1.cell? ⟨g, 4, none⟩ = some (.int .i64 2) := hd1.c4; have HD := Lib.hid hd1; have HF := Lib.hid hf1; clear hd1 hf1))
  go_quiet ((go_at_call 32; exact quiet_left (length_any _ _)))
  go_wp2
  obtain ⟨w2, hw2⟩ : ∃ w2, w2 = w1.drewN nq := ⟨_, rfl⟩
  rw [← hw2]
  have hd2 : Dec w2 g [a, c] := by rw [hw2]; exact HD.out
  have hf2 : Fr (· = g) w w2 := by rw [hw2]; exact HF.out.drewN _
  have ho2 : Own32 w2 base v l := O.out.fr hf2 (fun k hk he => O.out.far H.out (by rw [hk, he]))
  have hb2 : base ≤ w2.heap.size := Nat.le_trans hb hf2.size
  have e0 : w2.cell? ⟨g, 0, none⟩ = some (.int .u8 a) := hd2.c0
  have e1 : w2.cell? ⟨g, 1, none⟩ = some (.int .u8 c) := hd2.c1
  have e4 : w2.cell? ⟨g, 4, none⟩ = some (.int .i64 2) := hd2.c4
  have HD2 := Lib.hid hd2
  have HF2 := Lib.hid hf2
  have HO2 := Lib.hid ho2
  clear hw2 d0 d4 HD HF hd2 hf2 ho2
  go_region_held3 (fun w' => w'.cell? ⟨g, 0, none⟩ = some (.int .u8 a) ∧ w'.cell? ⟨g, 1, none⟩ = some (.int .u8 c) ∧ w'.cell? ⟨g, 4, none⟩ = some (.int .i64 2)) (first | go_keep | exact ⟨k0, k1, k4⟩)
    ((first
      | (go_at_call 33; refine (whole2 a c (by omega) (by omega) (by omega) (by omega) g _ (by assumption) (by assumption) 4 (by omega)).mono ?_; rintro e w' ⟨rfl, m, rfl⟩)
      | (refine stp32 (by rfl) _ _ (by rfl) base v l.length (l.map (.int .i32)) (by rfl) ((own_drewN HO2.out _).alloc _) w2.heap.size _ 1 1 [.int .i32 (runeOf [a, c])] (by rfl) (rd_new _ _ 1 _ rfl rfl) (by simp [Value.oneCell']) (by omega) (by simp; omega) ?_; intro v1 w3 hown1 hg1 _; have hd3 : Dec w3 g [a, c] := Blk.grown (Blk.alloc (Blk.drewN HD2.out _) _) hg1 (HO2.out.far HD2.out); obtain ⟨k0, k1, k2, k3, k4, f0, f1, f2, f3, f4⟩ := hd3.facts; have HD3 := Lib.hid hd3; have HO3 := Lib.hid (Own32.of (t := [runeOf [a, c]]) hown1 rfl); have HG := Lib.hid hg1; clear hown1 hg1 hd3)))
  go_wp2
  go_ret
  refine ⟨v1, rfl, HO3.out.fr (fr_reset w3 g) ?_, dec_reset HD3.out, ?_⟩
  · exact fun k hk he => HO3.out.far HD3.out (by rw [hk, he])
  · refine Fr.trans (Fr.grown (Fr.alloc (Fr.drewN (HF2.out.weak (fun k _ hk => .inl hk)) _) _) HG.out (fun k hk => .inl (.inr hk))) (fr_reset w3 g) (fun k _ hk => .inl hk)

set_option maxHeartbeats 400000 in
theorem step_more2 (a b c : Int) (hg : goesB [a, b] c = true) (hm : 3 < lenI a) (g : Nat) (v : Value) (w : World) (h : Dec w g [a, b]) :
    Calls Try.prog 27 #[.pointer (some ⟨g, 0, none⟩), v, .int .u8 c] w fun e w' => e = .returned v ∧ Dec w' g [a, b, c] ∧ Fr (· = g) w w' := by
  have H := Lib.hid h
  clear h
  go_enter Try.func27, Try.ntmps27
  go_wp2_with (first
    | (go_at_call 30; refine (goesOn_any [a, b] c g _ H.out).mono ?_; rintro e w' ⟨rfl, rfl⟩)
    | (go_at_call 31; refine (keep_any [a, b] c g _ H.out (by simp)).mono ?_; rintro e w1 ⟨rfl, hd1, hf1⟩; have d0 : w1.cell? ⟨g, 0, none⟩ = some (.int .u8 a) := hd1.c0; have d4 : w1.cell? ⟨g, 4, none⟩ = some (.int .i64 3) := hd1.c4; have HD := Lib.hid hd1; have HF := Lib.hid hf1; clear hd1 hf1))
  go_quiet ((go_at_call 32; exact quiet_left (length_any _ _)))
  go_wp2
  go_ret
  exact ⟨rfl, HD.out, HF.out.drewN _⟩

set_option maxHeartbeats 800000 in
theorem step_done2 (a b c : Int) (hb0 : goesB [a] b = true) (hg : goesB [a, b] c = true) (ha : 3 ≤ lenI a) (hm : ¬ 3 < lenI a) (g : Nat) (v : Value) (w : World) (h : Dec w g [a, b]) (base : Nat) (l : List Int) (hown : Own32 w base v l) (hb : base ≤ w.heap.size) (hn : l.length ≤ 1000000) :
    Calls Try.prog 27 #[.pointer (some ⟨g, 0, none⟩), v, .int .u8 c] w fun e w' =>
      ∃ v', e = .returned v' ∧ Own32 w' base v' (l ++ [runeOf [a, b, c]]) ∧ Dec w' g [] ∧ Fr (fun k => k = g ∨ v.ownBlock = some k) w w' := by
  have ba := lenI_lo (a := a) (by omega)
  have bb := goesB1 hb0
  have bc := goesB2 hg
  have H := Lib.hid h
  have O := Lib.hid hown
  clear h hown
  go_enter Try.func27, Try.ntmps27
  go_wp2_with (first
    | (go_at_call 30; refine (goesOn_any [a, b] c g _ H.out).mono ?_; rintro e w' ⟨rfl, rfl⟩)
    | (go_at_call 31; refine (keep_any [a, b] c g _ H.out (by simp)).mono ?_; rintro e w1 ⟨rfl, hd1, hf1⟩; have d0 : w1.cell? ⟨g, 0, none⟩ = some (.int .u8 a) := hd1.c0; have d4 : w1.cell? ⟨g, 4, none⟩ = some (.int .i64 3) := hd1.c4; have HD := Lib.hid hd1; have HF := Lib.hid hf1; clear hd1 hf1))
  go_quiet ((go_at_call 32; exact quiet_left (length_any _ _)))
  go_wp2
  obtain ⟨w2, hw2⟩ : ∃ w2, w2 = w1.drewN nq := ⟨_, rfl⟩
  rw [← hw2]
  have hd2 : Dec w2 g [a, b, c] := by rw [hw2]; exact HD.out
  have hf2 : Fr (· = g) w w2 := by rw [hw2]; exact HF.out.drewN _
  have ho2 : Own32 w2 base v l := O.out.fr hf2 (fun k hk he => O.out.far H.out (by rw [hk, he]))
  have hb2 : base ≤ w2.heap.size := Nat.le_trans hb hf2.size
  have e0 : w2.cell? ⟨g, 0, none⟩ = some (.int .u8 a) := hd2.c0
  have e1 : w2.cell? ⟨g, 1, none⟩ = some (.int .u8 b) := hd2.c1
  have e2 : w2.cell? ⟨g, 2, none⟩ = some (.int .u8 c) := hd2.c2
  have e4 : w2.cell? ⟨g, 4, none⟩ = some (.int .i64 3) := hd2.c4
  have HD2 := Lib.hid hd2
  have HF2 := Lib.hid hf2
  have HO2 := Lib.hid ho2
  clear hw2 d0 d4 HD HF hd2 hf2 ho2
  go_region_held3 (fun w' => w'.cell? ⟨g, 0, none⟩ = some (.int .u8 a) ∧ w'.cell? ⟨g, 1, none⟩ = some (.int .u8 b) ∧ w'.cell? ⟨g, 2, none⟩ = some (.int .u8 c) ∧ w'.cell? ⟨g, 4, none⟩ = some (.int .i64 3)) (first | go_keep | exact ⟨k0, k1, k2, k4⟩)
    ((first
      | (go_at_call 33; refine (whole3 a b c (by omega) (by omega) (by omega) (by omega) (by omega) (by omega) g _ (by assumption) (by assumption) (by assumption) 4 (by omega)).mono ?_; rintro e w' ⟨rfl, m, rfl⟩)
      | (refine stp32 (by rfl) _ _ (by rfl) base v l.length (l.map (.int .i32)) (by rfl) ((own_drewN HO2.out _).alloc _) w2.heap.size _ 1 1 [.int .i32 (runeOf [a, b, c])] (by rfl) (rd_new _ _ 1 _ rfl rfl) (by simp [Value.oneCell']) (by omega) (by simp; omega) ?_; intro v1 w3 hown1 hg1 _; have hd3 : Dec w3 g [a, b, c] := Blk.grown (Blk.alloc (Blk.drewN HD2.out _) _) hg1 (HO2.out.far HD2.out); obtain ⟨k0, k1, k2, k3, k4, f0, f1, f2, f3, f4⟩ := hd3.facts; have HD3 := Lib.hid hd3; have HO3 := Lib.hid (Own32.of (t := [runeOf [a, b, c]]) hown1 rfl); have HG := Lib.hid hg1; clear hown1 hg1 hd3)))
  go_wp2
  go_ret
  refine ⟨v1, rfl, HO3.out.fr (fr_reset w3 g) ?_, dec_reset HD3.out, ?_⟩
  · exact fun k hk he => HO3.out.far HD3.out (by rw [hk, he])
  · refine Fr.trans (Fr.grown (Fr.alloc (Fr.drewN (HF2.out.weak (fun k _ hk => .inl hk)) _) _) HG.out (fun k hk => .inl (.inr hk))) (fr_reset w3 g) (fun k _ hk => .inl hk)

set_option maxHeartbeats 800000 in
theorem step_done3 (a b d c : Int) (hb0 : goesB [a] b = true) (hd0 : goesB [a, b] d = true) (hg : goesB [a, b, d] c = true) (ha : 4 ≤ lenI a) (hm : ¬ 4 < lenI a) (g : Nat) (v : Value) (w : World) (h : Dec w g [a, b, d]) (base : Nat) (l : List Int) (hown : Own32 w base v l) (hb : base ≤ w.heap.size) (hn : l.length ≤ 1000000) :
    Calls Try.prog 27 #[.pointer (some ⟨g, 0, none⟩), v, .int .u8 c] w fun e w' =>
      ∃ v', e = .returned v' ∧ Own32 w' base v' (l ++ [runeOf [a, b, d, c]]) ∧ Dec w' g [] ∧ Fr (fun k => k = g ∨ v.ownBlock = some k) w w' := by
  have ba := lenI_lo (a := a) (by omega)
  have bb := goesB1 hb0
  have bd := goesB2 hd0
  have bc := goesB2 hg
  have H := Lib.hid h
  have O := Lib.hid hown
  clear h hown
  go_enter Try.func27, Try.ntmps27
  go_wp2_with (first
    | (go_at_call 30; refine (goesOn_any [a, b, d] c g _ H.out).mono ?_; rintro e w' ⟨rfl, rfl⟩)
    | (go_at_call 31; refine (keep_any [a, b, d] c g _ H.out (by simp)).mono ?_; rintro e w1 ⟨rfl, hd1, hf1⟩; have d0 : w1.cell? ⟨g, 0, none⟩ = some (.int .u8 a) := hd1.c0; have d4 : w1.cell? ⟨g, 4, none⟩ = some (.int .i64 4) := hd1.c4; have HD := Lib.hid hd1; have HF := Lib.hid hf1; clear hd1 hf1))
  go_quiet ((go_at_call 32; exact quiet_left (length_any _ _)))
  go_wp2
  obtain ⟨w2, hw2⟩ : ∃ w2, w2 = w1.drewN nq := ⟨_, rfl⟩
  rw [← hw2]
  have hd2 : Dec w2 g [a, b, d, c] := by rw [hw2]; exact HD.out
  have hf2 : Fr (· = g) w w2 := by rw [hw2]; exact HF.out.drewN _
  have ho2 : Own32 w2 base v l := O.out.fr hf2 (fun k hk he => O.out.far H.out (by rw [hk, he]))
  have hb2 : base ≤ w2.heap.size := Nat.le_trans hb hf2.size
  have e0 : w2.cell? ⟨g, 0, none⟩ = some (.int .u8 a) := hd2.c0
  have e1 : w2.cell? ⟨g, 1, none⟩ = some (.int .u8 b) := hd2.c1
  have e2 : w2.cell? ⟨g, 2, none⟩ = some (.int .u8 d) := hd2.c2
  have e3 : w2.cell? ⟨g, 3, none⟩ = some (.int .u8 c) := hd2.c3
  have e4 : w2.cell? ⟨g, 4, none⟩ = some (.int .i64 4) := hd2.c4
  have HD2 := Lib.hid hd2
  have HF2 := Lib.hid hf2
  have HO2 := Lib.hid ho2
  clear hw2 d0 d4 HD HF hd2 hf2 ho2
  go_region_held3 (fun w' => w'.cell? ⟨g, 0, none⟩ = some (.int .u8 a) ∧ w'.cell? ⟨g, 1, none⟩ = some (.int .u8 b) ∧ w'.cell? ⟨g, 2, none⟩ = some (.int .u8 d) ∧ w'.cell? ⟨g, 3, none⟩ = some (.int .u8 c) ∧ w'.cell? ⟨g, 4, none⟩ = some (.int .i64 4)) (first | go_keep | exact ⟨k0, k1, k2, k3, k4⟩)
    ((first
      | (go_at_call 33; refine (whole4 a b d c (by omega) (by omega) (by omega) (by omega) (by omega) (by omega) (by omega) (by omega) g _ (by assumption) (by assumption) (by assumption) (by assumption) 4 (by omega)).mono ?_; rintro e w' ⟨rfl, m, rfl⟩)
      | (refine stp32 (by rfl) _ _ (by rfl) base v l.length (l.map (.int .i32)) (by rfl) ((own_drewN HO2.out _).alloc _) w2.heap.size _ 1 1 [.int .i32 (runeOf [a, b, d, c])] (by rfl) (rd_new _ _ 1 _ rfl rfl) (by simp [Value.oneCell']) (by omega) (by simp; omega) ?_; intro v1 w3 hown1 hg1 _; have hd3 : Dec w3 g [a, b, d, c] := Blk.grown (Blk.alloc (Blk.drewN HD2.out _) _) hg1 (HO2.out.far HD2.out); obtain ⟨k0, k1, k2, k3, k4, f0, f1, f2, f3, f4⟩ := hd3.facts; have HD3 := Lib.hid hd3; have HO3 := Lib.hid (Own32.of (t := [runeOf [a, b, d, c]]) hown1 rfl); have HG := Lib.hid hg1; clear hown1 hg1 hd3)))
  go_wp2
  go_ret
  refine ⟨v1, rfl, HO3.out.fr (fr_reset w3 g) ?_, dec_reset HD3.out, ?_⟩
  · exact fun k hk he => HO3.out.far HD3.out (by rw [hk, he])
  · refine Fr.trans (Fr.grown (Fr.alloc (Fr.drewN (HF2.out.weak (fun k _ hk => .inl hk)) _) _) HG.out (fun k hk => .inl (.inr hk))) (fr_reset w3 g) (fun k _ hk => .inl hk)

set_option maxHeartbeats 800000 in
theorem step_bad (s : List Int) (c : Int) (hg : goesB s c = false) (hl : lenI c = 0) (g : Nat) (v : Value) (w : World) (h : Dec w g s) (base : Nat) (l : List Int) (hown : Own32 w base v l) (hb : base ≤ w.heap.size) (hn : l.length ≤ 1000000) :
    Calls Try.prog 27 #[.pointer (some ⟨g, 0, none⟩), v, .int .u8 c] w fun e w' =>
      ∃ v', e = .returned v' ∧ Own32 w' base v' (l ++ (endI s ++ [65533])) ∧ Dec w' g [] ∧ Fr (fun k => k = g ∨ v.ownBlock = some k) w w' := by
  have l0 : (lenI c == 0) = true := by simp [hl]
  clear hl
  have he2 : (l ++ endI s).length ≤ 1000001 := by
    unfold endI; split <;> simp <;> omega
  have H := Lib.hid h
  have O := Lib.hid hown
  clear h hown
  go_enter Try.func27, Try.ntmps27
  go_wp2_with (first
    | (go_at_call 30; refine (goesOn_any s c g _ H.out).mono ?_; rintro e w' ⟨rfl, rfl⟩)
    | (go_at_call 25; refine (end_any s g _ H.out v base l O.out hb hn).mono ?_; rintro e w1 ⟨v1, rfl, ho1, hd1, hf1, ha1⟩; have HO := Lib.hid ho1; have HA := Lib.hid ha1; have HD := Lib.hid hd1; have HF := Lib.hid hf1; have hb1 : base ≤ w1.heap.size := Nat.le_trans hb hf1.size; clear ho1 hd1 hf1 ha1)
    | (go_at_call 32; refine (length_any c _).mono ?_; rintro e w' ⟨rfl, rfl⟩)
    | (at_builtin; refine app32 rfl _ _ rfl base v1 (l ++ endI s).length ((l ++ endI s).map (.int .i32)) rfl (HO.out.alloc _) w1.heap.size _ 1 1 [.int .i32 65533] rfl (rd_new _ _ 1 _ rfl rfl) (by simp [Value.oneCell']) (by omega) (by simp; omega) ?_; intro v2 w2 hown2 hg2 _; have HO2 := Lib.hid (Own32.of (t := [65533]) hown2 rfl); have HD2 := Lib.hid (Blk.grown (Blk.alloc HD.out _) hg2 (HO.out.far HD.out)); have HG := Lib.hid hg2; clear hown2 hg2))
  go_ret
  refine ⟨v2, rfl, by rw [← List.append_assoc]; exact HO2.out, HD2.out, ?_⟩
  refine Fr.grown (Fr.alloc HF.out _) HG.out (fun k hk => ?_)
  rcases HA.out k hk with e | e
  · exact .inl (.inr e)
  · exact .inr e

set_option maxHeartbeats 800000 in
theorem step_one (s : List Int) (c : Int) (hc0 : 0 ≤ c) (hg : goesB s c = false) (hl : lenI c = 1) (g : Nat) (v : Value) (w : World) (h : Dec w g s) (base : Nat) (l : List Int) (hown : Own32 w base v l) (hb : base ≤ w.heap.size) (hn : l.length ≤ 1000000) :
    Calls Try.prog 27 #[.pointer (some ⟨g, 0, none⟩), v, .int .u8 c] w fun e w' =>
      ∃ v', e = .returned v' ∧ Own32 w' base v' (l ++ (endI s ++ [c])) ∧ Dec w' g [] ∧ Fr (fun k => k = g ∨ v.ownBlock = some k) w w' := by
  have l0 : (lenI c == 0) = false := by simp [hl]
  have l1 : (lenI c == 1) = true := by simp [hl]
  have hc1 := lenI_one hl
  clear hl
  have he2 : (l ++ endI s).length ≤ 1000001 := by
    unfold endI; split <;> simp <;> omega
  have H := Lib.hid h
  have O := Lib.hid hown
  clear h hown
  go_enter Try.func27, Try.ntmps27
  go_wp2_with (first
    | (go_at_call 30; refine (goesOn_any s c g _ H.out).mono ?_; rintro e w' ⟨rfl, rfl⟩)
    | (go_at_call 25; refine (end_any s g _ H.out v base l O.out hb hn).mono ?_; rintro e w1 ⟨v1, rfl, ho1, hd1, hf1, ha1⟩; have HO := Lib.hid ho1; have HA := Lib.hid ha1; have HD := Lib.hid hd1; have HF := Lib.hid hf1; have hb1 : base ≤ w1.heap.size := Nat.le_trans hb hf1.size; clear ho1 hd1 hf1 ha1)
    | (go_at_call 32; refine (length_any c _).mono ?_; rintro e w' ⟨rfl, rfl⟩)
    | (at_builtin; refine app32 rfl _ _ rfl base v1 (l ++ endI s).length ((l ++ endI s).map (.int .i32)) rfl (HO.out.alloc _) w1.heap.size _ 1 1 [.int .i32 c] rfl (rd_new _ _ 1 _ rfl rfl) (by simp [Value.oneCell']) (by omega) (by simp; omega) ?_; intro v2 w2 hown2 hg2 _; have HO2 := Lib.hid (Own32.of (t := [c]) hown2 rfl); have HD2 := Lib.hid (Blk.grown (Blk.alloc HD.out _) hg2 (HO.out.far HD.out)); have HG := Lib.hid hg2; clear hown2 hg2))
  go_ret
  refine ⟨v2, rfl, by rw [← List.append_assoc]; exact HO2.out, HD2.out, ?_⟩
  refine Fr.grown (Fr.alloc HF.out _) HG.out (fun k hk => ?_)
  rcases HA.out k hk with e | e
  · exact .inl (.inr e)
  · exact .inr e

set_option maxHeartbeats 800000 in
theorem step_new (s : List Int) (c : Int) (hg : goesB s c = false) (hl : 2 ≤ lenI c) (g : Nat) (v : Value) (w : World) (h : Dec w g s) (base : Nat) (l : List Int) (hown : Own32 w base v l) (hb : base ≤ w.heap.size) (hn : l.length ≤ 1000000) :
    Calls Try.prog 27 #[.pointer (some ⟨g, 0, none⟩), v, .int .u8 c] w fun e w' =>
      ∃ v', e = .returned v' ∧ Own32 w' base v' (l ++ endI s) ∧ Dec w' g [c] ∧ Fr (fun k => k = g ∨ v.ownBlock = some k) w w' := by
  have l0 : (lenI c == 0) = false := by simp; omega
  have l1 : (lenI c == 1) = false := by simp; omega
  clear hl
  have H := Lib.hid h
  have O := Lib.hid hown
  clear h hown
  go_enter Try.func27, Try.ntmps27
  go_wp2_with (first
    | (go_at_call 30; refine (goesOn_any s c g _ H.out).mono ?_; rintro e w' ⟨rfl, rfl⟩)
    | (go_at_call 25; refine (end_any s g _ H.out v base l O.out hb hn).mono ?_; rintro e w1 ⟨v1, rfl, ho1, hd1, hf1, ha1⟩; have HO := Lib.hid ho1; have HA := Lib.hid ha1; have HD := Lib.hid hd1; have HF := Lib.hid hf1; have hb1 : base ≤ w1.heap.size := Nat.le_trans hb hf1.size; clear ho1 hd1 hf1 ha1)
    | (go_at_call 32; refine (length_any c _).mono ?_; rintro e w' ⟨rfl, rfl⟩)
    | (go_at_call 31; refine (keep_any [] c g _ HD.out (by simp)).mono ?_; rintro e w2 ⟨rfl, hd2, hf2⟩; have HD2 := Lib.hid hd2; have HF2 := Lib.hid hf2; clear hd2 hf2))
  go_ret
  exact ⟨v1, rfl, HO.out.fr HF2.out (fun k hk he => HO.out.far HD.out (by rw [hk, he])), HD2.out, Fr.trans HF.out HF2.out (fun k _ hk => .inl hk)⟩

def StepPost (w : World) (g base : Nat) (v : Value) (l : List Int) (p : List Int × List Int) (e : Ending) (w' : World) : Prop :=
  ∃ v', e = .returned v' ∧ Own32 w' base v' (l ++ p.2) ∧ Dec w' g p.1 ∧ Fr (fun k => k = g ∨ v.ownBlock = some k) w w'

theorem more_post {s' : List Int} {g : Nat} {v : Value} {w : World} {s : List Int} {base : Nat} {l : List Int} (h : Dec w g s) (hown : Own32 w base v l) : ∀ e w', (e = .returned v ∧ Dec w' g s' ∧ Fr (· = g) w w') → StepPost w g base v l (s', []) e w' := by
  rintro e w' ⟨rfl, hd, hf⟩
  refine ⟨v, rfl, ?_, hd, hf.weak (fun k _ hk => .inl hk)⟩
  rw [List.append_nil]
  exact hown.fr hf (fun k hk he => hown.far h (by rw [hk, he]))

theorem step_any (s : List Int) (c : Int) (hc0 : 0 ≤ c) (hs : PV s) (g : Nat) (v : Value) (w : World) (h : Dec w g s) (base : Nat) (l : List Int) (hown : Own32 w base v l) (hb : base ≤ w.heap.size) (hn : l.length ≤ 1000000) :
    Calls Try.prog 27 #[.pointer (some ⟨g, 0, none⟩), v, .int .u8 c] w (StepPost w g base v l (stepI s c)) := by
  by_cases hg : goesB s c = true
  · by_cases hm : (s.length : Int) + 1 < lenI (s.getD 0 0)
    · rw [stepI_more hg hm]
      match s, hs with
      | [], _ => simp [goesB] at hg
      | [a], _ => exact (step_more1 a c hg (by simpa using hm) g v w h).mono (more_post h hown)
      | [a, b], _ => exact (step_more2 a b c hg (by simpa using hm) g v w h).mono (more_post h hown)
      | [a, b, d], _ =>
        have := (lenI_le a).2
        simp at hm
        omega
    · rw [stepI_done hg hm]
      match s, hs with
      | [], _ => simp [goesB] at hg
      | [a], hs => exact step_done1 a c hg hs (by simpa using hm) g v w h base l hown hb hn
      | [a, b], hs => exact step_done2 a b c hs.2 hg hs.1 (by simpa using hm) g v w h base l hown hb hn
      | [a, b, d], hs => exact step_done3 a b d c hs.2.1 hs.2.2 hg hs.1 (by simpa using hm) g v w h base l hown hb hn
  · have hg : goesB s c = false := by simpa using hg
    have hc := lenI_le c
    rcases (by omega : lenI c = 0 ∨ lenI c = 1 ∨ 2 ≤ lenI c) with hl | hl | hl
    · rw [stepI_bad hg hl]; exact step_bad s c hg hl g v w h base l hown hb hn
    · rw [stepI_one hg hl]; exact step_one s c hc0 hg hl g v w h base l hown hb hn
    · rw [stepI_new hg hl]; exact step_new s c hg hl g v w h base l hown hb hn

end Go.Proofs.Ytdkkdicgjhjinaa
