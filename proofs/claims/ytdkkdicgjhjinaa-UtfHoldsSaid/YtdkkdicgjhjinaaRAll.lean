/-
  One byte decoded by the specification: the whole step.
-/
import Derived.Test.YtdkkdicgjhjinaaRStep
import Derived.Test.YtdkkdicgjhjinaaEncodes
namespace Go.Proofs.Ytdkkdicgjhjinaa
open Go.RowKit

def RPost (w : World) (p : List Int × List Int) (e : Ending) (w' : World) : Prop :=
  ∃ n sb sA sc m rb rA rc, e = .returned (.tuple #[.agg #[.slice sA n sc], .slice rA m rc]) ∧ p.1.length = n ∧ p.2.length = m ∧ (0 < n → w.heap.size ≤ sb) ∧ Rd w' sb sA n (B8 p.1) ∧ Rd w' rb rA m (R32 p.2) ∧ New w w'

theorem Begins_n (s : List Int) (c : Int) (hs : PV s) (w : World) (b : Nat) (A : Option Addr) (cap n : Nat) (hn : s.length + 1 = n) (hr : Rd w b A n (B8 (s ++ [c]))) (b1 b2 : Bool) (hb : bgI s c = (b1, b2)) :
    Calls Try.prog 28 #[.slice A n cap] w fun e w' => e = .returned (.tuple #[.bool b1, .bool b2]) ∧ New w w' := by
  have e : (s ++ [c]).length = n := by simp [hn]
  subst e
  have := Begins_any s c hs w b A cap hr
  rw [hb] at this
  exact this
/-- The two boxes of the step: what it is called with, and what it hands back. -/
def BP (w : World) (H : Nat) (x y : Value) : Prop := Blk w H 33 #[x] ∧ Blk w (H + 1) 33 #[y]
theorem BP.init (w : World) (x y : Value) : BP ((w.alloc (.cells #[x] 33)).alloc (.cells #[y] 33)) w.heap.size x y :=
  ⟨Blk.alloc (Blk.new w _ _) _, by have := Blk.new (w.alloc (.cells #[x] 33)) 33 #[y]; simpa using this⟩
theorem BP.fr {S : Nat → Prop} {w w' : World} {H : Nat} {x y : Value} (h : BP w H x y) (hf : Fr S w w') (h1 : ¬ S H) (h2 : ¬ S (H + 1)) : BP w' H x y := ⟨h.1.fr hf h1, h.2.fr hf h2⟩
theorem BP.new {w w' : World} {H : Nat} {x y : Value} (h : BP w H x y) (hf : New w w') : BP w' H x y := h.fr hf (fun h => h) (fun h => h)
theorem BP.own {w w' : World} {H : Nat} {x y : Value} (h : BP w H x y) {base : Nat} {v : Value} {t : List Int} (ho : Own8 w base v t) (hg : w.grownBy w' v.ownBlock) : BP w' H x y :=
  ⟨h.1.grown hg (own_far ho h.1 (by decide)), h.2.grown hg (own_far ho h.2 (by decide))⟩
theorem BP.facts {w : World} {H : Nat} {x y : Value} (h : BP w H x y) : w.cell? ⟨H, 0, none⟩ = some x ∧ w.cell? ⟨H + 1, 0, none⟩ = some y ∧ w.frozen? ⟨H, 0, none⟩ = false ∧ w.frozen? ⟨H + 1, 0, none⟩ = false :=
  ⟨h.1.cell 0, h.2.cell 0, h.1.frozen 0, h.2.frozen 0⟩
theorem BP.set {w : World} {H : Nat} {x y : Value} (h : BP w H x y) (z : Value) : BP (w.setCell ⟨H + 1, 0, none⟩ z) H x z := ⟨h.1.far (p := ⟨H + 1, 0, none⟩) (by simp) z, h.2.set 0 z⟩
theorem Own8.rdn {w : World} {base : Nat} {v : Value} {t : List Int} (h : Own8 w base v t) (n : Nat) (hn : t.length = n) : ∃ b A c, v = .slice A n c ∧ Rd w b A n (B8 t) ∧ (0 < n → base ≤ b) := by
  subst hn
  obtain ⟨b, A, c, h1, h2, _, h3⟩ := h.rd
  exact ⟨b, A, c, h1, h2, h3⟩
theorem Rd.fr' {S : Nat → Prop} {w w' : World} {b n : Nat} {A : Option Addr} {xs : List Value} (h : Rd w b A n xs) (hf : Fr S w w') (hn : 0 < n → ¬ S b) : Rd w' b A n xs := by
  refine ⟨h.1, fun h0 => ?_⟩
  exact (h.fr hf (hn h0)).2 h0
theorem rd_far {w : World} {b g n : Nat} {A X : Option Addr} {Y Z : Nat} {ty : TypeId} {t : List Int} (h : Rd w b A n (B8 t)) (k : Blk w g ty #[.slice X Y Z]) (hp : 0 < n) : b ≠ g := by
  rintro rfl
  obtain ⟨o, _, _, hc⟩ := h.2 hp
  have h1 := hc 0 hp
  rw [k.cell] at h1
  have hl : 0 < t.length := by have := h.1; simp [B8] at this; omega
  rcases o with _ | o
  · simp [B8, List.getElem?_eq_getElem hl] at h1
  · simp [B8, List.getElem?_eq_getElem hl] at h1
theorem Own32.rdn {w : World} {base : Nat} {v : Value} {t : List Int} (h : Own32 w base v t) (n : Nat) (hn : t.length = n) : ∃ b A c, v = .slice A n c ∧ Rd w b A n (R32 t) ∧ (0 < n → base ≤ b) := by
  subst hn
  obtain ⟨b, A, c, h1, h2, _, h3⟩ := h.rd
  exact ⟨b, A, c, h1, h2, h3⟩
theorem own_lit {w : World} (base : Nat) (e : TypeId) (cs : Array Value) (n : Nat) (xs : List Value) (hx : xs = cs.toList) (hn : xs.length = n) (hm : n ≤ maxLen) (hb : base ≤ w.heap.size) : (w.alloc (.cells cs e)).ownsRow base e 1 (.slice (some ⟨w.heap.size, 0, none⟩) n n) n xs := by
  subst hx
  refine ⟨by rw [hn, Nat.mul_one], .inr ⟨w.heap.size, n, cs, rfl, hb, Blk.new w e cs, Nat.le_refl _, hm, by simp at hn; rw [hn, Nat.mul_one], ?_⟩⟩
  rw [Nat.mul_one, ← hn, List.take_length]
theorem grown_new {w w' : World} {base : Nat} {v : Value} {t : List Int} (h : Own8 w base v t) (hg : w.grownBy w' v.ownBlock) {a : World} (ha : New a w) (hb : a.heap.size ≤ base) : New a w' :=
  Fr.grown ha hg (fun _ hk => .inr (Nat.le_trans hb (h.lt hk).1))

def rOf (s : List Int) (c : Int) : Int := if s = [] then c else runeOf (s ++ [c])
theorem Rune_n (s : List Int) (c : Int) (c0 : 0 ≤ c) (c1 : c < 256) (hs : PV s) (hb : bgI s c = (true, true)) (w : World) (b : Nat) (A : Option Addr) (cap n : Nat) (hn : s.length + 1 = n) (hr : Rd w b A n (B8 (s ++ [c]))) :
    Calls Try.prog 29 #[.slice A n cap] w fun e w' => e = .returned (.int .i32 (rOf s c)) ∧ New w w' := by
  unfold bgI at hb
  by_cases h0 : s = []
  · subst h0
    subst hn
    exact Rune_one c c0 c1 w b A cap hr
  · rw [if_neg h0, Prod.mk.injEq] at hb
    obtain ⟨h1, h2⟩ := hb
    rw [h1, Bool.true_and] at h2
    have h2 := of_decide_eq_true h2
    obtain ⟨n', hL, hsn, hn'⟩ := hs.lead h0
    have hcb : 128 ≤ c ∧ c ≤ 191 := by
      match s, hs, h0 with
      | [a], _, _ => exact goesB1 h1
      | [a, d], _, _ => exact goesB2 h1
      | [a, d, f], _, _ => exact goesB2 h1
    have hl : (s ++ [c]).length = n := by simp [hn]
    have hnn : n' = n := by omega
    subst hnn
    subst hl
    unfold rOf
    rw [if_neg h0]
    exact Rune_many (s ++ [c]) (hL.snoc hsn hcb) w b A cap hr

set_option maxHeartbeats 1600000 in
theorem RStep_more (s : List Int) (c : Int) (hs : PV s) (hbg : bgI s c = (true, false)) (w : World) (b : Nat) (A : Option Addr) (cap : Nat) (hr : Rd w b A s.length (B8 s)) :
    Calls Try.prog 15 #[.agg #[.slice A s.length cap], .int .u8 c] w (RPost w (s ++ [c], [])) := by
  have HR := Lib.hid hr
  have HS := Lib.hid hs
  have hl3 := hs.len
  have HB := Lib.hid hbg
  clear hr hs hbg
  go_enter Try.func15, Try.ntmps15
  go_wp2_with (first
    | (at_builtin; have _q := HO1; go_must (refine app8 rfl _ _ rfl w.heap.size v1 s.length (B8 s) rfl (World.ownsRow.alloc HO1.out _) w1.heap.size _ 1 1 (B8 [c]) rfl (rd_new _ _ 1 _ rfl rfl) (by simp [B8, Value.oneCell']) (by omega) (by simp; omega) ?_); intro v2 w2 hown2 hg2 _; have ho2 : Own8 w2 w.heap.size v2 (s ++ [c]) := Own8.of (u := [c]) hown2 rfl; have HN2 := Lib.hid (grown_new (World.ownsRow.alloc HO1.out _) hg2 (HN1.out.trans (New.alloc _)) (Nat.le_refl _)); have BP2 := Lib.hid (BP.own (BP1.out.new (New.alloc _)) (World.ownsRow.alloc HO1.out _) hg2); obtain ⟨b2, A2, c2, rfl, hr2, _⟩ := ho2.rdn (s.length + 1) (by simp); have HO2 := Lib.hid ho2; have HR2 := Lib.hid hr2; clear hown2 hg2 ho2 hr2)
    | (at_builtin; refine app8 rfl _ _ rfl w.heap.size (.slice none 0 0) 0 [] rfl (World.ownsRow_nil _ _ _ _) b A s.length cap (B8 s) rfl ((HR.out.new (New.alloc _)).new (New.alloc _)) (by simp [B8, Value.oneCell']) (by omega) (by simp; omega) ?_; intro v1 w1 hown1 hg1 _; have ho1 := own_of_nil8 hown1; have HO1 := Lib.hid ho1; have hn1 : New w w1 := Fr.grown ((New.alloc _).trans (New.alloc _)) hg1 (by simp [Value.ownBlock]); have HN1 := Lib.hid hn1; have hz1 : w.heap.size ≤ w1.heap.size := hn1.size; have BP1 := Lib.hid (BP.fr (BP.init w (.slice A s.length cap) (.slice none 0 0)) (Fr.grown (Fr.refl (fun _ => False) _) hg1 (by simp [Value.ownBlock])) (fun h => h) (fun h => h)); clear ho1 hown1 hg1 hn1)
    | (go_at_call 28; go_must (refine (Begins_n s c HS.out _ b2 A2 c2 _ rfl HR2.out _ _ HB.out).mono ?_); rintro e w3 ⟨rfl, hf3⟩; have HF3 := Lib.hid (HN2.out.trans hf3); have HO3 := Lib.hid (HO2.out.new hf3); have HR3 := Lib.hid (HR2.out.new hf3); have BP3 := Lib.hid (BP2.out.new hf3); obtain ⟨k0, k1, k2, k3⟩ := (BP2.out.new hf3).facts; clear hf3)
    )
  have kk : (w3.setCell ⟨w.heap.size + 1, 0, none⟩ (.slice A2 (s.length + 1) c2)).cell? ⟨w.heap.size + 1, 0, none⟩ = some (.slice A2 (s.length + 1) c2) := (BP3.out.set _).2.cell 0
  refine bodyPost_ret (v := .tuple #[.agg #[.slice A2 (s.length + 1) c2], .slice none 0 0]) (by simp [results, Try.results15, go_sem, kk]) rfl ?_
  have ho := HO3.out.fr (Fr.setCell (Fr.refl (· = w.heap.size + 1) w3) (p := ⟨w.heap.size + 1, 0, none⟩) (.inl rfl) (.slice A2 (s.length + 1) c2)) (fun k hk he => own_far HO3.out BP3.out.2 (by decide) (by rw [hk, he]))
  obtain ⟨b4, A4, c4, e4, hr4, hz4⟩ := ho.rdn (s.length + 1) (by simp)
  injection e4 with e4
  subst e4
  exact ⟨s.length + 1, b4, A2, c2, 0, 0, none, 0, rfl, by simp, rfl, hz4, hr4, Rd.nil _ _ _, Fr.setCell HF3.out (.inr (by simp)) _⟩

set_option maxHeartbeats 1600000 in
theorem RStep_done (s : List Int) (c : Int) (c0 : 0 ≤ c) (c1 : c < 256) (hs : PV s) (hbg : bgI s c = (true, true)) (w : World) (b : Nat) (A : Option Addr) (cap : Nat) (hr : Rd w b A s.length (B8 s)) :
    Calls Try.prog 15 #[.agg #[.slice A s.length cap], .int .u8 c] w (RPost w ([], [rOf s c])) := by
  have HR := Lib.hid hr
  have HS := Lib.hid hs
  have hl3 := hs.len
  have HB := Lib.hid hbg
  clear hr hs hbg
  go_enter Try.func15, Try.ntmps15
  go_wp2_with (first
    | (at_builtin; have _q := HO1; go_must (refine app8 rfl _ _ rfl w.heap.size v1 s.length (B8 s) rfl (World.ownsRow.alloc HO1.out _) w1.heap.size _ 1 1 (B8 [c]) rfl (rd_new _ _ 1 _ rfl rfl) (by simp [B8, Value.oneCell']) (by omega) (by simp; omega) ?_); intro v2 w2 hown2 hg2 _; have ho2 : Own8 w2 w.heap.size v2 (s ++ [c]) := Own8.of (u := [c]) hown2 rfl; have HN2 := Lib.hid (grown_new (World.ownsRow.alloc HO1.out _) hg2 (HN1.out.trans (New.alloc _)) (Nat.le_refl _)); have BP2 := Lib.hid (BP.own (BP1.out.new (New.alloc _)) (World.ownsRow.alloc HO1.out _) hg2); obtain ⟨b2, A2, c2, rfl, hr2, _⟩ := ho2.rdn (s.length + 1) (by simp); have HO2 := Lib.hid ho2; have HR2 := Lib.hid hr2; clear hown2 hg2 ho2 hr2)
    | (at_builtin; refine app8 rfl _ _ rfl w.heap.size (.slice none 0 0) 0 [] rfl (World.ownsRow_nil _ _ _ _) b A s.length cap (B8 s) rfl ((HR.out.new (New.alloc _)).new (New.alloc _)) (by simp [B8, Value.oneCell']) (by omega) (by simp; omega) ?_; intro v1 w1 hown1 hg1 _; have ho1 := own_of_nil8 hown1; have HO1 := Lib.hid ho1; have hn1 : New w w1 := Fr.grown ((New.alloc _).trans (New.alloc _)) hg1 (by simp [Value.ownBlock]); have HN1 := Lib.hid hn1; have hz1 : w.heap.size ≤ w1.heap.size := hn1.size; have BP1 := Lib.hid (BP.fr (BP.init w (.slice A s.length cap) (.slice none 0 0)) (Fr.grown (Fr.refl (fun _ => False) _) hg1 (by simp [Value.ownBlock])) (fun h => h) (fun h => h)); clear ho1 hown1 hg1 hn1)
    | (go_at_call 28; go_must (refine (Begins_n s c HS.out _ b2 A2 c2 _ rfl HR2.out _ _ HB.out).mono ?_); rintro e w3 ⟨rfl, hf3⟩; have HF3 := Lib.hid (HN2.out.trans hf3); have HO3 := Lib.hid (HO2.out.new hf3); have HR3 := Lib.hid (HR2.out.new hf3); have BP3 := Lib.hid (BP2.out.new hf3); obtain ⟨k0, k1, k2, k3⟩ := (BP2.out.new hf3).facts; clear hf3)
    | (go_at_call 29; go_must (refine (Rune_n s c c0 c1 HS.out HB.out _ b2 A2 c2 _ rfl HR3.out).mono ?_); rintro e w4 ⟨rfl, hf4⟩; have HF4 := Lib.hid (HF3.out.trans hf4); have BP4 := Lib.hid (BP3.out.new hf4); obtain ⟨m0, m1, m2, m3⟩ := (BP3.out.new hf4).facts; have m4 := Blk.alloc (BP3.out.new hf4).2 (.cells #[.int .i32 (rOf s c)] 21); have m5 := m4.cell 0; have m6 := m4.frozen 0; have HM := Lib.hid m4; clear m4 hf4)
    )
  have kk : ((w4.alloc (.cells #[.int .i32 (rOf s c)] 21)).setCell ⟨w.heap.size + 1, 0, none⟩ (.slice none 0 0)).cell? ⟨w.heap.size + 1, 0, none⟩ = some (.slice none 0 0) := (Blk.set HM.out 0 _).cell 0
  refine bodyPost_ret (v := .tuple #[.agg #[.slice none 0 0], .slice (some ⟨w4.heap.size, 0, none⟩) 1 1]) (by simp [results, Try.results15, go_sem, kk]) rfl ?_
  refine ⟨0, 0, none, 0, 1, w4.heap.size, _, 1, rfl, rfl, rfl, fun h => absurd h (by omega), Rd.nil _ _ _, (rd_new (w := w4) 21 #[.int .i32 (rOf s c)] 1 _ rfl rfl).fr (Fr.setCell (Fr.refl (· = w.heap.size + 1) _) (p := ⟨w.heap.size + 1, 0, none⟩) (.inl rfl) (.slice none 0 0)) ?_, Fr.setCell (HF4.out.trans (New.alloc _)) (.inr (by simp)) _⟩
  have := BP4.out.2.lt
  omega

set_option maxHeartbeats 1600000 in
theorem RStep_none (s : List Int) (c : Int) (hs : PV s) (h0 : s = []) (hbg : bgI s c = (false, false)) (w : World) (b : Nat) (A : Option Addr) (cap : Nat) (hr : Rd w b A s.length (B8 s)) :
    Calls Try.prog 15 #[.agg #[.slice A s.length cap], .int .u8 c] w (RPost w ([], [65533])) := by
  have hs0 : ((s.length : Int) == 0) = true := by subst h0; rfl
  clear h0
  have HR := Lib.hid hr
  have HS := Lib.hid hs
  have hl3 := hs.len
  have HB := Lib.hid hbg
  clear hr hs hbg
  go_enter Try.func15, Try.ntmps15
  go_wp2_with (first
    | (at_builtin; have _q := HO1; go_must (refine app8 rfl _ _ rfl w.heap.size v1 s.length (B8 s) rfl (World.ownsRow.alloc HO1.out _) w1.heap.size _ 1 1 (B8 [c]) rfl (rd_new _ _ 1 _ rfl rfl) (by simp [B8, Value.oneCell']) (by omega) (by simp; omega) ?_); intro v2 w2 hown2 hg2 _; have ho2 : Own8 w2 w.heap.size v2 (s ++ [c]) := Own8.of (u := [c]) hown2 rfl; have HN2 := Lib.hid (grown_new (World.ownsRow.alloc HO1.out _) hg2 (HN1.out.trans (New.alloc _)) (Nat.le_refl _)); have BP2 := Lib.hid (BP.own (BP1.out.new (New.alloc _)) (World.ownsRow.alloc HO1.out _) hg2); obtain ⟨b2, A2, c2, rfl, hr2, _⟩ := ho2.rdn (s.length + 1) (by simp); have HO2 := Lib.hid ho2; have HR2 := Lib.hid hr2; clear hown2 hg2 ho2 hr2)
    | (at_builtin; refine app8 rfl _ _ rfl w.heap.size (.slice none 0 0) 0 [] rfl (World.ownsRow_nil _ _ _ _) b A s.length cap (B8 s) rfl ((HR.out.new (New.alloc _)).new (New.alloc _)) (by simp [B8, Value.oneCell']) (by omega) (by simp; omega) ?_; intro v1 w1 hown1 hg1 _; have ho1 := own_of_nil8 hown1; have HO1 := Lib.hid ho1; have hn1 : New w w1 := Fr.grown ((New.alloc _).trans (New.alloc _)) hg1 (by simp [Value.ownBlock]); have HN1 := Lib.hid hn1; have hz1 : w.heap.size ≤ w1.heap.size := hn1.size; have BP1 := Lib.hid (BP.fr (BP.init w (.slice A s.length cap) (.slice none 0 0)) (Fr.grown (Fr.refl (fun _ => False) _) hg1 (by simp [Value.ownBlock])) (fun h => h) (fun h => h)); clear ho1 hown1 hg1 hn1)
    | (go_at_call 28; go_must (refine (Begins_n s c HS.out _ b2 A2 c2 _ rfl HR2.out _ _ HB.out).mono ?_); rintro e w3 ⟨rfl, hf3⟩; have HF3 := Lib.hid (HN2.out.trans hf3); have HO3 := Lib.hid (HO2.out.new hf3); have HR3 := Lib.hid (HR2.out.new hf3); have BP3 := Lib.hid (BP2.out.new hf3); obtain ⟨k0, k1, k2, k3⟩ := (BP2.out.new hf3).facts; have m4 := Blk.alloc (BP2.out.new hf3).2 (.cells #[.int .i32 65533] 21); have m5 := m4.cell 0; have m6 := m4.frozen 0; have HM := Lib.hid m4; clear m4; clear hf3)
    )
  have kk : ((w3.alloc (.cells #[.int .i32 (65533)] 21)).setCell ⟨w.heap.size + 1, 0, none⟩ (.slice none 0 0)).cell? ⟨w.heap.size + 1, 0, none⟩ = some (.slice none 0 0) := (Blk.set HM.out 0 _).cell 0
  refine bodyPost_ret (v := .tuple #[.agg #[.slice none 0 0], .slice (some ⟨w3.heap.size, 0, none⟩) 1 1]) (by simp [results, Try.results15, go_sem, kk]) rfl ?_
  refine ⟨0, 0, none, 0, 1, w3.heap.size, _, 1, rfl, rfl, rfl, fun h => absurd h (by omega), Rd.nil _ _ _, (rd_new (w := w3) 21 #[.int .i32 (65533)] 1 _ rfl rfl).fr (Fr.setCell (Fr.refl (· = w.heap.size + 1) _) (p := ⟨w.heap.size + 1, 0, none⟩) (.inl rfl) (.slice none 0 0)) ?_, Fr.setCell (HF3.out.trans (New.alloc _)) (.inr (by simp)) _⟩
  have := BP3.out.2.lt
  omega

theorem goes_nil (c : Int) : goesB [] c = false := rfl
theorem RStep_nil (c : Int) (c0 : 0 ≤ c) (c1 : c < 256) (w : World) (b : Nat) (A : Option Addr) (cap : Nat) :
    Calls Try.prog 15 #[.agg #[.slice A 0 cap], .int .u8 c] w (RPost w (stepI [] c)) := by
  have hc := lenI_le c
  rcases (by omega : lenI c = 0 ∨ lenI c = 1 ∨ 2 ≤ lenI c) with hl | hl | hl
  · rw [stepI_bad (goes_nil c) hl]
    exact RStep_none [] c trivial rfl (by unfold bgI; rw [if_pos rfl, hl]; rfl) w b A cap (Rd.nil _ _ _)
  · rw [stepI_one (goes_nil c) hl]
    exact RStep_done [] c c0 c1 trivial (by unfold bgI; rw [if_pos rfl, hl]; rfl) w b A cap (Rd.nil _ _ _)
  · rw [stepI_new (goes_nil c) hl]
    exact RStep_more [] c trivial (by unfold bgI; rw [if_pos rfl]; simp; omega) w b A cap (Rd.nil _ _ _)

theorem stepI_rec {s : List Int} {c : Int} (hg : goesB s c = false) (h0 : s ≠ []) : stepI s c = ((stepI [] c).1, [65533] ++ (stepI [] c).2) := by
  have hc := lenI_le c
  have he : endI s = [65533] := by unfold endI; rw [if_neg h0]
  rcases (by omega : lenI c = 0 ∨ lenI c = 1 ∨ 2 ≤ lenI c) with hl | hl | hl
  · rw [stepI_bad (goes_nil c) hl, stepI_bad hg hl, he]; rfl
  · rw [stepI_one (goes_nil c) hl, stepI_one hg hl, he]; rfl
  · rw [stepI_new (goes_nil c) hl, stepI_new hg hl, he]; rfl

set_option maxHeartbeats 1600000 in
theorem RStep_rec (s : List Int) (c : Int) (c0 : 0 ≤ c) (c1 : c < 256) (hs : PV s) (h0 : s ≠ []) (hbg : bgI s c = (false, false)) (w : World) (b : Nat) (A : Option Addr) (cap : Nat) (hr : Rd w b A s.length (B8 s)) :
    Calls Try.prog 15 #[.agg #[.slice A s.length cap], .int .u8 c] w (RPost w ((stepI [] c).1, [65533] ++ (stepI [] c).2)) := by
  have hs0 : ((s.length : Int) == 0) = false := by have := List.length_pos_iff.2 h0; rw [beq_eq_false_iff_ne]; omega
  clear h0
  have HR := Lib.hid hr
  have HS := Lib.hid hs
  have hl3 := hs.len
  have HB := Lib.hid hbg
  clear hr hs hbg
  go_enter Try.func15, Try.ntmps15
  go_wp2_with (first
    | (at_builtin; have _q := HO1; go_must (refine app8 rfl _ _ rfl w.heap.size v1 s.length (B8 s) rfl (World.ownsRow.alloc HO1.out _) w1.heap.size _ 1 1 (B8 [c]) rfl (rd_new _ _ 1 _ rfl rfl) (by simp [B8, Value.oneCell']) (by omega) (by simp; omega) ?_); intro v2 w2 hown2 hg2 _; have ho2 : Own8 w2 w.heap.size v2 (s ++ [c]) := Own8.of (u := [c]) hown2 rfl; have HN2 := Lib.hid (grown_new (World.ownsRow.alloc HO1.out _) hg2 (HN1.out.trans (New.alloc _)) (Nat.le_refl _)); have BP2 := Lib.hid (BP.own (BP1.out.new (New.alloc _)) (World.ownsRow.alloc HO1.out _) hg2); obtain ⟨b2, A2, c2, rfl, hr2, _⟩ := ho2.rdn (s.length + 1) (by simp); have HO2 := Lib.hid ho2; have HR2 := Lib.hid hr2; clear hown2 hg2 ho2 hr2)
    | (at_builtin; refine app8 rfl _ _ rfl w.heap.size (.slice none 0 0) 0 [] rfl (World.ownsRow_nil _ _ _ _) b A s.length cap (B8 s) rfl ((HR.out.new (New.alloc _)).new (New.alloc _)) (by simp [B8, Value.oneCell']) (by omega) (by simp; omega) ?_; intro v1 w1 hown1 hg1 _; have ho1 := own_of_nil8 hown1; have HO1 := Lib.hid ho1; have hn1 : New w w1 := Fr.grown ((New.alloc _).trans (New.alloc _)) hg1 (by simp [Value.ownBlock]); have HN1 := Lib.hid hn1; have hz1 : w.heap.size ≤ w1.heap.size := hn1.size; have BP1 := Lib.hid (BP.fr (BP.init w (.slice A s.length cap) (.slice none 0 0)) (Fr.grown (Fr.refl (fun _ => False) _) hg1 (by simp [Value.ownBlock])) (fun h => h) (fun h => h)); clear ho1 hown1 hg1 hn1)
    | (go_at_call 28; go_must (refine (Begins_n s c HS.out _ b2 A2 c2 _ rfl HR2.out _ _ HB.out).mono ?_); rintro e w3 ⟨rfl, hf3⟩; have HF3 := Lib.hid (HN2.out.trans hf3); have HO3 := Lib.hid (HO2.out.new hf3); have HR3 := Lib.hid (HR2.out.new hf3); have BP3 := Lib.hid (BP2.out.new hf3); obtain ⟨k0, k1, k2, k3⟩ := (BP2.out.new hf3).facts; clear hf3)
    | (go_at_call 15; go_must (refine (RStep_nil c c0 c1 _ 0 none 0).mono ?_); rintro e w4 ⟨n4, sb, sA, sc, m4, rb, rA, rc, rfl, hn4, hm4, hz4, hs4, hr4, hf4⟩; have HF4 := Lib.hid (HF3.out.trans hf4); have HZ4 : Hid (0 < n4 → w.heap.size ≤ sb) := Lib.hid (fun h => Nat.le_trans HF3.out.size (hz4 h)); clear hz4; have BP4 := Lib.hid (BP3.out.new hf4); have HS4 := Lib.hid hs4; have HR4 := Lib.hid hr4; have HN4 := Lib.hid hn4; have HM4 := Lib.hid hm4; clear hs4 hr4 hf4 hn4 hm4)
    )
  obtain ⟨W, hW⟩ : ∃ W, W = w4.alloc (.cells #[.slice sA n4 sc] 33) := ⟨_, rfl⟩
  rw [← hW]
  have fW : New w4 W := by rw [hW]; exact New.alloc _
  have kW : Blk W w4.heap.size 33 #[.slice sA n4 sc] := by rw [hW]; exact Blk.new _ _ _
  have bW := BP4.out.new fW
  have KW := Lib.hid kW
  have BW := Lib.hid bW
  have SW := Lib.hid (HS4.out.new fW)
  have RW := Lib.hid (HR4.out.new fW)
  have FW := Lib.hid (HF4.out.trans fW)
  have q0 := kW.cell 0
  have q1 : w.heap.size + 1 < w4.heap.size := BP4.out.2.lt
  have q2 : w4.heap.size < W.heap.size := kW.lt
  have hml : m4 ≤ 2 := by rw [← HM4.out]; exact stepI_len [] c
  clear kW bW fW hW k0 k1 k2 k3
  go_region_held3 (fun w' => w'.cell? ⟨w4.heap.size, 0, none⟩ = some (.slice sA n4 sc)) (first | go_keep | exact p4 | exact (Blk.far K5.out (p := ⟨w.heap.size + 1, 0, none⟩) (by simp; omega) _).cell 0)
    ((first
      | (refine stp32 (by rfl) _ _ (by rfl) W.heap.size (.slice (some ⟨W.heap.size, 0, none⟩) 1 1) 1 [.int .i32 65533] (by rfl) (own_lit W.heap.size _ _ 1 _ rfl rfl (by decide) (Nat.le_refl _)) rb rA m4 rc (R32 (stepI [] c).2) (by rfl) (RW.out.new ((Fr.drew (Fr.refl _ W)).alloc _)) (by simp [R32, Value.oneCell']) (by omega) (by simp) ?_; intro v5 w5 hown5 hg5 _; have f5 : Fr (· = W.heap.size) W w5 := Fr.grown ((Fr.drew (Fr.refl _ W)).alloc _) hg5 (fun k hk => .inl (by simpa [Value.ownBlock] using hk.symm)); have B5 := Lib.hid (BW.out.fr f5 (by omega) (by omega)); obtain ⟨p0, p1, p2, p3⟩ := (BW.out.fr f5 (by omega) (by omega)).facts; have K5 := Lib.hid (KW.out.fr f5 (by omega)); have p4 := (KW.out.fr f5 (by omega)).cell 0; have O5 := Lib.hid hown5; have F5 := Lib.hid f5; clear hown5 hg5 f5)))
  have kk : (w5.setCell ⟨w.heap.size + 1, 0, none⟩ (.slice sA n4 sc)).cell? ⟨w.heap.size + 1, 0, none⟩ = some (.slice sA n4 sc) := (B5.out.set _).2.cell 0
  go_wp2
  have o5 : Own32 w5 W.heap.size v5 ([65533] ++ (stepI [] c).2) := Own32.of (l := [65533]) O5.out HM4.out
  have fz : Fr (· = w.heap.size + 1) w5 (w5.setCell ⟨w.heap.size + 1, 0, none⟩ (.slice sA n4 sc)) := Fr.setCell (Fr.refl (· = w.heap.size + 1) w5) (p := ⟨w.heap.size + 1, 0, none⟩) (.inl rfl) _
  obtain ⟨b6, A6, c6, rfl, hr6, _⟩ := (o5.fr fz (fun k hk he => own_far o5 B5.out.2 (by decide) (by rw [hk, he]))).rdn (1 + m4) (by rw [List.length_append, HM4.out]; rfl)
  refine bodyPost_ret (v := .tuple #[.agg #[.slice sA n4 sc], .slice A6 (1 + m4) c6]) (by simp [results, Try.results15, go_sem, kk]) rfl ?_
  refine ⟨n4, sb, sA, sc, 1 + m4, b6, A6, c6, rfl, HN4.out, by show (65533 :: (stepI [] c).2).length = 1 + m4; rw [List.length_cons, HM4.out]; omega, HZ4.out, ?_, hr6, ?_⟩
  · refine (SW.out.fr' F5.out (fun h => ?_)).fr' fz (fun h => ?_)
    · obtain ⟨_, _, h, _⟩ := SW.out.2 h
      omega
    · exact rd_far SW.out BW.out.2 h
  · exact Fr.trans (Fr.trans FW.out F5.out (fun i hi e => by have := FW.out.size; omega)) fz (fun i hi e => by omega)

theorem RStep_any (s : List Int) (c : Int) (c0 : 0 ≤ c) (c1 : c < 256) (hs : PV s) (w : World) (b : Nat) (A : Option Addr) (cap : Nat) (hr : Rd w b A s.length (B8 s)) :
    Calls Try.prog 15 #[.agg #[.slice A s.length cap], .int .u8 c] w (RPost w (stepI s c)) := by
  by_cases h0 : s = []
  · subst h0
    exact RStep_nil c c0 c1 w b A cap
  · have e : bgI s c = (goesB s c, goesB s c && decide ((s.length : Int) + 1 = lenI (s.getD 0 0))) := by unfold bgI; rw [if_neg h0]
    obtain ⟨n, hL, hsn, hn⟩ := hs.lead h0
    by_cases hg : goesB s c = true
    · by_cases hm : (s.length : Int) + 1 < lenI (s.getD 0 0)
      · rw [stepI_more hg hm]
        exact RStep_more s c hs (by rw [e, hg, decide_eq_false (show ¬ (s.length : Int) + 1 = lenI (s.getD 0 0) by omega)]; rfl) w b A cap hr
      · rw [stepI_done hg hm]
        have := RStep_done s c c0 c1 hs (by rw [e, hg, decide_eq_true (show (s.length : Int) + 1 = lenI (s.getD 0 0) by omega)]; rfl) w b A cap hr
        unfold rOf at this
        rwa [if_neg h0] at this
    · have hg : goesB s c = false := by simpa using hg
      rw [stepI_rec hg h0]
      exact RStep_rec s c c0 c1 hs h0 (by rw [e, hg]; rfl) w b A cap hr

end Go.Proofs.Ytdkkdicgjhjinaa
