/-
  Bytes decoded by the specification.
-/
import Derived.Test.YtdkkdicgjhjinaaRAll
namespace Go.Proofs.Ytdkkdicgjhjinaa
open Go.RowKit

theorem RStep_n (s : List Int) (c : Int) (c0 : 0 ≤ c) (c1 : c < 256) (hs : PV s) (n : Nat) (hn : s.length = n) (w : World) (b : Nat) (A : Option Addr) (cap : Nat) (hr : Rd w b A n (B8 s)) :
    Calls Try.prog 15 #[.agg #[.slice A n cap], .int .u8 c] w (RPost w (stepI s c)) := by
  subst hn
  exact RStep_any s c c0 c1 hs w b A cap hr

theorem cell_far {w : World} {p q : Addr} {u v : Value} (h : w.cell? q = some v) (hne : q.block ≠ p.block) : (w.setCell p u).cell? q = some v :=
  (World.cell?_setCell_other w p q u (fun e => hne (by rw [e]))).trans h

theorem rd_far32 {w : World} {b g n : Nat} {A X : Option Addr} {Y Z : Nat} {ty : TypeId} {t : List Int} (h : Rd w b A n (R32 t)) (k : Blk w g ty #[.slice X Y Z]) (hp : 0 < n) : b ≠ g := by
  rintro rfl
  obtain ⟨o, _, _, hc⟩ := h.2 hp
  have h1 := hc 0 hp
  rw [k.cell] at h1
  have hl : 0 < t.length := by have := h.1; simp [R32] at this; omega
  rcases o with _ | o
  · simp [R32, List.getElem?_eq_getElem hl] at h1
  · simp [R32, List.getElem?_eq_getElem hl] at h1

/-- What the step has left: its state in the box g. -/
structure Mid (wr W : World) (g : Nat) (p : List Int × List Int) (n sb : Nat) (sA : Option Addr) (sc m rb : Nat) (rA : Option Addr) : Prop where
  box : W.cell? ⟨g, 0, none⟩ = some (.slice sA n sc)
  new : New wr W
  st : Rd W sb sA n (B8 p.1)
  ru : Rd W rb rA m (R32 p.2)

/-- After k bytes: the state's box H holds the pending bytes, v the runes. -/
def FR (w : World) (t : List Int) (k : Nat) (v : Value) (wr : World) : Prop :=
  ∃ n sb sA sc, (feedI [] (t.take k)).1.length = n ∧ (0 < n → w.heap.size ≤ sb) ∧ Rd wr sb sA n (B8 (feedI [] (t.take k)).1) ∧ BP wr w.heap.size (.slice sA n sc) (.slice none 0 0) ∧ Own32 wr w.heap.size v (feedI [] (t.take k)).2 ∧ New w wr

theorem FR.next {w W3 w4 : World} {t : List Int} {k : Nat} {x : Int} {u v4 : Value} {n1 sb1 sc1 m1 : Nat} {sA1 : Option Addr} (hk : k < t.length) (hx : t[k] = x)
    (hn1 : (stepI (feedI [] (t.take k)).1 x).1.length = n1) (hz1 : 0 < n1 → w.heap.size ≤ sb1) (hs3 : Rd W3 sb1 sA1 n1 (B8 (stepI (feedI [] (t.take k)).1 x).1)) (hb3 : BP W3 w.heap.size (.slice sA1 n1 sc1) (.slice none 0 0))
    (ho3 : Own32 W3 w.heap.size u (feedI [] (t.take k)).2) (hn3 : New w W3) (hrow : ∀ j, u.ownBlock = some j → 0 < n1 → sb1 ≠ j) (hm : (stepI (feedI [] (t.take k)).1 x).2.length = m1)
    (hown4 : w4.ownsRow w.heap.size 21 1 v4 ((feedI [] (t.take k)).2.length + m1) ((feedI [] (t.take k)).2.map (.int .i32) ++ R32 (stepI (feedI [] (t.take k)).1 x).2)) (hg4 : W3.grownBy w4 u.ownBlock) : FR w t (k + 1) v4 w4 := by
  have f : Fr (fun j => u.ownBlock = some j) W3 w4 := Fr.grown (Fr.refl _ _) hg4 (fun j hj => .inl hj)
  have e : feedI [] (t.take (k + 1)) = ((stepI (feedI [] (t.take k)).1 x).1, (feedI [] (t.take k)).2 ++ (stepI (feedI [] (t.take k)).1 x).2) := by
    rw [List.take_succ_eq_append_getElem hk, feedI_snoc, hx]
  unfold FR
  rw [e]
  refine ⟨n1, sb1, sA1, sc1, hn1, hz1, hs3.fr' f (fun h he => hrow _ he h rfl), hb3.fr f (fun he => own_far ho3 hb3.1 (by decide) he) (fun he => own_far ho3 hb3.2 (by decide) he), Own32.of hown4 hm, ?_⟩
  exact Fr.trans hn3 f (fun i hi he => by have := (ho3.lt he).1; omega)

def FPost (w : World) (p : List Int × List Int) (e : Ending) (w' : World) : Prop :=
  ∃ n sb sA sc v, e = .returned (.tuple #[.agg #[.slice sA n sc], v]) ∧ p.1.length = n ∧ Rd w' sb sA n (B8 p.1) ∧ Own32 w' w.heap.size v p.2 ∧ New w w'

set_option maxHeartbeats 1600000 in
theorem RFeed_any (t : List Int) (ht : Bytes t) (hlen : t.length ≤ 400000) (w : World) (b : Nat) (A : Option Addr) (cap : Nat) (hr : Rd w b A t.length (B8 t)) :
    Calls Try.prog 26 #[.agg #[.slice none 0 0], .slice A t.length cap] w (FPost w (feedI [] t)) := by
  have HT := Lib.hid ht
  have HR := Lib.hid hr
  clear ht hr
  go_enter Try.func26, Try.ntmps26
  go_wp2_with fail
  go_loopw [6, 7] (fun v i wr => ∃ k : Nat, k ≤ t.length ∧ i = .int .i64 k ∧ FR w t k v wr) (fun _ i _ => t.length - (intOf i).toNat)
  case atStart =>
    refine ⟨0, Nat.zero_le _, rfl, 0, 0, none, 0, rfl, fun h => absurd h (by omega), Rd.nil _ _ _, BP.init _ _ _, Own32.nil _ _, (New.alloc _).trans (New.alloc _)⟩
  case round =>
    obtain ⟨k, hk, rfl, n, sb, sA, sc, hn, hz, hs, hbp, ho, hnew⟩ := hrel
    by_cases hlt : k < t.length
    · obtain ⟨o, rfl, hc⟩ := (HR.out.new hnew).at_ hlt
      have hc' : wr.cell? ⟨b, o + k, none⟩ = some (.int .u8 t[k]) := by simpa [B8] using hc
      obtain ⟨k0, k1, k2, k3⟩ := hbp.facts
      have j1 : (k : Int) < (t.length : Int) := by omega
      have j0 : (0 : Int) ≤ (k : Int) := by omega
      have g0 : w.heap.size < wr.heap.size := hbp.1.lt
      have g1 : b < wr.heap.size := World.block_lt_of_cell? wr _ hc'
      have hb := HT.out t[k] (List.getElem_mem hlt)
      have HN := Lib.hid hn
      have HS := Lib.hid hs
      have HB := Lib.hid hbp
      have HO := Lib.hid ho
      have HW := Lib.hid hnew
      have HP := Lib.hid (feedI_pv (t.take k) (s := []) trivial)
      obtain ⟨x, hx⟩ : ∃ x, t[k] = x := ⟨_, rfl⟩
      rw [hx] at hb hc'
      have HX := Lib.hid hx
      clear hz hc hn hs hbp ho hnew k1 k3 hx
      go_wp2_with fail
      go_region_held3 (fun w' => w'.cell? ⟨w.heap.size, 0, none⟩ = some (.slice sA n sc) ∧ w'.cell? ⟨b, o + k, none⟩ = some (.int .u8 x)) (first | go_keep | exact ⟨p0, p1⟩ | exact ⟨cell_far p0 (Nat.ne_of_lt g0), cell_far p1 (Nat.ne_of_lt g1)⟩)
        ((first
          | (go_at_call 15; go_must (refine (RStep_n (feedI [] (t.take k)).1 x hb.1 hb.2 HP.out n HN.out _ sb sA sc (HS.out.new ?nw)).mono ?_; case nw => first | exact Fr.drew (Fr.refl _ _) | exact Fr.drew (Fr.alloc (Fr.refl _ _) _)); rintro e w1 ⟨n1, sb1, sA1, sc1, m1, rb1, rA1, rc1, rfl, hn1, hm1, hz1, hs1, hr1, hf0⟩; have hf1 : New wr w1 := (by first | exact New.trans (Fr.drew (Fr.refl _ wr)) hf0 | exact New.trans (Fr.drew (Fr.alloc (Fr.refl _ wr) _)) hf0); (first | (have kb := Blk.fr (Blk.drew (Blk.new wr 33 #[.slice none 0 0])) hf0 (fun h => h); have kb0 := kb.cell 0; have kb1 := kb.frozen 0; have KB := Lib.hid kb; clear kb) | skip); obtain ⟨p0, p2, p3, p4⟩ := (HB.out.new hf1).facts; have p1 : w1.cell? ⟨b, o + k, none⟩ = some (.int .u8 x) := (hf1.cell (p := ⟨b, o + k, none⟩) (World.block_lt_of_cell? wr _ hc') (fun h => h)).trans hc'; have ne0 := World.new_ne w1 _ p0; have ne1 := World.new_ne w1 _ p1; have HN1 := Lib.hid hn1; have HM1 := Lib.hid hm1; have HS1 := Lib.hid hs1; have HR1 := Lib.hid hr1; have HF1 := Lib.hid hf1; have HZ1 : Hid (0 < n1 → wr.heap.size ≤ sb1) := Lib.hid (fun h => Nat.le_trans (by first | exact Nat.le_refl _ | exact Nat.le_of_lt (Nat.lt_of_lt_of_eq (Nat.lt_succ_self _) (by simp))) (hz1 h)); clear hz1 hf0 hn1 hm1 hs1 hr1 hf1)))
      · have KM : Mid wr (w1.alloc (.cells #[.slice sA1 n1 sc1] 33)) w1.heap.size (stepI (feedI [] (t.take k)).1 x) n1 sb1 sA1 sc1 m1 rb1 rA1 :=
          ⟨(Blk.new w1 _ _).cell 0, HF1.out.trans (New.alloc _), HS1.out.new (New.alloc _), HR1.out.new (New.alloc _)⟩
        clear p0 p1 p2 p3 p4 ne0 ne1
        generalize w1.alloc (.cells #[.slice sA1 n1 sc1] 33) = W2 at *
        generalize w1.heap.size = g8 at *
        obtain ⟨m0, mN, mS, mR⟩ := KM
        have bp2 := HB.out.new mN
        obtain ⟨r0, r1, r2, r3⟩ := bp2.facts
        have fz : Fr (· = w.heap.size) W2 (W2.setCell ⟨w.heap.size, 0, none⟩ (.slice sA1 n1 sc1)) := Fr.setCell (Fr.refl (· = w.heap.size) W2) (p := ⟨w.heap.size, 0, none⟩) (.inl rfl) _
        have O3 := Lib.hid ((HO.out.new mN).fr fz (fun j hj he => own_far (HO.out.new mN) bp2.1 (by decide) (by rw [hj, he])))
        have R3 := Lib.hid (mR.fr' fz (fun h => rd_far32 mR bp2.1 h))
        have S3 := Lib.hid (mS.fr' fz (fun h => rd_far mS bp2.1 h))
        have B3 : Hid (BP (W2.setCell ⟨w.heap.size, 0, none⟩ (.slice sA1 n1 sc1)) w.heap.size (.slice sA1 n1 sc1) (.slice none 0 0)) := Lib.hid ⟨bp2.1.set 0 _, bp2.2.far (p := ⟨w.heap.size, 0, none⟩) (by simp) _⟩
        have N3 : Hid (New w (W2.setCell ⟨w.heap.size, 0, none⟩ (.slice sA1 n1 sc1))) := Lib.hid (Fr.setCell (HW.out.trans mN) (.inr (Nat.le_refl _)) _)
        have hz3 : w.heap.size ≤ (W2.setCell ⟨w.heap.size, 0, none⟩ (.slice sA1 n1 sc1)).heap.size := N3.out.size
        have D3 : Hid (∀ j, u6.ownBlock = some j → 0 < n1 → sb1 ≠ j) := Lib.hid (fun j hj hp => by have h1 := (HO.out.lt hj).2; have h2 := HZ1.out hp; omega)
        have hl2 := feedI_len (t.take k) []
        have hl3 : (t.take k).length ≤ t.length := by rw [List.length_take]; omega
        have hm2 : m1 ≤ 2 := by rw [← HM1.out]; exact stepI_len _ _
        clear mN mS mR bp2 fz k0 k2 r1 r3
        go_wp2_with (at_builtin; go_must (refine app32 rfl _ _ rfl w.heap.size u6 (feedI [] (t.take k)).2.length ((feedI [] (t.take k)).2.map (.int .i32)) rfl O3.out rb1 rA1 m1 rc1 (R32 (stepI (feedI [] (t.take k)).1 x).2) rfl R3.out (by simp [R32, Value.oneCell']) (by omega) hz3 ?_); intro v4 w4 hown4 hg4 _; have HX4 := Lib.hid (FR.next hlt HX.out HN1.out (fun h => Nat.le_trans (Nat.le_of_lt g0) (HZ1.out h)) S3.out B3.out O3.out N3.out D3.out HM1.out hown4 hg4); clear hown4 hg4)
        go_roundw
        case rel => exact ⟨k + 1, by omega, by go_num, HX4.out⟩
        case measure => simp [intOf]; omega
      · have KM : Mid wr (w1.setCell ⟨wr.heap.size, 0, none⟩ (.slice sA1 n1 sc1)) wr.heap.size (stepI (feedI [] (t.take k)).1 x) n1 sb1 sA1 sc1 m1 rb1 rA1 :=
          ⟨(KB.out.set 0 _).cell 0, Fr.setCell HF1.out (.inr (Nat.le_refl _)) _, HS1.out.fr' (Fr.setCell (Fr.refl (· = wr.heap.size) _) (p := ⟨wr.heap.size, 0, none⟩) (.inl rfl) _) (fun h => rd_far HS1.out KB.out h), HR1.out.fr' (Fr.setCell (Fr.refl (· = wr.heap.size) _) (p := ⟨wr.heap.size, 0, none⟩) (.inl rfl) _) (fun h => rd_far32 HR1.out KB.out h)⟩
        clear p0 p1 p2 p3 p4 ne0 ne1 kb0 kb1 KB
        generalize w1.setCell ⟨wr.heap.size, 0, none⟩ (.slice sA1 n1 sc1) = W2 at *
        obtain ⟨m0, mN, mS, mR⟩ := KM
        have bp2 := HB.out.new mN
        obtain ⟨r0, r1, r2, r3⟩ := bp2.facts
        have fz : Fr (· = w.heap.size) W2 (W2.setCell ⟨w.heap.size, 0, none⟩ (.slice sA1 n1 sc1)) := Fr.setCell (Fr.refl (· = w.heap.size) W2) (p := ⟨w.heap.size, 0, none⟩) (.inl rfl) _
        have O3 := Lib.hid ((HO.out.new mN).fr fz (fun j hj he => own_far (HO.out.new mN) bp2.1 (by decide) (by rw [hj, he])))
        have R3 := Lib.hid (mR.fr' fz (fun h => rd_far32 mR bp2.1 h))
        have S3 := Lib.hid (mS.fr' fz (fun h => rd_far mS bp2.1 h))
        have B3 : Hid (BP (W2.setCell ⟨w.heap.size, 0, none⟩ (.slice sA1 n1 sc1)) w.heap.size (.slice sA1 n1 sc1) (.slice none 0 0)) := Lib.hid ⟨bp2.1.set 0 _, bp2.2.far (p := ⟨w.heap.size, 0, none⟩) (by simp) _⟩
        have N3 : Hid (New w (W2.setCell ⟨w.heap.size, 0, none⟩ (.slice sA1 n1 sc1))) := Lib.hid (Fr.setCell (HW.out.trans mN) (.inr (Nat.le_refl _)) _)
        have hz3 : w.heap.size ≤ (W2.setCell ⟨w.heap.size, 0, none⟩ (.slice sA1 n1 sc1)).heap.size := N3.out.size
        have D3 : Hid (∀ j, u6.ownBlock = some j → 0 < n1 → sb1 ≠ j) := Lib.hid (fun j hj hp => by have h1 := (HO.out.lt hj).2; have h2 := HZ1.out hp; omega)
        have hl2 := feedI_len (t.take k) []
        have hl3 : (t.take k).length ≤ t.length := by rw [List.length_take]; omega
        have hm2 : m1 ≤ 2 := by rw [← HM1.out]; exact stepI_len _ _
        clear mN mS mR bp2 fz k0 k2 r1 r3
        go_wp2_with (at_builtin; go_must (refine app32 rfl _ _ rfl w.heap.size u6 (feedI [] (t.take k)).2.length ((feedI [] (t.take k)).2.map (.int .i32)) rfl O3.out rb1 rA1 m1 rc1 (R32 (stepI (feedI [] (t.take k)).1 x).2) rfl R3.out (by simp [R32, Value.oneCell']) (by omega) hz3 ?_); intro v4 w4 hown4 hg4 _; have HX4 := Lib.hid (FR.next hlt HX.out HN1.out (fun h => Nat.le_trans (Nat.le_of_lt g0) (HZ1.out h)) S3.out B3.out O3.out N3.out D3.out HM1.out hown4 hg4); clear hown4 hg4)
        go_roundw
        case rel => exact ⟨k + 1, by omega, by go_num, HX4.out⟩
        case measure => simp [intOf]; omega
    · obtain rfl : k = t.length := by omega
      obtain ⟨k0, k1, k2, k3⟩ := hbp.facts
      have kk := (hbp.set (.slice sA n sc)).2.cell 0
      rw [List.take_length] at hn hs ho
      have HN := Lib.hid hn
      have HS := Lib.hid hs
      have HB := Lib.hid hbp
      have HO := Lib.hid ho
      have HW := Lib.hid hnew
      have HZ := Lib.hid hz
      clear hn hs hbp ho hnew hz
      go_wp2
      have fz : Fr (· = w.heap.size + 1) wr (wr.setCell ⟨w.heap.size + 1, 0, none⟩ (.slice sA n sc)) := Fr.setCell (Fr.refl (· = w.heap.size + 1) wr) (p := ⟨w.heap.size + 1, 0, none⟩) (.inl rfl) _
      refine bodyPost_ret (v := .tuple #[.agg #[.slice sA n sc], u6]) (by simp [results, Try.results26, go_sem, kk]) rfl ?_
      exact ⟨n, sb, sA, sc, u6, rfl, HN.out, HS.out.fr' fz (fun h => rd_far HS.out HB.out.2 h), HO.out.fr fz (fun j hj he => own_far HO.out HB.out.2 (by decide) (by rw [hj, he])), Fr.setCell HW.out (.inr (by simp)) _⟩

set_option maxHeartbeats 1600000 in
theorem RDecode_any (t : List Int) (ht : Bytes t) (hlen : t.length ≤ 400000) (w : World) (b : Nat) (A : Option Addr) (cap : Nat) (hr : Rd w b A t.length (B8 t)) :
    Calls Try.prog 12 #[.slice A t.length cap] w fun e w' => ∃ v', e = .returned v' ∧ Own32 w' w.heap.size v' (decI t) ∧ New w w' := by
  have hl := feedI_len t []
  have HR := Lib.hid hr
  clear hr
  by_cases h0 : (feedI [] t).1 = []
  · go_enter Try.func12, Try.ntmps12
    go_wp2_with (go_at_call 26; go_must (refine (RFeed_any t ht hlen _ b A cap HR.out).mono ?_); rintro e w1 ⟨n, sb, sA, sc, v1, rfl, hn, hs, ho, hf⟩; have hn0 : n = 0 := (by rw [← hn, h0]; rfl); clear hn hs; subst hn0; have HO := Lib.hid ho; have HF := Lib.hid hf; clear ho hf)
    go_ret
    refine ⟨v1, rfl, ?_, HF.out.trans (New.alloc _)⟩
    have e : decI t = (feedI [] t).2 := by unfold decI; rw [h0]; simp [endI]
    rw [e]
    exact HO.out.new (New.alloc _)
  · have hp : 0 < (feedI [] t).1.length := List.length_pos_iff.2 h0
    have e : decI t = (feedI [] t).2 ++ [65533] := by unfold decI; simp [endI, h0]
    have HE := Lib.hid e
    clear e
    go_enter Try.func12, Try.ntmps12
    go_wp2_with (first
      | (go_at_call 26; go_must (refine (RFeed_any t ht hlen _ b A cap HR.out).mono ?_); rintro e w1 ⟨n, sb, sA, sc, v1, rfl, hn, hs, ho, hf⟩; have hn0 : (0 : Int) < (n : Int) := (by rw [← hn]; omega); clear hn hs; have HO := Lib.hid ho; have HF := Lib.hid hf; clear ho hf)
      | (at_builtin; go_must (refine app32 rfl _ _ rfl w.heap.size v1 (feedI [] t).2.length ((feedI [] t).2.map (.int .i32)) rfl (World.ownsRow.alloc (World.ownsRow.alloc HO.out _) _) (w1.heap.size + 1) _ 1 1 [.int .i32 65533] rfl (rd_at _ _ 1 _ rfl rfl _ (by simp)) (by simp [Value.oneCell']) (by omega) (by have := HF.out.size; simp; omega) ?_); intro v2 w2 hown2 hg2 _; have HO2 : Hid (Own32 w2 w.heap.size v2 ((feedI [] t).2 ++ [65533])) := Lib.hid (Own32.of (t := [65533]) hown2 rfl); have HF2 : Hid (New w w2) := Lib.hid (Fr.trans HF.out (Fr.grown (S := fun j => v1.ownBlock = some j) (((Fr.refl _ _).alloc _).alloc _) hg2 (fun j hj => .inl hj)) (fun i hi he => by have := (HO.out.lt he).1; omega)); clear hown2 hg2))
    go_ret
    exact ⟨v2, rfl, by rw [HE.out]; exact HO2.out, HF2.out⟩

end Go.Proofs.Ytdkkdicgjhjinaa
