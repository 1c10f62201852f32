/-
  A decoder byte by byte.
-/
import Derived.Test.YtdkkdicgjhjinaaFours
namespace Go.Proofs.Ytdkkdicgjhjinaa
open Go.RowKit

set_option maxHeartbeats 800000 in
theorem steps_long (A : Option Addr) (n cap : Nat) (at_ : Int) (hn : 100 < n) (w : World) :
    Calls Try.prog 4 #[.slice A n cap, .int .i64 at_] w fun e w' => e = .returned (.bool true) ∧ New w w' := by
  have h1 : (100 : Int) < (n : Int) := by omega
  go_enter Try.func4, Try.ntmps4
  go_wp2_with (go_at_call 9; refine (known_any _).mono ?_; rintro e w1 ⟨rfl, hk⟩)
  go_ret
  exact ⟨rfl, hk⟩

theorem DecEnd_e (s l : List Int) (he : endI s = l) (m : Nat) (hm : l.length = m) (g : Nat) (w : World) (h : Dec w g s) :
    Calls Try.prog 17 #[.pointer (some ⟨g, 0, none⟩)] w fun e w' =>
      ∃ b A c, e = .returned (.slice A m c) ∧ Rd w' b A m (R32 l) ∧ Dec w' g [] ∧ Fr (· = g) w w' := by
  subst he hm
  exact DecEnd_n s g w h
theorem Pending_e (g : Nat) (w : World) (h : Dec w g []) :
    Calls Try.prog 16 #[.pointer (some ⟨g, 0, none⟩)] w fun e w' => ∃ A c, e = .returned (.slice A 0 c) ∧ New w w' := by
  refine (Pending_n [] (by decide) g w h).mono ?_
  rintro e w' ⟨_, A, c, rfl, _, _, hf, _⟩
  exact ⟨A, c, rfl, hf⟩
theorem rd_dec {w : World} {b g n : Nat} {A : Option Addr} {l s : List Int} (h : Rd w b A n (R32 l)) (k : Dec w g s) (hp : 0 < n) : b ≠ g := by
  rintro rfl
  obtain ⟨o, _, _, hc⟩ := h.2 hp
  have h1 := hc 0 hp
  have hl : 0 < l.length := by have := h.1; simp [R32] at this; omega
  rw [Blk.cell k] at h1
  rcases o with _ | _ | _ | _ | _ | o <;> simp [R32, List.getElem?_eq_getElem hl] at h1

/-- After k bytes: the decoder at dv, and the state in the box behind it, have the same pending bytes. -/
def SR (w : World) (t : List Int) (k : Nat) (dv : Value) (wr : World) : Prop :=
  ∃ g n sb sA sc, dv = .pointer (some ⟨g, 0, none⟩) ∧ (feedI [] (t.take k)).1.length = n ∧ Dec wr g (feedI [] (t.take k)).1 ∧ Blk wr (w.heap.size + 1) 33 #[.slice sA n sc] ∧
    Rd wr sb sA n (B8 (feedI [] (t.take k)).1) ∧ New w wr ∧ w.heap.size ≤ g ∧ (0 < n → sb ≠ g)

/-- What was returned has been changed, and nothing else. -/
def PQ (w5 : World) (base : Nat) (A : Option Addr) (n c : Nat) (wq : World) : Prop :=
  ∃ q : List Int, q.length = n ∧ Own8 wq base (.slice A n c) q ∧ Fr (fun b => (Value.slice A n c).ownBlock = some b) w5 wq

theorem own_rd8 {w : World} {base : Nat} {A : Option Addr} {n c : Nat} {t : List Int} (h : Own8 w base (.slice A n c) t) (hn : t.length = n) (hp : 0 < n) : ∃ g, A = some ⟨g, 0, none⟩ ∧ base ≤ g := by
  subst hn
  obtain ⟨g, cap, hv, hb, _⟩ := World.ownsRow.form h hp
  injection hv with h1
  exact ⟨g, h1, hb⟩

theorem SR.next {w w5 wq : World} {t : List Int} {k gz : Nat} (hk : k < t.length) {x : Int} (hx : t[k] = x) {n1 sb1 sc1 : Nat} {sA1 : Option Addr} (hn1 : (stepI (feedI [] (t.take k)).1 x).1.length = n1)
    (hd : Dec w5 gz (stepI (feedI [] (t.take k)).1 x).1) (kh : Blk w5 (w.heap.size + 1) 33 #[.slice sA1 n1 sc1]) (hs : Rd w5 sb1 sA1 n1 (B8 (stepI (feedI [] (t.take k)).1 x).1)) (hw : New w w5) (hgz : w.heap.size ≤ gz) (hne : 0 < n1 → sb1 ≠ gz)
    {base : Nat} {A : Option Addr} {c : Nat} (hb : w.heap.size ≤ base) (ho : Own8 w5 base (.slice A n1 c) (stepI (feedI [] (t.take k)).1 x).1) (hsb : 0 < n1 → sb1 < base) (hq : PQ w5 base A n1 c wq) : SR w t (k + 1) (.pointer (some ⟨gz, 0, none⟩)) wq := by
  obtain ⟨q, hq1, hq2, hq3⟩ := hq
  have e : feedI [] (t.take (k + 1)) = ((stepI (feedI [] (t.take k)).1 x).1, (feedI [] (t.take k)).2 ++ (stepI (feedI [] (t.take k)).1 x).2) := by
    rw [List.take_succ_eq_append_getElem hk, feedI_snoc, hx]
  unfold SR
  rw [e]
  refine ⟨gz, n1, sb1, sA1, sc1, rfl, hn1, hd.fr hq3 (fun he => own_far ho hd (by decide) he), kh.fr hq3 (fun he => own_far ho kh (by decide) he), hs.fr' hq3 (fun h he => ?_), Fr.trans hw hq3 (fun i hi he => ?_), hgz, hne⟩
  · have := (ho.lt he).1
    have := hsb h
    omega
  · have := (ho.lt he).1
    omega
theorem PQ.step {w5 : World} {base g n c : Nat} {wq : World} (h : PQ w5 base (some ⟨g, 0, none⟩) n c wq) (j : Nat) (z : Int) : PQ w5 base (some ⟨g, 0, none⟩) n c (wq.setCell ⟨g, j, none⟩ (.int .u8 z)) := by
  obtain ⟨q, hq, ho, hf⟩ := h
  subst hq
  refine ⟨q.set j z, by simp, ?_, Fr.setCell (p := ⟨g, j, none⟩) hf (.inl rfl) _⟩
  have := (World.ownsRow.stored ho j (.int .u8 z)).1
  unfold Own8
  rw [List.length_set, B8, List.map_set]
  exact this

set_option maxRecDepth 100000 in
set_option maxHeartbeats 6400000 in
theorem steps_short (t : List Int) (ht : Bytes t) (at_ : Int) (A : Option Addr) (b cap : Nat) (w : World) (hr : Rd w b A t.length (B8 t)) (hn : t.length ≤ 100) :
    Calls Try.prog 4 #[.slice A t.length cap, .int .i64 at_] w fun e w' => e = .returned (.bool true) ∧ New w w' := by
  have h1 : ¬ (100 : Int) < (t.length : Int) := by omega
  have HT := Lib.hid ht
  have HR := Lib.hid hr
  clear hr ht
  go_enter Try.func4, Try.ntmps4
  go_wp2_with fail
  go_loopw [5, 24] (fun dv i wr => ∃ k : Nat, k ≤ t.length ∧ i = .int .i64 k ∧ SR w t k dv wr) (fun _ i _ => t.length - (intOf i).toNat)
  case atStart =>
    refine ⟨0, Nat.zero_le _, rfl, w.heap.size, 0, 0, none, 0, rfl, rfl, Blk.alloc (Blk.new w _ _) _, ?_, Rd.nil _ _ _, (New.alloc _).trans (New.alloc _), Nat.le_refl _, fun h => absurd h (by omega)⟩
    exact blk_at _ _ _ (by simp)
  case round =>
    obtain ⟨k, hk, rfl, gz, n, sb, sA, sc, rfl, hn0, hd, hbl, hs, hnew, hgz, hsg⟩ := hrel
    by_cases hlt : k < t.length
    · obtain ⟨o, rfl, hc⟩ := (HR.out.new hnew).at_ hlt
      have hc' : wr.cell? ⟨b, o + k, none⟩ = some (.int .u8 t[k]) := by simpa [B8] using hc
      have u0 := hbl.cell 0
      have j1 : (k : Int) < (t.length : Int) := by omega
      have j0 : (0 : Int) ≤ (k : Int) := by omega
      have hb := HT.out t[k] (List.getElem_mem hlt)
      obtain ⟨x, hx⟩ : ∃ x, t[k] = x := ⟨_, rfl⟩
      rw [hx] at hb hc'
      have HX := Lib.hid hx
      have HN := Lib.hid hn0
      have HDz := Lib.hid hd
      have HBz := Lib.hid hbl
      have HSz := Lib.hid hs
      have HNz := Lib.hid hnew
      have HP := Lib.hid (feedI_pv (t.take k) (s := []) trivial)
      have hgz2 : gz < wr.heap.size := Blk.lt hd
      have hgH : w.heap.size + 1 ≠ gz := fun e => Blk.other hbl hd (by decide) e
      clear hc hx hn0 hd hbl hs hnew
      by_cases hat : (k : Int) = at_
      · have hq : ((k : Int) == at_) = true := by rw [beq_iff_eq]; exact hat
        clear hat
        go_wp2_with fail
        refine (Copy_any (feedI [] (t.take k)).1 gz _ HDz.out).mono ?_
        rintro e wc ⟨gc, rfl, hgc, hdc, hnc⟩
        have HC := Lib.hid hdc
        have HO := Lib.hid (HDz.out.fr hnc (fun h => h))
        have HNc := Lib.hid hnc
        clear hdc hnc
        go_wp2_with fail
        refine (Step_any (feedI [] (t.take k)).1 226 (by decide) HP.out gz _ HO.out).mono ?_
        rintro e wd ⟨vd, rfl, _, hdd, hfd⟩
        have HD1 := Lib.hid hdd
        have HF1 := Lib.hid hfd
        clear hdd hfd
        go_wp2_with fail
        refine (Step_any _ 130 (by decide) (stepI_pv 226 HP.out) gz _ HD1.out).mono ?_
        rintro e we ⟨ve, rfl, _, _, hfe⟩
        have hfx : Fr (· = gz) wr we := Fr.trans (HNc.out.of_new (· = gz)) (Fr.trans HF1.out hfe (fun _ _ h => h)) (fun _ _ h => h)
        have hfy : Fr (· = gz) wc we := Fr.trans HF1.out hfe (fun _ _ h => h)
        have hgg : gc ≠ gz := by omega
        have hbx := HBz.out.fr hfx hgH
        have hsx := HSz.out.fr' hfx hsg
        have hnx := Fr.cut HNz.out hfx hgz
        have hdx := HC.out.fr hfy hgg
        have u1 := hbx.cell 0
        have hgz : w.heap.size ≤ gc := by have := HNz.out.size; omega
        have hgz2 : gc < we.heap.size := Blk.lt hdx
        have hgH : w.heap.size + 1 ≠ gc := fun e => Blk.other hbx hdx (by decide) e
        have HBz := Lib.hid hbx
        have HSz := Lib.hid hsx
        have HNz := Lib.hid hnx
        have HDz := Lib.hid hdx
        clear hfx hfy hbx hsx hnx hdx hfe
        clear HD1 HF1 HC HO HNc
        go_wp2_with (first
          | (go_at_call 15; go_must (refine (RStep_n (feedI [] (t.take k)).1 x hb.1 hb.2 HP.out n HN.out _ sb sA sc HSz.out).mono ?_); rintro e w1 ⟨n1, sb1, sA1, sc1, m1, rb1, rA1, rc1, rfl, hn1, hm1, hz1, hs1, hr1, hf1⟩; have HF1 := Lib.hid hf1; have HN1 := Lib.hid hn1; have HM1 := Lib.hid hm1; have HZ1 := Lib.hid hz1; have nw : New w1 (w1.alloc (.cells #[.slice sA1 n1 sc1] 33)) := New.alloc _; have hd1 := HDz.out.fr (hf1.trans nw) (fun h => h); have HD1 := Lib.hid hd1; have HS1 := Lib.hid (hs1.new nw); have HR1 := Lib.hid (hr1.new nw); have HNE : Hid (0 < m1 → rb1 ≠ gc) := Lib.hid (fun h => rd_dec (hr1.new nw) hd1 h); have HB1 := Lib.hid (HBz.out.fr (hf1.trans nw) (fun h => h)); clear hn1 hm1 hz1 hs1 hr1 hf1 nw hd1)
          | (go_at_call 14; go_must (refine (Step_any (feedI [] (t.take k)).1 x hb.1 HP.out gc _ HD1.out).mono ?_); rintro e w2 ⟨v2, rfl, ho2, hd2, hf2⟩; obtain ⟨b2, A2, c2, rfl, hr2, _⟩ := ho2.rdn m1 HM1.out; have HR2 := Lib.hid hr2; have HD2 := Lib.hid hd2; have HF2 := Lib.hid hf2; clear hr2 ho2 hd2 hf2)
          | (go_at_call 10; go_must (refine (Same_n (stepI (feedI [] (t.take k)).1 x).2 (stepI (feedI [] (t.take k)).1 x).2 m1 m1 HM1.out HM1.out _ b2 rb1 A2 rA1 c2 rc1 HR2.out (HR1.out.fr' HF2.out HNE.out) (by have := stepI_len (feedI [] (t.take k)).1 x; omega) rfl).mono ?_); rintro e w3 ⟨rfl, hf3⟩; have HF3 := Lib.hid hf3; have kT : Blk w3 w1.heap.size 33 #[.slice sA1 n1 sc1] := ((Blk.new w1 _ _).fr HF2.out (Nat.ne_of_gt (Nat.lt_of_lt_of_le hgz2 HF1.out.size))).fr hf3 (fun h => h); have kH : Blk w3 (w.heap.size + 1) 33 #[.slice sA n sc] := (HB1.out.fr HF2.out hgH).fr hf3 (fun h => h); have t0 := kT.cell 0; have t1 := kH.cell 0; have t2 := kH.frozen 0; have KH := Lib.hid kH; clear hf3 kT kH)
          | (go_at_call 16; go_must (refine (Pending_any (stepI (feedI [] (t.take k)).1 x).1 (stepI_pv x HP.out).len gc _ ((HD2.out.fr HF3.out (fun h => h)).fr (Fr.setCell (Fr.refl (· = w.heap.size + 1) _) (p := ⟨w.heap.size + 1, 0, none⟩) (.inl rfl) (.slice sA1 n1 sc1)) (fun h => hgH h.symm))).mono ?_); rintro e w5 ⟨v5, rfl, ho5, hf5⟩; have hv5 := ho5; obtain ⟨b5, A5, c5, rfl, hr5, _⟩ := ho5.rdn n1 HN1.out; have HF5 := Lib.hid hf5; have HO5 := Lib.hid hv5; have hcv1 := conv_bytes hr5 c5; have hs4 : Rd (w3.setCell ⟨w.heap.size + 1, 0, none⟩ (.slice sA1 n1 sc1)) sb1 sA1 n1 (B8 (stepI (feedI [] (t.take k)).1 x).1) := (((HS1.out.fr' HF2.out (fun h e => Nat.lt_irrefl _ (Nat.lt_of_lt_of_le (Nat.lt_of_le_of_lt (Nat.le_of_eq e) hgz2) (HZ1.out h)))).new HF3.out).fr' (Fr.setCell (Fr.refl (· = w.heap.size + 1) _) (p := ⟨w.heap.size + 1, 0, none⟩) (.inl rfl) (.slice sA1 n1 sc1)) (fun h e => Nat.lt_irrefl _ (Nat.lt_of_lt_of_le (Nat.lt_of_le_of_lt (Nat.le_of_eq e) HBz.out.lt) (HZ1.out h)))); have hs5 := hs4.new hf5; have hcv2 := conv_bytes hs5 sc1; have kH5 : Blk w5 (w.heap.size + 1) 33 #[.slice sA1 n1 sc1] := (KH.out.set 0 _).fr hf5 (fun h => h); have t5 := kH5.cell 0; have HS5 := Lib.hid hs5; have KH5 := Lib.hid kH5; have D5 := Lib.hid (((HD2.out.fr HF3.out (fun h => h)).fr (Fr.setCell (Fr.refl (· = w.heap.size + 1) _) (p := ⟨w.heap.size + 1, 0, none⟩) (.inl rfl) (.slice sA1 n1 sc1)) (fun h => hgH h.symm)).fr hf5 (fun h => h)); have N4 : New w (w3.setCell ⟨w.heap.size + 1, 0, none⟩ (.slice sA1 n1 sc1)) := Fr.setCell ((Fr.cut ((HNz.out.trans HF1.out).trans (New.alloc _)) HF2.out hgz).trans HF3.out) (.inr (Nat.le_succ _)) _; have N5 := Lib.hid (N4.trans hf5); have Z4 := Lib.hid N4.size; have HL5 : Hid (0 < n1 → sb1 < (w3.setCell ⟨w.heap.size + 1, 0, none⟩ (.slice sA1 n1 sc1)).heap.size) := Lib.hid (fun h => by obtain ⟨_, _, hlt, _⟩ := hs4.2 h; exact hlt); clear hf5 hr5 hs5 kH5 hv5 hs4 N4))
        generalize (w3.setCell ⟨w.heap.size + 1, 0, none⟩ (.slice sA1 n1 sc1)).heap.size = B5 at *
        have Q0 := Lib.hid (show PQ w5 B5 A5 n1 c5 w5 from ⟨_, HN1.out, HO5.out, Fr.refl _ _⟩)
        have hn3 : n1 ≤ 3 := by rw [← HN1.out]; exact (stepI_pv x HP.out).len
        clear hcv1 hcv2 t0 t1 t2 t5 u0 hc'
        go_loopw [13, 64] (fun _ i wq => ∃ j : Nat, j ≤ n1 ∧ i = .int .i64 j ∧ PQ w5 B5 A5 n1 c5 wq) (fun _ i _ => n1 - (intOf i).toNat)
        case atStart => exact ⟨0, Nat.zero_le _, rfl, Q0.out⟩
        case round =>
          obtain ⟨j, hj, rfl, hpq⟩ := hrel
          have HQ := Lib.hid hpq
          clear hpq
          by_cases hjl : j < n1
          · obtain ⟨q, hq1, hq2, _⟩ := HQ.out
            obtain ⟨g5, rfl, hg5⟩ := own_rd8 hq2 hq1 (by omega)
            obtain ⟨y, hy⟩ : ∃ y, q.getD j 0 = y := ⟨_, rfl⟩
            have q0 : wr.cell? ⟨g5, j, none⟩ = some (.int .u8 y) := by
              have hq2' := hq2
              unfold Own8 at hq2'
              rw [hq1] at hq2'
              rw [World.ownsRow.cellAt hq2' j (by omega), ← hy]
              have hjq : j < q.length := by omega
              simp [B8, List.getD, List.getElem?_eq_getElem hjq]
            have q1 : wr.frozen? ⟨g5, j, none⟩ = false := by
              have hq2' := hq2
              unfold Own8 at hq2'
              rw [hq1] at hq2'
              exact World.ownsRow.frozenAt hq2' j
            have j2 : (j : Int) < (n1 : Int) := by omega
            have j3 : (0 : Int) ≤ (j : Int) := by omega
            clear hq1 hq2 hy
            go_wp2
            go_roundw
            case rel => exact ⟨j + 1, by omega, by go_num, HQ.out.step j _⟩
            case measure => simp [intOf]; omega
          · go_wp2
            go_roundw
            case rel => exact ⟨k + 1, by omega, by go_num, SR.next hlt HX.out HN1.out D5.out KH5.out HS5.out N5.out hgz (fun h => Nat.ne_of_gt (Nat.lt_of_lt_of_le hgz2 (HZ1.out h))) Z4.out HO5.out HL5.out HQ.out⟩
            case measure => simp [intOf]; omega

      · have hq : ((k : Int) == at_) = false := by rw [beq_eq_false_iff_ne]; exact hat
        clear hat
        go_wp2_with (first
          | (go_at_call 15; go_must (refine (RStep_n (feedI [] (t.take k)).1 x hb.1 hb.2 HP.out n HN.out _ sb sA sc HSz.out).mono ?_); rintro e w1 ⟨n1, sb1, sA1, sc1, m1, rb1, rA1, rc1, rfl, hn1, hm1, hz1, hs1, hr1, hf1⟩; have HF1 := Lib.hid hf1; have HN1 := Lib.hid hn1; have HM1 := Lib.hid hm1; have HZ1 := Lib.hid hz1; have nw : New w1 (w1.alloc (.cells #[.slice sA1 n1 sc1] 33)) := New.alloc _; have hd1 := HDz.out.fr (hf1.trans nw) (fun h => h); have HD1 := Lib.hid hd1; have HS1 := Lib.hid (hs1.new nw); have HR1 := Lib.hid (hr1.new nw); have HNE : Hid (0 < m1 → rb1 ≠ gz) := Lib.hid (fun h => rd_dec (hr1.new nw) hd1 h); have HB1 := Lib.hid (HBz.out.fr (hf1.trans nw) (fun h => h)); clear hn1 hm1 hz1 hs1 hr1 hf1 nw hd1)
          | (go_at_call 14; go_must (refine (Step_any (feedI [] (t.take k)).1 x hb.1 HP.out gz _ HD1.out).mono ?_); rintro e w2 ⟨v2, rfl, ho2, hd2, hf2⟩; obtain ⟨b2, A2, c2, rfl, hr2, _⟩ := ho2.rdn m1 HM1.out; have HR2 := Lib.hid hr2; have HD2 := Lib.hid hd2; have HF2 := Lib.hid hf2; clear hr2 ho2 hd2 hf2)
          | (go_at_call 10; go_must (refine (Same_n (stepI (feedI [] (t.take k)).1 x).2 (stepI (feedI [] (t.take k)).1 x).2 m1 m1 HM1.out HM1.out _ b2 rb1 A2 rA1 c2 rc1 HR2.out (HR1.out.fr' HF2.out HNE.out) (by have := stepI_len (feedI [] (t.take k)).1 x; omega) rfl).mono ?_); rintro e w3 ⟨rfl, hf3⟩; have HF3 := Lib.hid hf3; have kT : Blk w3 w1.heap.size 33 #[.slice sA1 n1 sc1] := ((Blk.new w1 _ _).fr HF2.out (Nat.ne_of_gt (Nat.lt_of_lt_of_le hgz2 HF1.out.size))).fr hf3 (fun h => h); have kH : Blk w3 (w.heap.size + 1) 33 #[.slice sA n sc] := (HB1.out.fr HF2.out hgH).fr hf3 (fun h => h); have t0 := kT.cell 0; have t1 := kH.cell 0; have t2 := kH.frozen 0; have KH := Lib.hid kH; clear hf3 kT kH)
          | (go_at_call 16; go_must (refine (Pending_any (stepI (feedI [] (t.take k)).1 x).1 (stepI_pv x HP.out).len gz _ ((HD2.out.fr HF3.out (fun h => h)).fr (Fr.setCell (Fr.refl (· = w.heap.size + 1) _) (p := ⟨w.heap.size + 1, 0, none⟩) (.inl rfl) (.slice sA1 n1 sc1)) (fun h => hgH h.symm))).mono ?_); rintro e w5 ⟨v5, rfl, ho5, hf5⟩; have hv5 := ho5; obtain ⟨b5, A5, c5, rfl, hr5, _⟩ := ho5.rdn n1 HN1.out; have HF5 := Lib.hid hf5; have HO5 := Lib.hid hv5; have hcv1 := conv_bytes hr5 c5; have hs4 : Rd (w3.setCell ⟨w.heap.size + 1, 0, none⟩ (.slice sA1 n1 sc1)) sb1 sA1 n1 (B8 (stepI (feedI [] (t.take k)).1 x).1) := (((HS1.out.fr' HF2.out (fun h e => Nat.lt_irrefl _ (Nat.lt_of_lt_of_le (Nat.lt_of_le_of_lt (Nat.le_of_eq e) hgz2) (HZ1.out h)))).new HF3.out).fr' (Fr.setCell (Fr.refl (· = w.heap.size + 1) _) (p := ⟨w.heap.size + 1, 0, none⟩) (.inl rfl) (.slice sA1 n1 sc1)) (fun h e => Nat.lt_irrefl _ (Nat.lt_of_lt_of_le (Nat.lt_of_le_of_lt (Nat.le_of_eq e) HBz.out.lt) (HZ1.out h)))); have hs5 := hs4.new hf5; have hcv2 := conv_bytes hs5 sc1; have kH5 : Blk w5 (w.heap.size + 1) 33 #[.slice sA1 n1 sc1] := (KH.out.set 0 _).fr hf5 (fun h => h); have t5 := kH5.cell 0; have HS5 := Lib.hid hs5; have KH5 := Lib.hid kH5; have D5 := Lib.hid (((HD2.out.fr HF3.out (fun h => h)).fr (Fr.setCell (Fr.refl (· = w.heap.size + 1) _) (p := ⟨w.heap.size + 1, 0, none⟩) (.inl rfl) (.slice sA1 n1 sc1)) (fun h => hgH h.symm)).fr hf5 (fun h => h)); have N4 : New w (w3.setCell ⟨w.heap.size + 1, 0, none⟩ (.slice sA1 n1 sc1)) := Fr.setCell ((Fr.cut ((HNz.out.trans HF1.out).trans (New.alloc _)) HF2.out hgz).trans HF3.out) (.inr (Nat.le_succ _)) _; have N5 := Lib.hid (N4.trans hf5); have Z4 := Lib.hid N4.size; have HL5 : Hid (0 < n1 → sb1 < (w3.setCell ⟨w.heap.size + 1, 0, none⟩ (.slice sA1 n1 sc1)).heap.size) := Lib.hid (fun h => by obtain ⟨_, _, hlt, _⟩ := hs4.2 h; exact hlt); clear hf5 hr5 hs5 kH5 hv5 hs4 N4))
        generalize (w3.setCell ⟨w.heap.size + 1, 0, none⟩ (.slice sA1 n1 sc1)).heap.size = B5 at *
        have Q0 := Lib.hid (show PQ w5 B5 A5 n1 c5 w5 from ⟨_, HN1.out, HO5.out, Fr.refl _ _⟩)
        have hn3 : n1 ≤ 3 := by rw [← HN1.out]; exact (stepI_pv x HP.out).len
        clear hcv1 hcv2 t0 t1 t2 t5 u0 hc'
        go_loopw [13, 64] (fun _ i wq => ∃ j : Nat, j ≤ n1 ∧ i = .int .i64 j ∧ PQ w5 B5 A5 n1 c5 wq) (fun _ i _ => n1 - (intOf i).toNat)
        case atStart => exact ⟨0, Nat.zero_le _, rfl, Q0.out⟩
        case round =>
          obtain ⟨j, hj, rfl, hpq⟩ := hrel
          have HQ := Lib.hid hpq
          clear hpq
          by_cases hjl : j < n1
          · obtain ⟨q, hq1, hq2, _⟩ := HQ.out
            obtain ⟨g5, rfl, hg5⟩ := own_rd8 hq2 hq1 (by omega)
            obtain ⟨y, hy⟩ : ∃ y, q.getD j 0 = y := ⟨_, rfl⟩
            have q0 : wr.cell? ⟨g5, j, none⟩ = some (.int .u8 y) := by
              have hq2' := hq2
              unfold Own8 at hq2'
              rw [hq1] at hq2'
              rw [World.ownsRow.cellAt hq2' j (by omega), ← hy]
              have hjq : j < q.length := by omega
              simp [B8, List.getD, List.getElem?_eq_getElem hjq]
            have q1 : wr.frozen? ⟨g5, j, none⟩ = false := by
              have hq2' := hq2
              unfold Own8 at hq2'
              rw [hq1] at hq2'
              exact World.ownsRow.frozenAt hq2' j
            have j2 : (j : Int) < (n1 : Int) := by omega
            have j3 : (0 : Int) ≤ (j : Int) := by omega
            clear hq1 hq2 hy
            go_wp2
            go_roundw
            case rel => exact ⟨j + 1, by omega, by go_num, HQ.out.step j _⟩
            case measure => simp [intOf]; omega
          · go_wp2
            go_roundw
            case rel => exact ⟨k + 1, by omega, by go_num, SR.next hlt HX.out HN1.out D5.out KH5.out HS5.out N5.out hgz (fun h => Nat.ne_of_gt (Nat.lt_of_lt_of_le hgz2 (HZ1.out h))) Z4.out HO5.out HL5.out HQ.out⟩
            case measure => simp [intOf]; omega

    · obtain rfl : k = t.length := by omega
      rw [List.take_length] at hn0 hd hs
      have u0 := hbl.cell 0
      have HD := Lib.hid hd
      have HNz := Lib.hid hnew
      have HP := Lib.hid (feedI_pv t (s := []) trivial)
      have HB := Lib.hid hbl
      clear hd hs hnew hbl hsg
      by_cases hp : (feedI [] t).1 = []
      · have hn1 : n = 0 := by rw [← hn0, hp]; rfl
        subst hn1
        have he : endI (feedI [] t).1 = [] := by rw [hp]; rfl
        clear hn0 he
        have hd0 := HD.out
        rw [hp] at hd0
        have HDx := Lib.hid hd0
        have HNx := Lib.hid HNz.out
        clear hd0 hp
        go_wp2_with (first
          | (go_at_call 17; go_must (refine (DecEnd_e [] [] rfl 0 rfl gz _ HDx.out).mono ?_); rintro e we ⟨be, Ae, ce, rfl, _, hde, hfe⟩; have HDx := Lib.hid hde; have HNx := Lib.hid (Fr.cut HNx.out hfe hgz); clear hde hfe)
          | (go_at_call 16; go_must (refine (Pending_e gz _ HDx.out).mono ?_); rintro e wp ⟨Ap, cp, rfl, hfp⟩; have HDx := Lib.hid (HDx.out.fr hfp (fun h => h)); have HNx := Lib.hid (HNx.out.trans hfp); clear hfp)
          | (go_at_call 9; go_must (refine (known_any _).mono ?_); rintro e wk ⟨rfl, hk1⟩))
        go_ret
        exact ⟨rfl, HNx.out.trans hk1⟩
      · have hpos : 0 < (feedI [] t).1.length := List.length_pos_iff.2 hp
        have hn1 : (0 : Int) < (n : Int) := by omega
        have he : endI (feedI [] t).1 = [65533] := by unfold endI; rw [if_neg hp]
        clear hp
        go_wp2_with fail
        refine (DecEnd_e (feedI [] t).1 [65533] he 1 rfl gz _ HD.out).mono ?_
        rintro e we ⟨be, Ae, ce, rfl, hre, hde, hfe⟩
        obtain ⟨oe, rfl, hce⟩ := hre.at_ (show 0 < 1 by omega)
        have hce' : we.cell? ⟨be, oe, none⟩ = some (.int .i32 65533) := by simpa [R32] using hce
        have HDx := Lib.hid hde
        have HNx := Lib.hid (Fr.cut HNz.out hfe hgz)
        clear hre hce hde hfe he
        go_wp2_with (first
          | (go_at_call 17; go_must (refine (DecEnd_e [] [] rfl 0 rfl gz _ HDx.out).mono ?_); rintro e we ⟨be, Ae, ce, rfl, _, hde, hfe⟩; have HDx := Lib.hid hde; have HNx := Lib.hid (Fr.cut HNx.out hfe hgz); clear hde hfe)
          | (go_at_call 16; go_must (refine (Pending_e gz _ HDx.out).mono ?_); rintro e wp ⟨Ap, cp, rfl, hfp⟩; have HDx := Lib.hid (HDx.out.fr hfp (fun h => h)); have HNx := Lib.hid (HNx.out.trans hfp); clear hfp)
          | (go_at_call 9; go_must (refine (known_any _).mono ?_); rintro e wk ⟨rfl, hk1⟩))
        go_ret
        exact ⟨rfl, HNx.out.trans hk1⟩

theorem steps_walk (a0 : Option Addr) (len0 cap0 : Nat) (z0 : List Int) (a1 : Int) (w : World) (w0 : RowIn .u8 w a0 len0 cap0 z0) (_w1 : (Lit.int .i64 a1).wf = true) :
    Calls Try.prog 4 #[.slice a0 len0 cap0, .int .i64 a1] w fun e w' => e = .returned (.bool true) ∧ Below w.heap.size w w' := by
  obtain ⟨t, b, rfl, ht, hr⟩ := w0.bytes
  by_cases hn : t.length ≤ 100
  · exact (steps_short t ht a1 a0 b cap0 w hr hn).mono fun _ _ h => ⟨h.1, h.2.new_below⟩
  · exact (steps_long a0 t.length cap0 a1 (by omega) w).mono fun _ _ h => ⟨h.1, h.2.new_below⟩

end Go.Proofs.Ytdkkdicgjhjinaa
