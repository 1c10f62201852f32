/-
  THE THEOREM OF STAGE 1.
-/
import Derived.Test.YtdkkdicgjhjinaaReg
namespace Go.Proofs.Ytdkkdicgjhjinaa
open Go.RowKit

set_option maxHeartbeats 800000 in
theorem holds_long (A : Option Addr) (n cap : Nat) (f s : Int) (hn : 150 < n) (w : World) :
    Calls Try.prog 8 #[.slice A n cap, .int .u8 f, .int .u8 s] w fun e w' => e = .returned (.bool true) ∧ New w w' := by
  have h1 : (150 : Int) < (n : Int) := by omega
  go_enter Try.func8, Try.ntmps8
  go_wp2_with (go_at_call 9; refine (known_any _).mono ?_; rintro e w1 ⟨rfl, hk⟩)
  go_ret
  exact ⟨rfl, hk⟩


theorem cutpair {x y : Int} {n : Nat} {w w' : World} (h0 : 0 ≤ x) (hxy : x ≤ y) (hyn : y ≤ n) (hw : New w w') : ∃ i k : Nat, Value.int .i64 x = .int .i64 (i : Int) ∧ Value.int .i64 y = .int .i64 (k : Int) ∧ i ≤ k ∧ k ≤ n ∧ New w w' :=
  ⟨x.toNat, y.toNat, by rw [Int.toNat_of_nonneg h0], by rw [Int.toNat_of_nonneg (by omega)], by omega, by omega, hw⟩

theorem Rd.part {w : World} {b : Nat} {A : Option Addr} {n : Nat} {p q r : List Int} (h : Rd w b A n (B8 (p ++ (q ++ r)))) (l m c : Nat) (hl : p.length = l) (hm : q.length = m) (hc : n ≤ c) : Rd w b (if c = l then A else Option.map (fun x => x.add l) A) m (B8 q) := by
  have hn := h.1
  simp only [B8, List.length_map, List.length_append] at hn
  refine ⟨by simp [B8, hm], fun h0 => ?_⟩
  obtain ⟨o, rfl, hb, hx⟩ := h.2 (by omega)
  rw [if_neg (by omega)]
  refine ⟨o + l, by rw [Option.map_some, addr_add], hb, fun j hj => ?_⟩
  rw [Nat.add_assoc, hx (l + j) (by omega)]
  simp only [B8, List.map_append]
  rw [List.getElem?_append_right (by simp; omega), List.getElem?_append_left (by simp; omega)]
  simp only [List.length_map, hl]
  rw [Nat.add_sub_cancel_left]
theorem Rd.front {w : World} {b : Nat} {A : Option Addr} {n : Nat} {p u : List Int} (h : Rd w b A n (B8 (p ++ u))) {m : Nat} (hm : p.length = m) : Rd w b A m (B8 p) := by
  subst hm
  have hn := h.1
  simp [B8] at hn
  refine ⟨by simp [B8], fun h0 => ?_⟩
  obtain ⟨o, rfl, hb, hc⟩ := h.2 (by omega)
  refine ⟨o, rfl, hb, fun j hj => ?_⟩
  rw [hc j (by omega)]
  simp [B8, List.getElem?_append_left, hj]
theorem feed_three {t p q r : List Int} {S L : List Int} (hF : feedI [] t = (S, L)) (et : t = p ++ (q ++ r)) : ∃ S1 L1 S2 L2 L3, feedI [] p = (S1, L1) ∧ feedI S1 q = (S2, L2) ∧ feedI S2 r = (S, L3) ∧ L1 ++ L2 ++ L3 = L := by
  subst et
  rw [feedI_append, feedI_append] at hF
  injection hF with e1 e2
  refine ⟨_, _, _, _, (feedI (feedI (feedI [] p).1 q).1 r).2, rfl, rfl, ?_, ?_⟩
  · rw [← e1]
  · rw [← e2, List.append_assoc]

def St (w wr : World) (g1 g2 : Nat) (S L : List Int) (b3 : Nat) (A3 : Option Addr) (c3 : Nat) : Prop :=
  Dec wr g1 S ∧ Dec wr g2 S ∧ Own32 wr g1 (.slice A3 L.length c3) L ∧ Rd wr b3 A3 L.length (R32 L) ∧ New w wr
theorem St.new {w wr wr' : World} {g1 g2 : Nat} {S L : List Int} {b3 : Nat} {A3 : Option Addr} {c3 : Nat} (h : St w wr g1 g2 S L b3 A3 c3) (hf : New wr wr') : St w wr' g1 g2 S L b3 A3 c3 :=
  ⟨h.1.fr hf (fun h => h), h.2.1.fr hf (fun h => h), h.2.2.1.new hf, h.2.2.2.1.new hf, h.2.2.2.2.trans hf⟩

theorem Feed_o (s t : List Int) (ht : Bytes t) (hs : PV s) (g : Nat) (w : World) (h : Dec w g s) (b : Nat) (hbg : 0 < t.length → b ≠ g) (A : Option Addr) (cap n : Nat) (hn : t.length = n) (hr : Rd w b A n (B8 t)) (hlen : t.length ≤ 400000) (s' l' : List Int) (he : feedI s t = (s', l')) :
    Calls Try.prog 22 #[.pointer (some ⟨g, 0, none⟩), .slice A n cap] w fun e w' =>
      ∃ v', e = .returned v' ∧ Own32 w' w.heap.size v' l' ∧ Dec w' g s' ∧ Fr (· = g) w w' := by
  subst hn
  refine (Feed_any s t ht hs g w h b hbg A cap hr hlen).mono ?_
  rintro e w' ⟨v', rfl, ho, hd, hf⟩
  rw [he] at ho hd
  exact ⟨v', rfl, ho, hd, hf⟩

theorem Encode_n (l u : List Int) (hu : encL l = u) (m : Nat) (hm : u.length = m) (w : World) (b : Nat) (A : Option Addr) (cap : Nat) (hr : Rd w b A l.length (R32 l)) :
    Calls Try.prog 21 #[.slice A l.length cap] w fun e w' => ∃ b A c, e = .returned (.slice A m c) ∧ Rd w' b A m (B8 u) ∧ New w w' := by
  subst hu hm
  refine (Encode_any l w b A cap hr).mono ?_
  rintro e w' ⟨c, rfl, hr2, hf⟩
  have hsz : (runesBytes l).size = (encL l).length := by rw [← nums_runes, nums_size]
  rw [nums_runes, hsz] at hr2
  rw [hsz]
  exact ⟨_, _, c, rfl, hr2, hf⟩
theorem Decode_e (t : List Int) (ht : Bytes t) (l : List Int) (he : decI t = l) (m : Nat) (hm : l.length = m) (w : World) (b : Nat) (A : Option Addr) (cap n : Nat) (hn : t.length = n) (hr : Rd w b A n (B8 t)) (hlen : n ≤ 400000) :
    Calls Try.prog 11 #[.slice A n cap] w fun e w' => ∃ b A c, e = .returned (.slice A m c) ∧ Rd w' b A m (R32 l) ∧ New w w' := by
  subst hn he hm
  exact Decode_n t ht w b A cap hr hlen
def badB (S L : List Int) (j : Nat) : Bool := decide ((0 : Int) < (S.length : Int)) || (L.take j).any (· == 65533)
theorem badB_zero (S L : List Int) : badB S L 0 = decide ((0 : Int) < (S.length : Int)) := by simp [badB]
theorem badB_next (S L : List Int) {j : Nat} (hj : j < L.length) {x : Int} (hx : L[j] = x) : badB S L (j + 1) = (badB S L j || x == 65533) := by
  unfold badB
  rw [List.take_succ_eq_append_getElem hj, List.any_append, hx, ← Bool.or_assoc]
  simp
theorem badB_end {S L : List Int} (h : badB S L L.length = false) : S = [] ∧ 65533 ∉ L := by
  unfold badB at h
  rw [List.take_length, Bool.or_eq_false_iff] at h
  obtain ⟨h1, h2⟩ := h
  refine ⟨List.eq_nil_of_length_eq_zero ?_, fun hm => ?_⟩
  · have := of_decide_eq_false h1
    omega
  · rw [List.any_eq_false] at h2
    exact h2 _ hm rfl

set_option linter.unusedSimpArgs false in
set_option maxRecDepth 100000 in
set_option maxHeartbeats 8000000 in
theorem holds_short (t : List Int) (ht : Bytes t) (f s : Int) (hf : 0 ≤ f ∧ f < 256) (hs : 0 ≤ s ∧ s < 256) (A : Option Addr) (b cap : Nat) (hcap : t.length ≤ cap) (w : World) (hr : Rd w b A t.length (B8 t)) (hb : 0 < t.length → b < w.heap.size) (hn : t.length ≤ 150) :
    Calls Try.prog 8 #[.slice A t.length cap, .int .u8 f, .int .u8 s] w fun e w' => e = .returned (.bool true) ∧ New w w' := by
  have h1 : ¬ (150 : Int) < (t.length : Int) := by omega
  have HT := Lib.hid ht
  have HR := Lib.hid hr
  have HB := Lib.hid hb
  clear hr ht hb
  go_enter Try.func8, Try.ntmps8
  go_wp2_with fail
  go_quiet (fail)
  go_upto_region 4 with fail
  go_cut [7, 8] from 32 to 37 (fun iv kv wx => ∃ i k : Nat, iv = .int .i64 i ∧ kv = .int .i64 k ∧ i ≤ k ∧ k ≤ t.length ∧ New w wx)
  case first =>
    go_wp2_with fail
    all_goals go_meet
    all_goals
      have m0 := Int.emod_nonneg f (show ((t.length : Int) + 1) ≠ 0 by omega)
      have m1 := Int.emod_lt_of_pos f (show (0 : Int) < ((t.length : Int) + 1) by omega)
      have m2 := Int.emod_nonneg s (show ((t.length : Int) + 1) ≠ 0 by omega)
      have m3 := Int.emod_lt_of_pos s (show (0 : Int) < ((t.length : Int) + 1) by omega)
      refine cutpair ?_ ?_ ?_ (Fr.drewN (Fr.refl _ _) _)
    all_goals omega
  case rest =>
    obtain ⟨i, k, rfl, rfl, hik, hkn, hnew⟩ := hcut
    have HN0 := Lib.hid hnew
    have HB0 : Hid (0 < t.length → b < wc.heap.size) := Lib.hid (fun h => Nat.lt_of_lt_of_le (HB.out h) hnew.size)
    have HR0 := Lib.hid (HR.out.new hnew)
    clear hnew
    obtain ⟨p, q, r, et, hp, hq⟩ : ∃ p q r : List Int, t = p ++ (q ++ r) ∧ p.length = i ∧ q.length = k - i := by
      refine ⟨t.take i, (t.drop i).take (k - i), t.drop k, ?_, by rw [List.length_take]; omega, by rw [List.length_take, List.length_drop]; omega⟩
      have e1 : t.drop k = (t.drop i).drop (k - i) := by rw [List.drop_drop]; congr 1; omega
      rw [e1, List.take_append_drop, List.take_append_drop]
    have hlen3 : t.length = p.length + (q.length + r.length) := by rw [et]; simp
    have hlp : p.length ≤ t.length := by omega
    have hlq : q.length ≤ t.length := by omega
    have hlr : r.length ≤ t.length := by omega
    clear hlen3
    obtain ⟨S, L, hF⟩ : ∃ S L, feedI [] t = (S, L) := ⟨_, _, rfl⟩
    have HF := Lib.hid hF
    have ET := Lib.hid et
    clear hF et
    generalize hg1 : wc.heap.size = g1 at *
    have HP := Lib.hid (show PV S by have := feedI_pv t (s := []) trivial; rw [HF.out] at this; exact this)
    have hD1 : Dec ((wc.alloc (.cells #[.int .u8 0, .int .u8 0, .int .u8 0, .int .u8 0, .int .i64 0] 31)).alloc (.cells #[.int .u8 0, .int .u8 0, .int .u8 0, .int .u8 0, .int .i64 0] 31)) g1 [] := Blk.alloc (blk_at _ _ _ hg1) _
    have hD2 : Dec ((wc.alloc (.cells #[.int .u8 0, .int .u8 0, .int .u8 0, .int .u8 0, .int .i64 0] 31)).alloc (.cells #[.int .u8 0, .int .u8 0, .int .u8 0, .int .u8 0, .int .i64 0] 31)) (g1 + 1) [] := blk_at _ _ _ (by simp [hg1])
    have hN2 : New wc ((wc.alloc (.cells #[.int .u8 0, .int .u8 0, .int .u8 0, .int .u8 0, .int .i64 0] 31)).alloc (.cells #[.int .u8 0, .int .u8 0, .int .u8 0, .int .u8 0, .int .i64 0] 31)) := (New.alloc _).trans (New.alloc _)
    have HD1 := Lib.hid hD1
    have HD2 := Lib.hid hD2
    have HN2 := Lib.hid hN2
    clear hD1 hD2 hN2
    go_upto_region 7 with (go_at_call 22; go_must (refine (Feed_o [] t HT.out trivial g1 _ HD1.out b (fun h => Nat.ne_of_lt (HB0.out h)) A cap t.length rfl (HR0.out.new HN2.out) (by omega) S L HF.out).mono ?_); rintro e w3 ⟨v3, rfl, ho3, hd3, hf3⟩; have HO3 := Lib.hid (ho3.low (base' := g1) (by simp; omega)); have HD3 := Lib.hid hd3; have HE3 := Lib.hid (HD2.out.fr hf3 (Nat.succ_ne_self g1)); have HN3 := Lib.hid (Fr.cut HN2.out hf3 (Nat.le_of_eq hg1)); clear ho3 hd3 hf3)
    obtain ⟨S1, L1, S2, L2, L3, f1, f2, f3, fL⟩ := feed_three HF.out ET.out
    have hP1 := feedI_pv p (s := []) trivial
    rw [f1] at hP1
    have hP2 := feedI_pv q hP1
    rw [f2] at hP2
    have hBt := HT.out
    have hRt := HR0.out
    rw [ET.out] at hBt hRt
    have hl1 := feedI_len p []
    have hl2 := feedI_len q S1
    have hl3 := feedI_len r S2
    rw [f1] at hl1
    rw [f2] at hl2
    rw [f3] at hl3
    have hrl : r.length = t.length - k := by
      have := congrArg List.length ET.out
      simp only [List.length_append] at this
      omega
    have k1 : L1.length ≤ 400 := by simp only at hl1; omega
    have k2 : L2.length ≤ 400 := by simp only at hl2; omega
    have k3 : L3.length ≤ 400 := by simp only at hl3; omega
    have F1 := Lib.hid f1
    have F2 := Lib.hid f2
    have F3 := Lib.hid f3
    have FL := Lib.hid fL
    have P1 := Lib.hid hP1
    have P2 := Lib.hid hP2
    have BP : Hid (Bytes p) := Lib.hid (fun x hx => hBt x (by simp [hx]))
    have BQ : Hid (Bytes q) := Lib.hid (fun x hx => hBt x (by simp [hx]))
    have BR : Hid (Bytes r) := Lib.hid (fun x hx => hBt x (by simp [hx]))
    have RT := Lib.hid hRt
    clear f1 f2 f3 fL hP1 hP2 hBt hRt hl1 hl2 hl3
    clear HD1 HD2 HN2
    go_upto_region 8 with (go_at_call 22; go_must (refine (Feed_o [] p BP.out trivial (g1 + 1) _ HE3.out b (fun h => Nat.ne_of_lt (Nat.lt_succ_of_lt (HB0.out (Nat.lt_of_lt_of_le h hlp)))) A cap i hp (Rd.front (RT.out.new HN3.out) hp) (by omega) S1 L1 F1.out).mono ?_); rintro e w4 ⟨v4, rfl, ho4, hd4, hf4⟩; have HO4 := Lib.hid ho4; have HE4 := Lib.hid hd4; have HD4 := Lib.hid (HD3.out.fr hf4 (Nat.ne_of_lt (Nat.lt_succ_self g1))); have HO3' := Lib.hid (HO3.out.fr hf4 (fun k hk he => HO3.out.far HE3.out (he ▸ hk))); have HN4 := Lib.hid (Fr.cut HN3.out hf4 (Nat.le_succ_of_le (Nat.le_of_eq hg1))); have HF34 := Lib.hid hf4.size; clear ho4 hd4 hf4)
    have hcap' : (p ++ (q ++ r)).length ≤ cap := by rw [← ET.out]; exact hcap
    have ZV3 : Hid (∀ j, v3.ownBlock = some j → j < w3.heap.size) := Lib.hid (fun j hj => (HO3.out.lt hj).2)
    have hgw : wc.heap.size ≤ g1 + 1 := Nat.le_succ_of_le (Nat.le_of_eq hg1)
    have hwg : wc.heap.size ≤ w3.heap.size := HN3.out.size
    go_upto_region 9 with (first
      | (go_at_call 22; go_must (refine (Feed_o S1 q BQ.out P1.out (g1 + 1) _ HE4.out b (fun h => Nat.ne_of_lt (Nat.lt_succ_of_lt (HB0.out (Nat.lt_of_lt_of_le h hlq)))) _ (cap - i) (k - i) hq (Rd.part (RT.out.new HN4.out) i (k - i) cap hp hq hcap') (by omega) S2 L2 F2.out).mono ?_); rintro e w5 ⟨v5, rfl, ho5, hd5, hf5⟩; obtain ⟨b5, A5, c5, rfl, hr5, -⟩ := ho5.rdn _ rfl; have HR5 := Lib.hid hr5; have HE5 := Lib.hid hd5; have HD5 := Lib.hid (HD4.out.fr hf5 (Nat.ne_of_lt (Nat.lt_succ_self g1))); have HO3'' := Lib.hid (HO3'.out.fr hf5 (fun k hk he => HO3'.out.far HE4.out (he ▸ hk))); have HO4' := Lib.hid (HO4.out.fr hf5 (fun k hk he => HO4.out.far HE4.out (he ▸ hk))); have HN5 := Lib.hid (Fr.cut HN4.out hf5 hgw); have z5 : w3.heap.size ≤ w5.heap.size := Nat.le_trans HF34.out hf5.size; clear ho5 hd5 hf5 hr5)
      | (at_builtin; go_must (refine app32 rfl _ _ rfl w3.heap.size v4 L1.length (R32 L1) rfl HO4'.out b5 A5 L2.length c5 (R32 L2) rfl HR5.out (by simp [R32, Value.oneCell']) (by omega) z5 ?_); intro v6 w6 hown6 hg6 hj6; clear hj6; have ho6 : Own32 w6 w3.heap.size v6 (L1 ++ L2) := Own32.of hown6 rfl; have f6 : Fr (fun j => v4.ownBlock = some j) w5 w6 := Fr.grown (Fr.refl _ _) hg6 (fun j hj => .inl hj); have HO6 := Lib.hid ho6; have HD6 := Lib.hid (HD5.out.fr f6 (fun he => HO4'.out.far HD5.out he)); have HE6 := Lib.hid (HE5.out.fr f6 (fun he => HO4'.out.far HE5.out he)); have HO36 := Lib.hid (HO3''.out.fr f6 (fun j hj he => Nat.lt_irrefl _ (Nat.lt_of_lt_of_le (ZV3.out j hj) (HO4'.out.lt he).1))); have HN6 : Hid (New wc w6) := Lib.hid (Fr.trans HN5.out f6 (fun j hj he => Nat.lt_irrefl _ (Nat.lt_of_lt_of_le hj (Nat.le_trans hwg (HO4'.out.lt he).1)))); have z6 : w3.heap.size ≤ w6.heap.size := Nat.le_trans z5 f6.size; clear hown6 hg6 ho6 f6))
    clear HO4 HE4 HD4 HO3' HN4 HF34 HR5 HE5 HD5 HO3'' HO4' HN5 z5
    have hRT2 := RT.out
    have epq : p ++ (q ++ r) = (p ++ q) ++ (r ++ []) := by simp
    have hcap2 : (p ++ q ++ (r ++ [])).length ≤ cap := by rw [← epq]; exact hcap'
    rw [epq] at hRT2
    have RT2 := Lib.hid hRT2
    have hpq : (p ++ q).length = k := by rw [List.length_append]; omega
    have hpL : (L1 ++ L2).length ≤ 800 := by rw [List.length_append]; omega
    have FL2 := Lib.hid FL.out
    clear hRT2 epq hcap' hp hq hlp hlq
    go_upto_region 10 with (first
      | (go_at_call 22; go_must (refine (Feed_o S2 r BR.out P2.out (g1 + 1) _ HE6.out b (fun h => Nat.ne_of_lt (Nat.lt_succ_of_lt (HB0.out (Nat.lt_of_lt_of_le h hlr)))) _ (cap - k) (t.length - k) hrl (Rd.part (RT2.out.new HN6.out) k (t.length - k) cap hpq hrl hcap2) (by omega) S L3 F3.out).mono ?_); rintro e w7 ⟨v7, rfl, ho7, hd7, hf7⟩; obtain ⟨b7, A7, c7, rfl, hr7, -⟩ := ho7.rdn _ rfl; have HR7 := Lib.hid hr7; have HE7 := Lib.hid hd7; have HD7 := Lib.hid (HD6.out.fr hf7 (Nat.ne_of_lt (Nat.lt_succ_self g1))); have HO37 := Lib.hid (HO36.out.fr hf7 (fun k hk he => HO36.out.far HE6.out (he ▸ hk))); have HO7 := Lib.hid (HO6.out.fr hf7 (fun k hk he => HO6.out.far HE6.out (he ▸ hk))); have HN7 := Lib.hid (Fr.cut HN6.out hf7 hgw); have z7 : w3.heap.size ≤ w7.heap.size := Nat.le_trans z6 hf7.size; clear ho7 hd7 hf7 hr7)
      | (at_builtin; go_must (refine app32 rfl _ _ rfl w3.heap.size v6 (L1 ++ L2).length (R32 (L1 ++ L2)) rfl HO7.out b7 A7 L3.length c7 (R32 L3) rfl HR7.out (by simp [R32, Value.oneCell']) (by omega) z7 ?_); intro v8 w8 hown8 hg8 hj8; clear hj8; have ho8 : Own32 w8 w3.heap.size v8 (L1 ++ L2 ++ L3) := Own32.of hown8 rfl; have f8 : Fr (fun j => v6.ownBlock = some j) w7 w8 := Fr.grown (Fr.refl _ _) hg8 (fun j hj => .inl hj); have HO8 := Lib.hid (FL2.out ▸ ho8); have HD8 := Lib.hid (HD7.out.fr f8 (fun he => HO7.out.far HD7.out he)); have HE8 := Lib.hid (HE7.out.fr f8 (fun he => HO7.out.far HE7.out he)); have HO38 := Lib.hid (HO37.out.fr f8 (fun j hj he => Nat.lt_irrefl _ (Nat.lt_of_lt_of_le (ZV3.out j hj) (HO7.out.lt he).1))); have HN8 : Hid (New wc w8) := Lib.hid (Fr.trans HN7.out f8 (fun j hj he => Nat.lt_irrefl _ (Nat.lt_of_lt_of_le hj (Nat.le_trans hwg (HO7.out.lt he).1)))); clear hown8 hg8 ho8 f8))
    have HN := Lib.hid (HN0.out.trans HN8.out)
    obtain ⟨b3, A3, c3, rfl, hr3, -⟩ := HO38.out.rdn _ rfl
    obtain ⟨b8, A8, c8, rfl, hr8, -⟩ := HO8.out.rdn _ rfl
    have HX : Hid (St w w8 g1 (g1 + 1) S L b3 A3 c3) := Lib.hid ⟨HD8.out, HE8.out, HO38.out, hr3, HN.out⟩
    have HR8 := Lib.hid hr8
    have hcount := feedI_count t []
    rw [HF.out] at hcount
    have hLt : L.length ≤ t.length := by rw [one_nil] at hcount; simp only at hcount; omega
    have hS3 : S.length ≤ 3 := HP.out.len
    clear hcount hr3 hr8
    clear hlr HB0 HB
    clear HO3 HD3 HE3 HN3 hrl k1 k2 k3 F1 F2 F3 FL P1 P2 BP BQ BR RT ZV3 hgw hwg HO6 HD6 HE6 HO36 HN6 z6 hcap2 RT2 hpq hpL FL2 HR7 HE7 HD7 HO37 HO7 HN7 z7 HO8 HD8 HE8 HO38 HN8 HN
    generalize g1 + 1 = g2 at *
    generalize (if cap = i then A else Option.map (fun x => x.add i) A) = Ai
    generalize (if cap = k then A else Option.map (fun x => x.add k) A) = Ak
    have hS3' : decide ((3 : Int) < (S.length : Int)) = false := decide_eq_false (by omega)
    have hLt' : decide ((t.length : Int) < (L.length : Int)) = false := decide_eq_false (by omega)
    go_cut [79] from 57 to 78 (fun v wx => v = .bool false ∧ St w wx g1 g2 S L b3 A3 c3)
    case first =>
      rename_i J K' hJ hM
      refine abs_act ?_
      intro a0 ha
      have hsz : a0.tmps.size = 125 := by rw [ha]; rfl
      have e0 : a0.eval (.tmp 0) = .slice A t.length cap := by rw [ha]; rfl
      have e9 : a0.eval (.tmp 9) = .pointer (some ⟨g1, 0, none⟩) := by rw [ha]; rfl
      have e10 : a0.eval (.tmp 10) = .pointer (some ⟨g2, 0, none⟩) := by rw [ha]; rfl
      have e11 : a0.eval (.tmp 11) = .slice A3 L.length c3 := by rw [ha]; rfl
      have e12 : a0.eval (.tmp 12) = .slice A8 L.length c8 := by rw [ha]; rfl
      have HX := Lib.hid (HX.out.new (Fr.drew (Fr.refl _ w8)))
      refine wp_region_any (by kernel_rfl) ?_
      change wpAny _ _ _ _ 23 _ _ (World.drew _)
      refine wpAny_take (fuel := 22) (i := 0) (v := .slice A3 L.length c3) rfl (by kernel_rfl) (by kernel_rfl) (by kernel_rfl) (fun _ _ _ h => h) (Or.inl ⟨wanted_plain rfl _, rn_move rfl (by simp only [ev_ne, ev_same, ev_const, sz_put, hsz, e0, e9, e10, e11, e12, ne_eq, Nat.reduceEqDiff, not_false_eq_true, Nat.reduceLT, List.map_toArray, List.map_cons, List.map_nil])⟩) ?_
      change wpAny _ _ _ _ 22 _ (Act.put _ (some 57) _) _
      refine wpAny_take (fuel := 21) (i := 1) (v := .slice A8 L.length c8) rfl (by kernel_rfl) (by kernel_rfl) (by kernel_rfl) (fun _ _ _ h => h) (Or.inl ⟨wanted_plain rfl _, rn_move rfl (by simp only [ev_ne, ev_same, ev_const, sz_put, hsz, e0, e9, e10, e11, e12, ne_eq, Nat.reduceEqDiff, not_false_eq_true, Nat.reduceLT, List.map_toArray, List.map_cons, List.map_nil])⟩) ?_
      change wpAny _ _ _ _ 21 _ (Act.put _ (some 58) _) _
      refine allA (fuel := 20) (i := 2) (by kernel_rfl) rfl ?_ ?_
      · exact wanted_plain rfl _
      intro K hK
      refine wp_callF (f := 10) Try.func10 (by kernel_rfl) rfl rfl (vs := #[.slice A3 L.length c3, .slice A8 L.length c8]) (by simp only [ev_ne, ev_same, ev_const, sz_put, hsz, e0, e9, e10, e11, e12, ne_eq, Nat.reduceEqDiff, not_false_eq_true, Nat.reduceLT, List.map_toArray, List.map_cons, List.map_nil]) ?_
      refine (Same_n L L L.length L.length rfl rfl _ b3 b8 A3 A8 c3 c8 HX.out.2.2.2.1 HR8.out.drew (by omega) rfl).mono ?_
      rintro e w9 ⟨rfl, hf9⟩
      refine ⟨_, rfl, hK _ _ ?_⟩
      clear hK K
      have HX := Lib.hid (HX.out.new hf9)
      change wpAny _ _ _ _ 20 _ (Act.put _ (some 59) _) _
      refine wpAny_take (fuel := 19) (i := 3) (v := .bool false) rfl (by kernel_rfl) (by kernel_rfl) (by kernel_rfl) (fun _ _ _ h => h) (Or.inl ⟨wanted_plain rfl _, rn_not (b := true) rfl (by simp only [ev_ne, ev_same, ev_const, sz_put, hsz, e0, e9, e10, e11, e12, ne_eq, Nat.reduceEqDiff, not_false_eq_true, Nat.reduceLT, List.map_toArray, List.map_cons, List.map_nil])⟩) ?_
      change wpAny _ _ _ _ 19 _ (Act.put _ (some 60) _) _
      refine wpAny_take (fuel := 18) (i := 4) (v := .bool false) rfl (by kernel_rfl) (by kernel_rfl) (by kernel_rfl) (fun _ _ _ h => h) (Or.inl ⟨wanted_plain rfl _, rn_move rfl (by simp only [ev_ne, ev_same, ev_const, sz_put, hsz, e0, e9, e10, e11, e12, ne_eq, Nat.reduceEqDiff, not_false_eq_true, Nat.reduceLT, List.map_toArray, List.map_cons, List.map_nil])⟩) ?_
      change wpAny _ _ _ _ 18 _ (Act.put _ (some 61) _) _
      refine allA (fuel := 17) (i := 5) (by kernel_rfl) rfl ?_ ?_
      · exact wanted_guard rfl rfl rfl (by simp only [sz_put, hsz, Nat.reduceLT]) (by simp only [ev_ne, ev_same, ev_const, sz_put, hsz, e0, e9, e10, e11, e12, ne_eq, Nat.reduceEqDiff, not_false_eq_true, Nat.reduceLT, List.map_toArray, List.map_cons, List.map_nil])
      intro K hK
      refine wp_callF (f := 16) Try.func16 (by kernel_rfl) rfl rfl (vs := #[.pointer (some ⟨g1, 0, none⟩)]) (by simp only [ev_ne, ev_same, ev_const, sz_put, hsz, e0, e9, e10, e11, e12, ne_eq, Nat.reduceEqDiff, not_false_eq_true, Nat.reduceLT, List.map_toArray, List.map_cons, List.map_nil]) ?_
      refine (Pending_n S hS3 g1 _ HX.out.1).mono ?_
      rintro e w10 ⟨b10, A10, c10, rfl, hr10, -, hf10, -⟩
      refine ⟨_, rfl, hK _ _ ?_⟩
      clear hK K
      have HX := Lib.hid (HX.out.new hf10)
      change wpAny _ _ _ _ 17 _ (Act.put _ (some 62) _) _
      refine wpAny_of_held (S := fun w' => Rd w' b10 A10 S.length (B8 S)) _ _ _ _ ?_
      refine wpAnyH_take (fuel := 16) (i := 6) (v := .string (strOfNums S)) rfl (by kernel_rfl) (by kernel_rfl) (by kernel_rfl) (fun _ _ _ h => h) (Or.inl ⟨wanted_guard rfl rfl rfl (by simp only [sz_put, hsz, Nat.reduceLT]) (by simp only [ev_ne, ev_same, ev_const, sz_put, hsz, e0, e9, e10, e11, e12, ne_eq, Nat.reduceEqDiff, not_false_eq_true, Nat.reduceLT, List.map_toArray, List.map_cons, List.map_nil]), fun w' hw' => rn_conv rfl (by simp only [ev_ne, ev_same, ev_const, sz_put, hsz, e0, e9, e10, e11, e12, ne_eq, Nat.reduceEqDiff, not_false_eq_true, Nat.reduceLT, List.map_toArray, List.map_cons, List.map_nil]) (conv_bytes hw' c10)⟩) hr10 ?_
      change wpAnyH _ _ _ _ _ 16 _ (Act.put _ (some 63) _) _
      refine allH (fuel := 15) (i := 7) (by kernel_rfl) rfl ?_ ?_
      · exact wanted_guard rfl rfl rfl (by simp only [sz_put, hsz, Nat.reduceLT]) (by simp only [ev_ne, ev_same, ev_const, sz_put, hsz, e0, e9, e10, e11, e12, ne_eq, Nat.reduceEqDiff, not_false_eq_true, Nat.reduceLT, List.map_toArray, List.map_cons, List.map_nil])
      intro K hK
      refine wp_callF (f := 16) Try.func16 (by kernel_rfl) rfl rfl (vs := #[.pointer (some ⟨g2, 0, none⟩)]) (by simp only [ev_ne, ev_same, ev_const, sz_put, hsz, e0, e9, e10, e11, e12, ne_eq, Nat.reduceEqDiff, not_false_eq_true, Nat.reduceLT, List.map_toArray, List.map_cons, List.map_nil]) ?_
      refine (Pending_n S hS3 g2 _ HX.out.2.1).mono ?_
      rintro e w11 ⟨b11, A11, c11, rfl, hr11, -, hf11, -⟩
      refine ⟨_, rfl, hK _ _ (hr10.new hf11) ?_⟩
      clear hK K
      have HX := Lib.hid (HX.out.new hf11)
      have hr10 := hr10.new hf11
      change wpAnyH _ _ _ _ _ 15 _ (Act.put _ (some 64) _) _
      refine allH_val (fuel := 14) (i := 8) (v := .string (strOfNums S)) (by kernel_rfl) rfl (wanted_guard rfl rfl rfl (by simp only [sz_put, hsz, Nat.reduceLT]) (by simp only [ev_ne, ev_same, ev_const, sz_put, hsz, e0, e9, e10, e11, e12, ne_eq, Nat.reduceEqDiff, not_false_eq_true, Nat.reduceLT, List.map_toArray, List.map_cons, List.map_nil])) (rn_conv rfl (by simp only [ev_ne, ev_same, ev_const, sz_put, hsz, e0, e9, e10, e11, e12, ne_eq, Nat.reduceEqDiff, not_false_eq_true, Nat.reduceLT, List.map_toArray, List.map_cons, List.map_nil]) (conv_bytes hr11 c11)) hr10 ?_
      change wpAnyH _ _ _ _ _ 14 _ (Act.put _ (some 65) _) _
      refine wpAnyH_take (fuel := 13) (i := 9) (v := .bool false) rfl (by kernel_rfl) (by kernel_rfl) (by kernel_rfl) (fun _ _ _ h => h) (Or.inl ⟨wanted_guard rfl rfl rfl (by simp only [sz_put, hsz, Nat.reduceLT]) (by simp only [ev_ne, ev_same, ev_const, sz_put, hsz, e0, e9, e10, e11, e12, ne_eq, Nat.reduceEqDiff, not_false_eq_true, Nat.reduceLT, List.map_toArray, List.map_cons, List.map_nil]), fun w' _ => rn_neq (s := strOfNums S) rfl (by simp only [ev_ne, ev_same, ev_const, sz_put, hsz, e0, e9, e10, e11, e12, ne_eq, Nat.reduceEqDiff, not_false_eq_true, Nat.reduceLT, List.map_toArray, List.map_cons, List.map_nil]) (by simp only [ev_ne, ev_same, ev_const, sz_put, hsz, e0, e9, e10, e11, e12, ne_eq, Nat.reduceEqDiff, not_false_eq_true, Nat.reduceLT, List.map_toArray, List.map_cons, List.map_nil]) w'⟩) hr10 ?_
      change wpAnyH _ _ _ _ _ 13 _ (Act.put _ (some 66) _) _
      refine wpAnyH_take (fuel := 12) (i := 10) (v := .bool false) rfl (by kernel_rfl) (by kernel_rfl) (by kernel_rfl) (fun _ _ _ h => h) (Or.inl ⟨wanted_plain rfl _, fun w' _ => rn_pick0 rfl (by simp only [ev_ne, ev_same, ev_const, sz_put, hsz, e0, e9, e10, e11, e12, ne_eq, Nat.reduceEqDiff, not_false_eq_true, Nat.reduceLT, List.map_toArray, List.map_cons, List.map_nil]) (by simp only [ev_ne, ev_same, ev_const, sz_put, hsz, e0, e9, e10, e11, e12, ne_eq, Nat.reduceEqDiff, not_false_eq_true, Nat.reduceLT, List.map_toArray, List.map_cons, List.map_nil]) w'⟩) hr10 ?_
      change wpAnyH _ _ _ _ _ 12 _ (Act.put _ (some 67) _) _
      refine wpAnyH_take (fuel := 11) (i := 11) (v := .bool false) rfl (by kernel_rfl) (by kernel_rfl) (by kernel_rfl) (fun _ _ _ h => h) (Or.inl ⟨wanted_plain rfl _, fun w' _ => rn_move rfl (by simp only [ev_ne, ev_same, ev_const, sz_put, hsz, e0, e9, e10, e11, e12, ne_eq, Nat.reduceEqDiff, not_false_eq_true, Nat.reduceLT, List.map_toArray, List.map_cons, List.map_nil]) w'⟩) hr10 ?_
      change wpAnyH _ _ _ _ _ 11 _ (Act.put _ (some 68) _) _
      refine allH (fuel := 10) (i := 12) (by kernel_rfl) rfl ?_ ?_
      · exact wanted_guard rfl rfl rfl (by simp only [sz_put, hsz, Nat.reduceLT]) (by simp only [ev_ne, ev_same, ev_const, sz_put, hsz, e0, e9, e10, e11, e12, ne_eq, Nat.reduceEqDiff, not_false_eq_true, Nat.reduceLT, List.map_toArray, List.map_cons, List.map_nil])
      intro K hK
      refine wp_callF (f := 16) Try.func16 (by kernel_rfl) rfl rfl (vs := #[.pointer (some ⟨g1, 0, none⟩)]) (by simp only [ev_ne, ev_same, ev_const, sz_put, hsz, e0, e9, e10, e11, e12, ne_eq, Nat.reduceEqDiff, not_false_eq_true, Nat.reduceLT, List.map_toArray, List.map_cons, List.map_nil]) ?_
      refine (Pending_n S hS3 g1 _ HX.out.1).mono ?_
      rintro e w12 ⟨b12, A12, c12, rfl, -, -, hf12, -⟩
      refine ⟨_, rfl, hK _ _ (hr10.new hf12) ?_⟩
      clear hK K
      have HX := Lib.hid (HX.out.new hf12)
      have hr10 := hr10.new hf12
      change wpAnyH _ _ _ _ _ 10 _ (Act.put _ (some 69) _) _
      refine wpAnyH_take (fuel := 9) (i := 13) (v := .int .i64 S.length) rfl (by kernel_rfl) (by kernel_rfl) (by kernel_rfl) (fun _ _ _ h => h) (Or.inl ⟨wanted_guard rfl rfl rfl (by simp only [sz_put, hsz, Nat.reduceLT]) (by simp only [ev_ne, ev_same, ev_const, sz_put, hsz, e0, e9, e10, e11, e12, ne_eq, Nat.reduceEqDiff, not_false_eq_true, Nat.reduceLT, List.map_toArray, List.map_cons, List.map_nil]), fun w' _ => rn_len8 (A := A12) (c := c12) rfl (by simp only [ev_ne, ev_same, ev_const, sz_put, hsz, e0, e9, e10, e11, e12, ne_eq, Nat.reduceEqDiff, not_false_eq_true, Nat.reduceLT, List.map_toArray, List.map_cons, List.map_nil]) w'⟩) hr10 ?_
      change wpAnyH _ _ _ _ _ 9 _ (Act.put _ (some 70) _) _
      refine wpAnyH_take (fuel := 8) (i := 14) (v := .bool false) rfl (by kernel_rfl) (by kernel_rfl) (by kernel_rfl) (fun _ _ _ h => h) (Or.inl ⟨wanted_guard rfl rfl rfl (by simp only [sz_put, hsz, Nat.reduceLT]) (by simp only [ev_ne, ev_same, ev_const, sz_put, hsz, e0, e9, e10, e11, e12, ne_eq, Nat.reduceEqDiff, not_false_eq_true, Nat.reduceLT, List.map_toArray, List.map_cons, List.map_nil]), fun w' _ => rn_gtr rfl (by simp only [ev_ne, ev_same, ev_const, sz_put, hsz, e0, e9, e10, e11, e12, ne_eq, Nat.reduceEqDiff, not_false_eq_true, Nat.reduceLT, List.map_toArray, List.map_cons, List.map_nil]) (by simp only [ev_ne, ev_same, ev_const, sz_put, hsz, e0, e9, e10, e11, e12, ne_eq, Nat.reduceEqDiff, not_false_eq_true, Nat.reduceLT, List.map_toArray, List.map_cons, List.map_nil]) hS3' w'⟩) hr10 ?_
      change wpAnyH _ _ _ _ _ 8 _ (Act.put _ (some 71) _) _
      refine wpAnyH_take (fuel := 7) (i := 15) (v := .bool false) rfl (by kernel_rfl) (by kernel_rfl) (by kernel_rfl) (fun _ _ _ h => h) (Or.inl ⟨wanted_plain rfl _, fun w' _ => rn_pick0 rfl (by simp only [ev_ne, ev_same, ev_const, sz_put, hsz, e0, e9, e10, e11, e12, ne_eq, Nat.reduceEqDiff, not_false_eq_true, Nat.reduceLT, List.map_toArray, List.map_cons, List.map_nil]) (by simp only [ev_ne, ev_same, ev_const, sz_put, hsz, e0, e9, e10, e11, e12, ne_eq, Nat.reduceEqDiff, not_false_eq_true, Nat.reduceLT, List.map_toArray, List.map_cons, List.map_nil]) w'⟩) hr10 ?_
      change wpAnyH _ _ _ _ _ 7 _ (Act.put _ (some 72) _) _
      refine wpAnyH_take (fuel := 6) (i := 16) (v := .bool false) rfl (by kernel_rfl) (by kernel_rfl) (by kernel_rfl) (fun _ _ _ h => h) (Or.inl ⟨wanted_plain rfl _, fun w' _ => rn_move rfl (by simp only [ev_ne, ev_same, ev_const, sz_put, hsz, e0, e9, e10, e11, e12, ne_eq, Nat.reduceEqDiff, not_false_eq_true, Nat.reduceLT, List.map_toArray, List.map_cons, List.map_nil]) w'⟩) hr10 ?_
      change wpAnyH _ _ _ _ _ 6 _ (Act.put _ (some 73) _) _
      refine wpAnyH_take (fuel := 5) (i := 17) (v := .slice A3 L.length c3) rfl (by kernel_rfl) (by kernel_rfl) (by kernel_rfl) (fun _ _ _ h => h) (Or.inl ⟨wanted_guard rfl rfl rfl (by simp only [sz_put, hsz, Nat.reduceLT]) (by simp only [ev_ne, ev_same, ev_const, sz_put, hsz, e0, e9, e10, e11, e12, ne_eq, Nat.reduceEqDiff, not_false_eq_true, Nat.reduceLT, List.map_toArray, List.map_cons, List.map_nil]), fun w' _ => rn_move rfl (by simp only [ev_ne, ev_same, ev_const, sz_put, hsz, e0, e9, e10, e11, e12, ne_eq, Nat.reduceEqDiff, not_false_eq_true, Nat.reduceLT, List.map_toArray, List.map_cons, List.map_nil]) w'⟩) hr10 ?_
      change wpAnyH _ _ _ _ _ 5 _ (Act.put _ (some 74) _) _
      refine wpAnyH_take (fuel := 4) (i := 18) (v := .int .i64 L.length) rfl (by kernel_rfl) (by kernel_rfl) (by kernel_rfl) (fun _ _ _ h => h) (Or.inl ⟨wanted_guard rfl rfl rfl (by simp only [sz_put, hsz, Nat.reduceLT]) (by simp only [ev_ne, ev_same, ev_const, sz_put, hsz, e0, e9, e10, e11, e12, ne_eq, Nat.reduceEqDiff, not_false_eq_true, Nat.reduceLT, List.map_toArray, List.map_cons, List.map_nil]), fun w' _ => rn_len32 (A := A3) (c := c3) rfl (by simp only [ev_ne, ev_same, ev_const, sz_put, hsz, e0, e9, e10, e11, e12, ne_eq, Nat.reduceEqDiff, not_false_eq_true, Nat.reduceLT, List.map_toArray, List.map_cons, List.map_nil]) w'⟩) hr10 ?_
      change wpAnyH _ _ _ _ _ 4 _ (Act.put _ (some 75) _) _
      refine wpAnyH_take (fuel := 3) (i := 19) (v := .slice A t.length cap) rfl (by kernel_rfl) (by kernel_rfl) (by kernel_rfl) (fun _ _ _ h => h) (Or.inl ⟨wanted_guard rfl rfl rfl (by simp only [sz_put, hsz, Nat.reduceLT]) (by simp only [ev_ne, ev_same, ev_const, sz_put, hsz, e0, e9, e10, e11, e12, ne_eq, Nat.reduceEqDiff, not_false_eq_true, Nat.reduceLT, List.map_toArray, List.map_cons, List.map_nil]), fun w' _ => rn_move rfl (by simp only [ev_ne, ev_same, ev_const, sz_put, hsz, e0, e9, e10, e11, e12, ne_eq, Nat.reduceEqDiff, not_false_eq_true, Nat.reduceLT, List.map_toArray, List.map_cons, List.map_nil]) w'⟩) hr10 ?_
      change wpAnyH _ _ _ _ _ 3 _ (Act.put _ (some 76) _) _
      refine wpAnyH_take (fuel := 2) (i := 20) (v := .int .i64 t.length) rfl (by kernel_rfl) (by kernel_rfl) (by kernel_rfl) (fun _ _ _ h => h) (Or.inl ⟨wanted_guard rfl rfl rfl (by simp only [sz_put, hsz, Nat.reduceLT]) (by simp only [ev_ne, ev_same, ev_const, sz_put, hsz, e0, e9, e10, e11, e12, ne_eq, Nat.reduceEqDiff, not_false_eq_true, Nat.reduceLT, List.map_toArray, List.map_cons, List.map_nil]), fun w' _ => rn_len8 (A := A) (c := cap) rfl (by simp only [ev_ne, ev_same, ev_const, sz_put, hsz, e0, e9, e10, e11, e12, ne_eq, Nat.reduceEqDiff, not_false_eq_true, Nat.reduceLT, List.map_toArray, List.map_cons, List.map_nil]) w'⟩) hr10 ?_
      change wpAnyH _ _ _ _ _ 2 _ (Act.put _ (some 77) _) _
      refine wpAnyH_take (fuel := 1) (i := 21) (v := .bool false) rfl (by kernel_rfl) (by kernel_rfl) (by kernel_rfl) (fun _ _ _ h => h) (Or.inl ⟨wanted_guard rfl rfl rfl (by simp only [sz_put, hsz, Nat.reduceLT]) (by simp only [ev_ne, ev_same, ev_const, sz_put, hsz, e0, e9, e10, e11, e12, ne_eq, Nat.reduceEqDiff, not_false_eq_true, Nat.reduceLT, List.map_toArray, List.map_cons, List.map_nil]), fun w' _ => rn_gtr rfl (by simp only [ev_ne, ev_same, ev_const, sz_put, hsz, e0, e9, e10, e11, e12, ne_eq, Nat.reduceEqDiff, not_false_eq_true, Nat.reduceLT, List.map_toArray, List.map_cons, List.map_nil]) (by simp only [ev_ne, ev_same, ev_const, sz_put, hsz, e0, e9, e10, e11, e12, ne_eq, Nat.reduceEqDiff, not_false_eq_true, Nat.reduceLT, List.map_toArray, List.map_cons, List.map_nil]) hLt' w'⟩) hr10 ?_
      change wpAnyH _ _ _ _ _ 1 _ (Act.put _ (some 78) _) _
      refine wpAnyH_take (fuel := 0) (i := 22) (v := .bool false) rfl (by kernel_rfl) (by kernel_rfl) (by kernel_rfl) (fun _ _ _ h => h) (Or.inl ⟨wanted_plain rfl _, fun w' _ => rn_pick0 rfl (by simp only [ev_ne, ev_same, ev_const, sz_put, hsz, e0, e9, e10, e11, e12, ne_eq, Nat.reduceEqDiff, not_false_eq_true, Nat.reduceLT, List.map_toArray, List.map_cons, List.map_nil]) (by simp only [ev_ne, ev_same, ev_const, sz_put, hsz, e0, e9, e10, e11, e12, ne_eq, Nat.reduceEqDiff, not_false_eq_true, Nat.reduceLT, List.map_toArray, List.map_cons, List.map_nil]) w'⟩) hr10 ?_
      change wpAnyH _ _ _ _ _ 0 _ (Act.put _ (some 79) _) _
      refine wpAnyH_done (by kernel_rfl) ?_ _
      subst ha
      refine hM _ _ (Met.intro (hJ _ _ ⟨.slice A3 L.length c3, .slice A8 L.length c8, .bool true, .bool false, .bool false, .slice A10 S.length c10, .string (strOfNums S), .slice A11 S.length c11, .string (strOfNums S), .bool false, .bool false, .bool false, .slice A12 S.length c12, .int .i64 S.length, .bool false, .bool false, .bool false, .slice A3 L.length c3, .int .i64 L.length, .slice A t.length cap, .int .i64 t.length, .bool false, .bool false, ⟨rfl, HX.out⟩, ?_⟩))
      kernel_rfl
    case rest =>
      obtain ⟨rfl, hx⟩ := hcut
      have HX := Lib.hid hx
      have HV : Hid (∀ x ∈ L, validB x = true) := Lib.hid (by have := feedI_valid t (s := []) trivial HT.out; rw [HF.out] at this; exact this)
      have hwg : w.heap.size ≤ g1 := by have := HN0.out.size; omega
      clear hx
      go_wp2_with (go_at_call 16; go_must (refine (Pending_n S hS3 g1 _ HX.out.1).mono ?_); rintro e w12 ⟨b12, A12, c12, rfl, -, -, hf12, -⟩; have HX := Lib.hid (HX.out.new hf12); clear hf12)
      go_loopw [13, 85] (fun bv iv wr => ∃ j : Nat, j ≤ L.length ∧ iv = .int .i64 j ∧ bv = .bool (badB S L j) ∧ wr = w12) (fun _ iv _ => L.length - (intOf iv).toNat)
      case atStart => exact ⟨0, Nat.zero_le _, rfl, by rw [badB_zero]; simp, rfl⟩
      case round =>
        obtain ⟨j, hj, rfl, rfl, rfl⟩ := hrel
        by_cases hlt : j < L.length
        · obtain ⟨o, rfl, hc⟩ := HX.out.2.2.2.1.at_ hlt
          have hc' := hc
          simp only [R32, List.getElem_map] at hc'
          have j1 : (j : Int) < (L.length : Int) := by omega
          have j0 : (0 : Int) ≤ (j : Int) := by omega
          have hvx := HV.out L[j] (List.getElem_mem hlt)
          obtain ⟨x, hx⟩ : ∃ x, L[j] = x := ⟨_, rfl⟩
          rw [hx] at hc' hvx
          have HXj := Lib.hid hx
          have HVx := Lib.hid hvx
          clear hx hc hvx
          cases hb : badB S L j
          · go_wp2_with (go_at_call 18; go_must (refine (Valid_lit _ true HVx.out _).mono ?_); rintro e w' ⟨rfl, rfl⟩)
            all_goals go_roundw
            case rel => exact ⟨j + 1, by omega, by go_num, by rw [badB_next S L hlt HXj.out, hb, Bool.false_or], by first | rfl | trivial⟩
            case measure => simp [intOf]; omega
          · go_wp2_with (go_at_call 18; go_must (refine (Valid_lit _ true HVx.out _).mono ?_); rintro e w' ⟨rfl, rfl⟩)
            all_goals go_roundw
            case rel => exact ⟨j + 1, by omega, by go_num, by rw [badB_next S L hlt HXj.out, hb, Bool.true_or], by first | rfl | trivial⟩
            case measure => simp [intOf]; omega
        · obtain rfl : j = L.length := by omega
          clear hj hlt
          go_upto_region 20 with fail
          go_cut [115] from 98 to 114 (fun v wx => v = .bool false ∧ St w wx g1 g2 S L b3 A3 c3)
          case first =>
            rename_i J K' hJ hM
            have hLbig : L.length ≤ 1000000000 := by omega
            have hb2 : badB S L L.length = false ∨ badB S L L.length = true := by cases badB S L L.length <;> simp
            rcases hb2 with hb | hb
            · have hback : encL L = t := by
                obtain ⟨e1, e2⟩ := badB_end hb
                have := feedI_back t (s := []) trivial HT.out (by rw [HF.out]; exact e1) (by rw [HF.out]; exact e2)
                rw [HF.out] at this
                exact this
              have HBack := Lib.hid hback
              have HBu : Hid (Bytes t) := Lib.hid HT.out
              have HDu : Hid (decI t = L) := Lib.hid (by rw [← hback]; exact decI_encL L HV.out)
              have htb : t.length ≤ 400000 := by omega
              clear hback
              refine abs_act ?_
              intro a0 ha
              have hsz : a0.tmps.size = 125 := by rw [ha]; rfl
              have e0 : a0.eval (.tmp 0) = .slice A t.length cap := by rw [ha]; rfl
              have e11 : a0.eval (.tmp 11) = .slice A3 L.length c3 := by rw [ha]; rfl
              have e13 : a0.eval (.tmp 13) = .bool false := by rw [ha]; exact congrArg Value.bool hb
              have HX := Lib.hid (HX.out.new (Fr.drew (Fr.refl _ _)))
              refine wp_region_any (by kernel_rfl) ?_
              change wpAny _ _ _ _ 18 _ _ (World.drew _)
              refine wpAny_of_held (S := fun w' => Rd w' b A t.length (B8 t)) _ _ _ _ ?_
              refine wpAnyH_take (fuel := 17) (i := 0) (v := .slice A3 L.length c3) rfl (by kernel_rfl) (by kernel_rfl) (by kernel_rfl) (fun _ _ _ h => h) (Or.inl ⟨wanted_plain rfl _, fun w' _ => rn_move rfl (by simp only [ev_ne, ev_same, ev_const, sz_put, hsz, e0, e11, e13, ne_eq, Nat.reduceEqDiff, not_false_eq_true, Nat.reduceLT, List.map_toArray, List.map_cons, List.map_nil]) w'⟩) (HR.out.new HX.out.2.2.2.2) ?_
              change wpAnyH _ _ _ _ _ 17 _ (Act.put _ (some 98) _) _
              refine wpAnyH_take (fuel := 16) (i := 3) (v := .slice A3 L.length c3) rfl (by kernel_rfl) (by kernel_rfl) (by kernel_rfl) (fun _ _ _ h => h) (Or.inl ⟨wanted_plain rfl _, fun w' _ => rn_move rfl (by simp only [ev_ne, ev_same, ev_const, sz_put, hsz, e0, e11, e13, ne_eq, Nat.reduceEqDiff, not_false_eq_true, Nat.reduceLT, List.map_toArray, List.map_cons, List.map_nil]) w'⟩) (HR.out.new HX.out.2.2.2.2) ?_
              change wpAnyH _ _ _ _ _ 16 _ (Act.put _ (some 101) _) _
              refine allH (fuel := 15) (i := 1) (by kernel_rfl) rfl ?_ ?_
              · exact wanted_plain rfl _
              intro K hK
              refine wp_callF (f := 21) Try.func21 (by kernel_rfl) rfl rfl (vs := #[.slice A3 L.length c3]) (by simp only [ev_ne, ev_same, ev_const, sz_put, hsz, e0, e11, e13, ne_eq, Nat.reduceEqDiff, not_false_eq_true, Nat.reduceLT, List.map_toArray, List.map_cons, List.map_nil]) ?_
              refine (Encode_n L t HBack.out t.length rfl _ b3 A3 c3 HX.out.2.2.2.1).mono ?_
              rintro e w20 ⟨b20, A20, c20, rfl, hr20, hf20⟩
              refine ⟨_, rfl, hK _ _ (HR.out.new (HX.out.2.2.2.2.trans hf20)) ?_⟩
              clear hK K
              have HX := Lib.hid (HX.out.new hf20)
              change wpAnyH _ _ _ _ _ 15 _ (Act.put _ (some 99) _) _
              refine allH (fuel := 14) (i := 2) (by kernel_rfl) rfl ?_ ?_
              · exact wanted_plain rfl _
              intro K hK
              refine wp_callF (f := 11) Try.func11 (by kernel_rfl) rfl rfl (vs := #[.slice A20 t.length c20]) (by simp only [ev_ne, ev_same, ev_const, sz_put, hsz, e0, e11, e13, ne_eq, Nat.reduceEqDiff, not_false_eq_true, Nat.reduceLT, List.map_toArray, List.map_cons, List.map_nil]) ?_
              refine (Decode_e t HBu.out L HDu.out L.length rfl _ b20 A20 c20 t.length rfl hr20 htb).mono ?_
              rintro e w21 ⟨b21, A21, c21, rfl, hr21, hf21⟩
              refine ⟨_, rfl, hK _ _ (HR.out.new (HX.out.2.2.2.2.trans hf21)) ?_⟩
              clear hK K
              have HX := Lib.hid (HX.out.new hf21)
              change wpAnyH _ _ _ _ _ 14 _ (Act.put _ (some 100) _) _
              refine allH (fuel := 13) (i := 4) (by kernel_rfl) rfl ?_ ?_
              · exact wanted_plain rfl _
              intro K hK
              refine wp_callF (f := 10) Try.func10 (by kernel_rfl) rfl rfl (vs := #[.slice A21 L.length c21, .slice A3 L.length c3]) (by simp only [ev_ne, ev_same, ev_const, sz_put, hsz, e0, e11, e13, ne_eq, Nat.reduceEqDiff, not_false_eq_true, Nat.reduceLT, List.map_toArray, List.map_cons, List.map_nil]) ?_
              refine (Same_n L L L.length L.length rfl rfl _ b21 b3 A21 A3 c21 c3 hr21 HX.out.2.2.2.1 hLbig rfl).mono ?_
              rintro e w22 ⟨rfl, hf22⟩
              refine ⟨_, rfl, hK _ _ (HR.out.new (HX.out.2.2.2.2.trans hf22)) ?_⟩
              clear hK K
              have HX := Lib.hid (HX.out.new hf22)
              change wpAnyH _ _ _ _ _ 13 _ (Act.put _ (some 102) _) _
              refine wpAnyH_take (fuel := 12) (i := 5) (v := .bool false) rfl (by kernel_rfl) (by kernel_rfl) (by kernel_rfl) (fun _ _ _ h => h) (Or.inl ⟨wanted_plain rfl _, fun w' _ => rn_not (b := true) rfl (by simp only [ev_ne, ev_same, ev_const, sz_put, hsz, e0, e11, e13, ne_eq, Nat.reduceEqDiff, not_false_eq_true, Nat.reduceLT, List.map_toArray, List.map_cons, List.map_nil]) w'⟩) (HR.out.new HX.out.2.2.2.2) ?_
              change wpAnyH _ _ _ _ _ 12 _ (Act.put _ (some 103) _) _
              refine wpAnyH_take (fuel := 11) (i := 6) (v := .bool false) rfl (by kernel_rfl) (by kernel_rfl) (by kernel_rfl) (fun _ _ _ h => h) (Or.inl ⟨wanted_plain rfl _, fun w' _ => rn_move rfl (by simp only [ev_ne, ev_same, ev_const, sz_put, hsz, e0, e11, e13, ne_eq, Nat.reduceEqDiff, not_false_eq_true, Nat.reduceLT, List.map_toArray, List.map_cons, List.map_nil]) w'⟩) (HR.out.new HX.out.2.2.2.2) ?_
              change wpAnyH _ _ _ _ _ 11 _ (Act.put _ (some 104) _) _
              refine wpAnyH_take (fuel := 10) (i := 7) (v := .bool false) rfl (by kernel_rfl) (by kernel_rfl) (by kernel_rfl) (fun _ _ _ h => h) (Or.inl ⟨wanted_guard rfl rfl rfl (by simp only [sz_put, hsz, Nat.reduceLT]) (by simp only [ev_ne, ev_same, ev_const, sz_put, hsz, e0, e11, e13, ne_eq, Nat.reduceEqDiff, not_false_eq_true, Nat.reduceLT, List.map_toArray, List.map_cons, List.map_nil]), fun w' _ => rn_move rfl (by simp only [ev_ne, ev_same, ev_const, sz_put, hsz, e0, e11, e13, ne_eq, Nat.reduceEqDiff, not_false_eq_true, Nat.reduceLT, List.map_toArray, List.map_cons, List.map_nil]) w'⟩) (HR.out.new HX.out.2.2.2.2) ?_
              change wpAnyH _ _ _ _ _ 10 _ (Act.put _ (some 105) _) _
              refine wpAnyH_take (fuel := 9) (i := 8) (v := .bool true) rfl (by kernel_rfl) (by kernel_rfl) (by kernel_rfl) (fun _ _ _ h => h) (Or.inl ⟨wanted_guard rfl rfl rfl (by simp only [sz_put, hsz, Nat.reduceLT]) (by simp only [ev_ne, ev_same, ev_const, sz_put, hsz, e0, e11, e13, ne_eq, Nat.reduceEqDiff, not_false_eq_true, Nat.reduceLT, List.map_toArray, List.map_cons, List.map_nil]), fun w' _ => rn_not (b := false) rfl (by simp only [ev_ne, ev_same, ev_const, sz_put, hsz, e0, e11, e13, ne_eq, Nat.reduceEqDiff, not_false_eq_true, Nat.reduceLT, List.map_toArray, List.map_cons, List.map_nil]) w'⟩) (HR.out.new HX.out.2.2.2.2) ?_
              change wpAnyH _ _ _ _ _ 9 _ (Act.put _ (some 106) _) _
              refine wpAnyH_take (fuel := 8) (i := 9) (v := .bool true) rfl (by kernel_rfl) (by kernel_rfl) (by kernel_rfl) (fun _ _ _ h => h) (Or.inl ⟨wanted_guard rfl rfl rfl (by simp only [sz_put, hsz, Nat.reduceLT]) (by simp only [ev_ne, ev_same, ev_const, sz_put, hsz, e0, e11, e13, ne_eq, Nat.reduceEqDiff, not_false_eq_true, Nat.reduceLT, List.map_toArray, List.map_cons, List.map_nil]), fun w' _ => rn_move rfl (by simp only [ev_ne, ev_same, ev_const, sz_put, hsz, e0, e11, e13, ne_eq, Nat.reduceEqDiff, not_false_eq_true, Nat.reduceLT, List.map_toArray, List.map_cons, List.map_nil]) w'⟩) (HR.out.new HX.out.2.2.2.2) ?_
              change wpAnyH _ _ _ _ _ 8 _ (Act.put _ (some 107) _) _
              refine wpAnyH_take (fuel := 7) (i := 10) (v := .slice A3 L.length c3) rfl (by kernel_rfl) (by kernel_rfl) (by kernel_rfl) (fun _ _ _ h => h) (Or.inl ⟨wanted_guard rfl rfl rfl (by simp only [sz_put, hsz, Nat.reduceLT]) (by simp only [ev_ne, ev_same, ev_const, sz_put, hsz, e0, e11, e13, ne_eq, Nat.reduceEqDiff, not_false_eq_true, Nat.reduceLT, List.map_toArray, List.map_cons, List.map_nil]), fun w' _ => rn_move rfl (by simp only [ev_ne, ev_same, ev_const, sz_put, hsz, e0, e11, e13, ne_eq, Nat.reduceEqDiff, not_false_eq_true, Nat.reduceLT, List.map_toArray, List.map_cons, List.map_nil]) w'⟩) (HR.out.new HX.out.2.2.2.2) ?_
              change wpAnyH _ _ _ _ _ 7 _ (Act.put _ (some 108) _) _
              refine wpAnyH_take (fuel := 6) (i := 13) (v := .slice A t.length cap) rfl (by kernel_rfl) (by kernel_rfl) (by kernel_rfl) (fun _ _ _ h => h) (Or.inl ⟨wanted_guard rfl rfl rfl (by simp only [sz_put, hsz, Nat.reduceLT]) (by simp only [ev_ne, ev_same, ev_const, sz_put, hsz, e0, e11, e13, ne_eq, Nat.reduceEqDiff, not_false_eq_true, Nat.reduceLT, List.map_toArray, List.map_cons, List.map_nil]), fun w' _ => rn_move rfl (by simp only [ev_ne, ev_same, ev_const, sz_put, hsz, e0, e11, e13, ne_eq, Nat.reduceEqDiff, not_false_eq_true, Nat.reduceLT, List.map_toArray, List.map_cons, List.map_nil]) w'⟩) (HR.out.new HX.out.2.2.2.2) ?_
              change wpAnyH _ _ _ _ _ 6 _ (Act.put _ (some 111) _) _
              refine wpAnyH_take (fuel := 5) (i := 14) (v := .string (strOfNums t)) rfl (by kernel_rfl) (by kernel_rfl) (by kernel_rfl) (fun _ _ _ h => h) (Or.inl ⟨wanted_guard rfl rfl rfl (by simp only [sz_put, hsz, Nat.reduceLT]) (by simp only [ev_ne, ev_same, ev_const, sz_put, hsz, e0, e11, e13, ne_eq, Nat.reduceEqDiff, not_false_eq_true, Nat.reduceLT, List.map_toArray, List.map_cons, List.map_nil]), fun w' hw' => rn_conv rfl (by simp only [ev_ne, ev_same, ev_const, sz_put, hsz, e0, e11, e13, ne_eq, Nat.reduceEqDiff, not_false_eq_true, Nat.reduceLT, List.map_toArray, List.map_cons, List.map_nil]) (conv_bytes hw' cap)⟩) (HR.out.new HX.out.2.2.2.2) ?_
              change wpAnyH _ _ _ _ _ 5 _ (Act.put _ (some 112) _) _
              refine allH (fuel := 4) (i := 11) (by kernel_rfl) rfl ?_ ?_
              · exact wanted_guard rfl rfl rfl (by simp only [sz_put, hsz, Nat.reduceLT]) (by simp only [ev_ne, ev_same, ev_const, sz_put, hsz, e0, e11, e13, ne_eq, Nat.reduceEqDiff, not_false_eq_true, Nat.reduceLT, List.map_toArray, List.map_cons, List.map_nil])
              intro K hK
              refine wp_callF (f := 21) Try.func21 (by kernel_rfl) rfl rfl (vs := #[.slice A3 L.length c3]) (by simp only [ev_ne, ev_same, ev_const, sz_put, hsz, e0, e11, e13, ne_eq, Nat.reduceEqDiff, not_false_eq_true, Nat.reduceLT, List.map_toArray, List.map_cons, List.map_nil]) ?_
              refine (Encode_n L t HBack.out t.length rfl _ b3 A3 c3 HX.out.2.2.2.1).mono ?_
              rintro e w23 ⟨b23, A23, c23, rfl, hr23, hf23⟩
              refine ⟨_, rfl, hK _ _ (HR.out.new (HX.out.2.2.2.2.trans hf23)) ?_⟩
              clear hK K
              have HX := Lib.hid (HX.out.new hf23)
              change wpAnyH _ _ _ _ _ 4 _ (Act.put _ (some 109) _) _
              refine allH_val (fuel := 3) (i := 12) (v := .string (strOfNums t)) (by kernel_rfl) rfl (wanted_guard rfl rfl rfl (by simp only [sz_put, hsz, Nat.reduceLT]) (by simp only [ev_ne, ev_same, ev_const, sz_put, hsz, e0, e11, e13, ne_eq, Nat.reduceEqDiff, not_false_eq_true, Nat.reduceLT, List.map_toArray, List.map_cons, List.map_nil])) (rn_conv rfl (by simp only [ev_ne, ev_same, ev_const, sz_put, hsz, e0, e11, e13, ne_eq, Nat.reduceEqDiff, not_false_eq_true, Nat.reduceLT, List.map_toArray, List.map_cons, List.map_nil]) (conv_bytes hr23 c23)) (HR.out.new HX.out.2.2.2.2) ?_
              change wpAnyH _ _ _ _ _ 3 _ (Act.put _ (some 110) _) _
              refine wpAnyH_take (fuel := 2) (i := 15) (v := .bool false) rfl (by kernel_rfl) (by kernel_rfl) (by kernel_rfl) (fun _ _ _ h => h) (Or.inl ⟨wanted_guard rfl rfl rfl (by simp only [sz_put, hsz, Nat.reduceLT]) (by simp only [ev_ne, ev_same, ev_const, sz_put, hsz, e0, e11, e13, ne_eq, Nat.reduceEqDiff, not_false_eq_true, Nat.reduceLT, List.map_toArray, List.map_cons, List.map_nil]), fun w' _ => rn_neq (s := strOfNums t) rfl (by simp only [ev_ne, ev_same, ev_const, sz_put, hsz, e0, e11, e13, ne_eq, Nat.reduceEqDiff, not_false_eq_true, Nat.reduceLT, List.map_toArray, List.map_cons, List.map_nil]) (by simp only [ev_ne, ev_same, ev_const, sz_put, hsz, e0, e11, e13, ne_eq, Nat.reduceEqDiff, not_false_eq_true, Nat.reduceLT, List.map_toArray, List.map_cons, List.map_nil]) w'⟩) (HR.out.new HX.out.2.2.2.2) ?_
              change wpAnyH _ _ _ _ _ 2 _ (Act.put _ (some 113) _) _
              refine wpAnyH_take (fuel := 1) (i := 16) (v := .bool false) rfl (by kernel_rfl) (by kernel_rfl) (by kernel_rfl) (fun _ _ _ h => h) (Or.inl ⟨wanted_guard rfl rfl rfl (by simp only [sz_put, hsz, Nat.reduceLT]) (by simp only [ev_ne, ev_same, ev_const, sz_put, hsz, e0, e11, e13, ne_eq, Nat.reduceEqDiff, not_false_eq_true, Nat.reduceLT, List.map_toArray, List.map_cons, List.map_nil]), fun w' _ => rn_pick1 rfl (by simp only [ev_ne, ev_same, ev_const, sz_put, hsz, e0, e11, e13, ne_eq, Nat.reduceEqDiff, not_false_eq_true, Nat.reduceLT, List.map_toArray, List.map_cons, List.map_nil]) (by simp only [ev_ne, ev_same, ev_const, sz_put, hsz, e0, e11, e13, ne_eq, Nat.reduceEqDiff, not_false_eq_true, Nat.reduceLT, List.map_toArray, List.map_cons, List.map_nil]) w'⟩) (HR.out.new HX.out.2.2.2.2) ?_
              change wpAnyH _ _ _ _ _ 1 _ (Act.put _ (some 114) _) _
              refine wpAnyH_take (fuel := 0) (i := 17) (v := .bool false) rfl (by kernel_rfl) (by kernel_rfl) (by kernel_rfl) (fun _ _ _ h => h) (Or.inl ⟨wanted_plain rfl _, fun w' _ => rn_pick0 rfl (by simp only [ev_ne, ev_same, ev_const, sz_put, hsz, e0, e11, e13, ne_eq, Nat.reduceEqDiff, not_false_eq_true, Nat.reduceLT, List.map_toArray, List.map_cons, List.map_nil]) (by simp only [ev_ne, ev_same, ev_const, sz_put, hsz, e0, e11, e13, ne_eq, Nat.reduceEqDiff, not_false_eq_true, Nat.reduceLT, List.map_toArray, List.map_cons, List.map_nil]) w'⟩) (HR.out.new HX.out.2.2.2.2) ?_
              change wpAnyH _ _ _ _ _ 0 _ (Act.put _ (some 115) _) _
              refine wpAnyH_done (by kernel_rfl) ?_ _
              subst ha
              refine hM _ _ (Met.intro (hJ _ _ ⟨.slice A3 L.length c3, .slice A20 t.length c20, .slice A21 L.length c21, .slice A3 L.length c3, .bool true, .bool false, .bool false, .bool false, .bool true, .bool true, .slice A3 L.length c3, .slice A23 t.length c23, .string (strOfNums t), .slice A t.length cap, .string (strOfNums t), .bool false, .bool false, .bool false, ⟨rfl, HX.out⟩, ?_⟩))
              kernel_rfl
            · have hel := encL_len L
              obtain ⟨m, hm⟩ : ∃ m, (encL L).length = m := ⟨_, rfl⟩
              have hmb : m ≤ 400000 := by omega
              have HM := Lib.hid hm
              have HBu : Hid (Bytes (encL L)) := Lib.hid (encL_bytes L)
              have HDu : Hid (decI (encL L) = L) := Lib.hid (decI_encL L HV.out)
              clear hm hel
              refine abs_act ?_
              intro a0 ha
              have hsz : a0.tmps.size = 125 := by rw [ha]; rfl
              have e0 : a0.eval (.tmp 0) = .slice A t.length cap := by rw [ha]; rfl
              have e11 : a0.eval (.tmp 11) = .slice A3 L.length c3 := by rw [ha]; rfl
              have e13 : a0.eval (.tmp 13) = .bool true := by rw [ha]; exact congrArg Value.bool hb
              have HX := Lib.hid (HX.out.new (Fr.drew (Fr.refl _ _)))
              refine wp_region_any (by kernel_rfl) ?_
              change wpAny _ _ _ _ 18 _ _ (World.drew _)
              refine wpAny_of_held (S := fun w' => Rd w' b A t.length (B8 t)) _ _ _ _ ?_
              refine wpAnyH_take (fuel := 17) (i := 0) (v := .slice A3 L.length c3) rfl (by kernel_rfl) (by kernel_rfl) (by kernel_rfl) (fun _ _ _ h => h) (Or.inl ⟨wanted_plain rfl _, fun w' _ => rn_move rfl (by simp only [ev_ne, ev_same, ev_const, sz_put, hsz, e0, e11, e13, ne_eq, Nat.reduceEqDiff, not_false_eq_true, Nat.reduceLT, List.map_toArray, List.map_cons, List.map_nil]) w'⟩) (HR.out.new HX.out.2.2.2.2) ?_
              change wpAnyH _ _ _ _ _ 17 _ (Act.put _ (some 98) _) _
              refine wpAnyH_take (fuel := 16) (i := 3) (v := .slice A3 L.length c3) rfl (by kernel_rfl) (by kernel_rfl) (by kernel_rfl) (fun _ _ _ h => h) (Or.inl ⟨wanted_plain rfl _, fun w' _ => rn_move rfl (by simp only [ev_ne, ev_same, ev_const, sz_put, hsz, e0, e11, e13, ne_eq, Nat.reduceEqDiff, not_false_eq_true, Nat.reduceLT, List.map_toArray, List.map_cons, List.map_nil]) w'⟩) (HR.out.new HX.out.2.2.2.2) ?_
              change wpAnyH _ _ _ _ _ 16 _ (Act.put _ (some 101) _) _
              refine allH (fuel := 15) (i := 1) (by kernel_rfl) rfl ?_ ?_
              · exact wanted_plain rfl _
              intro K hK
              refine wp_callF (f := 21) Try.func21 (by kernel_rfl) rfl rfl (vs := #[.slice A3 L.length c3]) (by simp only [ev_ne, ev_same, ev_const, sz_put, hsz, e0, e11, e13, ne_eq, Nat.reduceEqDiff, not_false_eq_true, Nat.reduceLT, List.map_toArray, List.map_cons, List.map_nil]) ?_
              refine (Encode_n L (encL L) rfl m HM.out _ b3 A3 c3 HX.out.2.2.2.1).mono ?_
              rintro e w20 ⟨b20, A20, c20, rfl, hr20, hf20⟩
              refine ⟨_, rfl, hK _ _ (HR.out.new (HX.out.2.2.2.2.trans hf20)) ?_⟩
              clear hK K
              have HX := Lib.hid (HX.out.new hf20)
              change wpAnyH _ _ _ _ _ 15 _ (Act.put _ (some 99) _) _
              refine allH (fuel := 14) (i := 2) (by kernel_rfl) rfl ?_ ?_
              · exact wanted_plain rfl _
              intro K hK
              refine wp_callF (f := 11) Try.func11 (by kernel_rfl) rfl rfl (vs := #[.slice A20 m c20]) (by simp only [ev_ne, ev_same, ev_const, sz_put, hsz, e0, e11, e13, ne_eq, Nat.reduceEqDiff, not_false_eq_true, Nat.reduceLT, List.map_toArray, List.map_cons, List.map_nil]) ?_
              refine (Decode_e (encL L) HBu.out L HDu.out L.length rfl _ b20 A20 c20 m HM.out hr20 hmb).mono ?_
              rintro e w21 ⟨b21, A21, c21, rfl, hr21, hf21⟩
              refine ⟨_, rfl, hK _ _ (HR.out.new (HX.out.2.2.2.2.trans hf21)) ?_⟩
              clear hK K
              have HX := Lib.hid (HX.out.new hf21)
              change wpAnyH _ _ _ _ _ 14 _ (Act.put _ (some 100) _) _
              refine allH (fuel := 13) (i := 4) (by kernel_rfl) rfl ?_ ?_
              · exact wanted_plain rfl _
              intro K hK
              refine wp_callF (f := 10) Try.func10 (by kernel_rfl) rfl rfl (vs := #[.slice A21 L.length c21, .slice A3 L.length c3]) (by simp only [ev_ne, ev_same, ev_const, sz_put, hsz, e0, e11, e13, ne_eq, Nat.reduceEqDiff, not_false_eq_true, Nat.reduceLT, List.map_toArray, List.map_cons, List.map_nil]) ?_
              refine (Same_n L L L.length L.length rfl rfl _ b21 b3 A21 A3 c21 c3 hr21 HX.out.2.2.2.1 hLbig rfl).mono ?_
              rintro e w22 ⟨rfl, hf22⟩
              refine ⟨_, rfl, hK _ _ (HR.out.new (HX.out.2.2.2.2.trans hf22)) ?_⟩
              clear hK K
              have HX := Lib.hid (HX.out.new hf22)
              change wpAnyH _ _ _ _ _ 13 _ (Act.put _ (some 102) _) _
              refine wpAnyH_take (fuel := 12) (i := 5) (v := .bool false) rfl (by kernel_rfl) (by kernel_rfl) (by kernel_rfl) (fun _ _ _ h => h) (Or.inl ⟨wanted_plain rfl _, fun w' _ => rn_not (b := true) rfl (by simp only [ev_ne, ev_same, ev_const, sz_put, hsz, e0, e11, e13, ne_eq, Nat.reduceEqDiff, not_false_eq_true, Nat.reduceLT, List.map_toArray, List.map_cons, List.map_nil]) w'⟩) (HR.out.new HX.out.2.2.2.2) ?_
              change wpAnyH _ _ _ _ _ 12 _ (Act.put _ (some 103) _) _
              refine wpAnyH_take (fuel := 11) (i := 6) (v := .bool false) rfl (by kernel_rfl) (by kernel_rfl) (by kernel_rfl) (fun _ _ _ h => h) (Or.inl ⟨wanted_plain rfl _, fun w' _ => rn_move rfl (by simp only [ev_ne, ev_same, ev_const, sz_put, hsz, e0, e11, e13, ne_eq, Nat.reduceEqDiff, not_false_eq_true, Nat.reduceLT, List.map_toArray, List.map_cons, List.map_nil]) w'⟩) (HR.out.new HX.out.2.2.2.2) ?_
              change wpAnyH _ _ _ _ _ 11 _ (Act.put _ (some 104) _) _
              refine wpAnyH_take (fuel := 10) (i := 7) (v := .bool true) rfl (by kernel_rfl) (by kernel_rfl) (by kernel_rfl) (fun _ _ _ h => h) (Or.inl ⟨wanted_guard rfl rfl rfl (by simp only [sz_put, hsz, Nat.reduceLT]) (by simp only [ev_ne, ev_same, ev_const, sz_put, hsz, e0, e11, e13, ne_eq, Nat.reduceEqDiff, not_false_eq_true, Nat.reduceLT, List.map_toArray, List.map_cons, List.map_nil]), fun w' _ => rn_move rfl (by simp only [ev_ne, ev_same, ev_const, sz_put, hsz, e0, e11, e13, ne_eq, Nat.reduceEqDiff, not_false_eq_true, Nat.reduceLT, List.map_toArray, List.map_cons, List.map_nil]) w'⟩) (HR.out.new HX.out.2.2.2.2) ?_
              change wpAnyH _ _ _ _ _ 10 _ (Act.put _ (some 105) _) _
              refine wpAnyH_take (fuel := 9) (i := 8) (v := .bool false) rfl (by kernel_rfl) (by kernel_rfl) (by kernel_rfl) (fun _ _ _ h => h) (Or.inl ⟨wanted_guard rfl rfl rfl (by simp only [sz_put, hsz, Nat.reduceLT]) (by simp only [ev_ne, ev_same, ev_const, sz_put, hsz, e0, e11, e13, ne_eq, Nat.reduceEqDiff, not_false_eq_true, Nat.reduceLT, List.map_toArray, List.map_cons, List.map_nil]), fun w' _ => rn_not (b := true) rfl (by simp only [ev_ne, ev_same, ev_const, sz_put, hsz, e0, e11, e13, ne_eq, Nat.reduceEqDiff, not_false_eq_true, Nat.reduceLT, List.map_toArray, List.map_cons, List.map_nil]) w'⟩) (HR.out.new HX.out.2.2.2.2) ?_
              change wpAnyH _ _ _ _ _ 9 _ (Act.put _ (some 106) _) _
              refine wpAnyH_take (fuel := 8) (i := 9) (v := .bool false) rfl (by kernel_rfl) (by kernel_rfl) (by kernel_rfl) (fun _ _ _ h => h) (Or.inl ⟨wanted_guard rfl rfl rfl (by simp only [sz_put, hsz, Nat.reduceLT]) (by simp only [ev_ne, ev_same, ev_const, sz_put, hsz, e0, e11, e13, ne_eq, Nat.reduceEqDiff, not_false_eq_true, Nat.reduceLT, List.map_toArray, List.map_cons, List.map_nil]), fun w' _ => rn_move rfl (by simp only [ev_ne, ev_same, ev_const, sz_put, hsz, e0, e11, e13, ne_eq, Nat.reduceEqDiff, not_false_eq_true, Nat.reduceLT, List.map_toArray, List.map_cons, List.map_nil]) w'⟩) (HR.out.new HX.out.2.2.2.2) ?_
              change wpAnyH _ _ _ _ _ 8 _ (Act.put _ (some 107) _) _
              refine wpAnyH_take (fuel := 7) (i := 10) (v := undef) rfl (by kernel_rfl) (by kernel_rfl) (by kernel_rfl) (fun _ _ _ h => h) (Or.inr ⟨unwanted_guard (c := false) rfl rfl rfl (by simp only [sz_put, hsz, Nat.reduceLT]) (by simp only [ev_ne, ev_same, ev_const, sz_put, hsz, e0, e11, e13, ne_eq, Nat.reduceEqDiff, not_false_eq_true, Nat.reduceLT, List.map_toArray, List.map_cons, List.map_nil]) (by decide), rfl⟩) (HR.out.new HX.out.2.2.2.2) ?_
              change wpAnyH _ _ _ _ _ 7 _ (Act.put _ (some 108) _) _
              refine wpAnyH_take (fuel := 6) (i := 11) (v := undef) rfl (by kernel_rfl) (by kernel_rfl) (by kernel_rfl) (fun _ _ _ h => h) (Or.inr ⟨unwanted_guard (c := false) rfl rfl rfl (by simp only [sz_put, hsz, Nat.reduceLT]) (by simp only [ev_ne, ev_same, ev_const, sz_put, hsz, e0, e11, e13, ne_eq, Nat.reduceEqDiff, not_false_eq_true, Nat.reduceLT, List.map_toArray, List.map_cons, List.map_nil]) (by decide), rfl⟩) (HR.out.new HX.out.2.2.2.2) ?_
              change wpAnyH _ _ _ _ _ 6 _ (Act.put _ (some 109) _) _
              refine wpAnyH_take (fuel := 5) (i := 12) (v := undef) rfl (by kernel_rfl) (by kernel_rfl) (by kernel_rfl) (fun _ _ _ h => h) (Or.inr ⟨unwanted_guard (c := false) rfl rfl rfl (by simp only [sz_put, hsz, Nat.reduceLT]) (by simp only [ev_ne, ev_same, ev_const, sz_put, hsz, e0, e11, e13, ne_eq, Nat.reduceEqDiff, not_false_eq_true, Nat.reduceLT, List.map_toArray, List.map_cons, List.map_nil]) (by decide), rfl⟩) (HR.out.new HX.out.2.2.2.2) ?_
              change wpAnyH _ _ _ _ _ 5 _ (Act.put _ (some 110) _) _
              refine wpAnyH_take (fuel := 4) (i := 13) (v := undef) rfl (by kernel_rfl) (by kernel_rfl) (by kernel_rfl) (fun _ _ _ h => h) (Or.inr ⟨unwanted_guard (c := false) rfl rfl rfl (by simp only [sz_put, hsz, Nat.reduceLT]) (by simp only [ev_ne, ev_same, ev_const, sz_put, hsz, e0, e11, e13, ne_eq, Nat.reduceEqDiff, not_false_eq_true, Nat.reduceLT, List.map_toArray, List.map_cons, List.map_nil]) (by decide), rfl⟩) (HR.out.new HX.out.2.2.2.2) ?_
              change wpAnyH _ _ _ _ _ 4 _ (Act.put _ (some 111) _) _
              refine wpAnyH_take (fuel := 3) (i := 14) (v := undef) rfl (by kernel_rfl) (by kernel_rfl) (by kernel_rfl) (fun _ _ _ h => h) (Or.inr ⟨unwanted_guard (c := false) rfl rfl rfl (by simp only [sz_put, hsz, Nat.reduceLT]) (by simp only [ev_ne, ev_same, ev_const, sz_put, hsz, e0, e11, e13, ne_eq, Nat.reduceEqDiff, not_false_eq_true, Nat.reduceLT, List.map_toArray, List.map_cons, List.map_nil]) (by decide), rfl⟩) (HR.out.new HX.out.2.2.2.2) ?_
              change wpAnyH _ _ _ _ _ 3 _ (Act.put _ (some 112) _) _
              refine wpAnyH_take (fuel := 2) (i := 15) (v := undef) rfl (by kernel_rfl) (by kernel_rfl) (by kernel_rfl) (fun _ _ _ h => h) (Or.inr ⟨unwanted_guard (c := false) rfl rfl rfl (by simp only [sz_put, hsz, Nat.reduceLT]) (by simp only [ev_ne, ev_same, ev_const, sz_put, hsz, e0, e11, e13, ne_eq, Nat.reduceEqDiff, not_false_eq_true, Nat.reduceLT, List.map_toArray, List.map_cons, List.map_nil]) (by decide), rfl⟩) (HR.out.new HX.out.2.2.2.2) ?_
              change wpAnyH _ _ _ _ _ 2 _ (Act.put _ (some 113) _) _
              refine wpAnyH_take (fuel := 1) (i := 16) (v := .bool false) rfl (by kernel_rfl) (by kernel_rfl) (by kernel_rfl) (fun _ _ _ h => h) (Or.inl ⟨wanted_guard rfl rfl rfl (by simp only [sz_put, hsz, Nat.reduceLT]) (by simp only [ev_ne, ev_same, ev_const, sz_put, hsz, e0, e11, e13, ne_eq, Nat.reduceEqDiff, not_false_eq_true, Nat.reduceLT, List.map_toArray, List.map_cons, List.map_nil]), fun w' _ => rn_pick0 rfl (by simp only [ev_ne, ev_same, ev_const, sz_put, hsz, e0, e11, e13, ne_eq, Nat.reduceEqDiff, not_false_eq_true, Nat.reduceLT, List.map_toArray, List.map_cons, List.map_nil]) (by simp only [ev_ne, ev_same, ev_const, sz_put, hsz, e0, e11, e13, ne_eq, Nat.reduceEqDiff, not_false_eq_true, Nat.reduceLT, List.map_toArray, List.map_cons, List.map_nil]) w'⟩) (HR.out.new HX.out.2.2.2.2) ?_
              change wpAnyH _ _ _ _ _ 1 _ (Act.put _ (some 114) _) _
              refine wpAnyH_take (fuel := 0) (i := 17) (v := .bool false) rfl (by kernel_rfl) (by kernel_rfl) (by kernel_rfl) (fun _ _ _ h => h) (Or.inl ⟨wanted_plain rfl _, fun w' _ => rn_pick0 rfl (by simp only [ev_ne, ev_same, ev_const, sz_put, hsz, e0, e11, e13, ne_eq, Nat.reduceEqDiff, not_false_eq_true, Nat.reduceLT, List.map_toArray, List.map_cons, List.map_nil]) (by simp only [ev_ne, ev_same, ev_const, sz_put, hsz, e0, e11, e13, ne_eq, Nat.reduceEqDiff, not_false_eq_true, Nat.reduceLT, List.map_toArray, List.map_cons, List.map_nil]) w'⟩) (HR.out.new HX.out.2.2.2.2) ?_
              change wpAnyH _ _ _ _ _ 0 _ (Act.put _ (some 115) _) _
              refine wpAnyH_done (by kernel_rfl) ?_ _
              subst ha
              refine hM _ _ (Met.intro (hJ _ _ ⟨.slice A3 L.length c3, .slice A20 m c20, .slice A21 L.length c21, .slice A3 L.length c3, .bool true, .bool false, .bool false, .bool true, .bool false, .bool false, undef, undef, undef, undef, undef, undef, .bool false, .bool false, ⟨rfl, HX.out⟩, ?_⟩))
              kernel_rfl
          case rest =>
            obtain ⟨rfl, hx⟩ := hcut
            have HX := Lib.hid hx
            obtain ⟨m, hm⟩ : ∃ m, (endI S).length = m := ⟨_, rfl⟩
            have hm1 : m ≤ 1 := by have := endI_len S; omega
            obtain ⟨E, hE⟩ : ∃ E, endI S = E := ⟨_, rfl⟩
            have hmE : E.length = m := by rw [← hE]; exact hm
            have hdt : decI t = L ++ E := by unfold decI; rw [HF.out, ← hE]
            have hn2 : (L ++ E).length = L.length + m := by rw [List.length_append, hmE]
            have HEe := Lib.hid hE
            have HEm := Lib.hid hmE
            have HDt := Lib.hid hdt
            have HN2 := Lib.hid hn2
            have hbig : (L ++ E).length ≤ 1000000000 := by omega
            have HBig := Lib.hid hbig
            have htb : t.length ≤ 400000 := by omega
            clear hx hm hE hmE hdt hn2 hbig
            go_wp2_with (first
              | (go_at_call 17; go_must (refine (DecEnd_e S E HEe.out m HEm.out g1 _ HX.out.1).mono ?_); rintro e w30 ⟨b30, A30, c30, rfl, hr30, -, hf30⟩; have HR30 := Lib.hid hr30; have HO30 := Lib.hid (HX.out.2.2.1.fr hf30 (fun k hk he => HX.out.2.2.1.far HX.out.1 (he ▸ hk))); have HN30 := Lib.hid (Fr.cut HX.out.2.2.2.2 hf30 hwg); have z30 : g1 ≤ w30.heap.size := Nat.le_of_lt (Nat.lt_of_lt_of_le (Blk.lt HX.out.1) hf30.size); clear hr30 hf30)
              | (at_builtin; go_must (refine app32 rfl _ _ rfl g1 (.slice A3 L.length c3) L.length (R32 L) rfl HO30.out b30 A30 m c30 (R32 E) rfl HR30.out (by simp [R32, Value.oneCell']) (by omega) z30 ?_); intro v31 w31 hown31 hg31 hj31; clear hj31; have ho31 : Own32 w31 g1 v31 (L ++ E) := Own32.of hown31 HEm.out; have HN31 : Hid (New w w31) := Lib.hid (Fr.grown HN30.out hg31 (fun k hk => .inr (Nat.le_trans hwg (HO30.out.lt hk).1))); obtain ⟨b31, A31, c31, rfl, hr31, -⟩ := ho31.rdn (L.length + m) HN2.out; have HR31 := Lib.hid hr31; clear hown31 hg31 ho31 hr31)
              | (go_at_call 11; go_must (refine (Decode_e t HT.out (L ++ E) HDt.out (L.length + m) HN2.out _ b A cap t.length rfl (HR.out.new HN31.out) htb).mono ?_); rintro e w32 ⟨b32, A32, c32, rfl, hr32, hf32⟩; have HR32 := Lib.hid hr32; have HF32 := Lib.hid hf32; clear hr32 hf32)
              | (go_at_call 10; go_must (refine (Same_n (L ++ E) (L ++ E) (L.length + m) (L.length + m) HN2.out HN2.out _ b31 b32 A31 A32 c31 c32 (HR31.out.new HF32.out) HR32.out HBig.out rfl).mono ?_); rintro e w33 ⟨rfl, hf33⟩; have HN33 : Hid (New w w33) := Lib.hid ((HN31.out.trans HF32.out).trans hf33); clear hf33)
              | (go_at_call 9; go_must (refine (known_any _).mono ?_); rintro e w34 ⟨rfl, hk34⟩))
            go_ret
            exact ⟨rfl, HN33.out.trans hk34⟩

theorem holds_walk (a0 : Option Addr) (len0 cap0 : Nat) (z0 : List Int) (a1 a2 : Int) (w : World) (w0 : RowIn .u8 w a0 len0 cap0 z0) (w1 : (Lit.int .u8 a1).wf = true) (w2 : (Lit.int .u8 a2).wf = true) :
    Calls Try.prog 8 #[.slice a0 len0 cap0, .int .u8 a1, .int .u8 a2] w fun e w' => e = .returned (.bool true) ∧ Below w.heap.size w w' := by
  obtain ⟨t, b, rfl, ht, hr⟩ := w0.bytes
  have b1 := bounds_u8 w1
  have b2 := bounds_u8 w2
  by_cases hn : t.length ≤ 150
  · refine (holds_short t ht a1 a2 (by omega) (by omega) a0 b cap0 ?_ w hr ?_ hn).mono fun _ _ h => ⟨h.1, h.2.new_below⟩
    · rcases w0 with ⟨_, h2, h3, _⟩ | ⟨_, _, h2, _⟩ <;> omega
    · intro h
      obtain ⟨_, _, h2, _⟩ := hr.2 h
      exact h2
  · exact (holds_long a0 t.length cap0 a1 a2 (by omega) w).mono fun _ _ h => ⟨h.1, h.2.new_below⟩

end Go.Proofs.Ytdkkdicgjhjinaa
