/-
  THE THEOREM OF STAGE 2.
-/
import Derived.Test.YtlfhoiamacbfhaaDoorTables
import Derived.Test.YtlfhoiamacbfhaaDoorOwn
import Derived.Deep.CutRange
import Derived.Deep.QuietTactic
import Derived.BigQuiet
namespace Go.Proofs.YtlfhoiamacbfhaaDoor
open Go.RowKit

theorem bounds_u8 {n : Int} (h : (Lit.int .u8 n).wf = true) : 0 ≤ n ∧ n < 256 := by
  have : 0 ≤ n ∧ n ≤ 255 := by simpa [Lit.wf, IntKind.min, IntKind.max, IntKind.signed, IntKind.bits] using h
  omega

set_option maxHeartbeats 1600000 in
theorem holds_long (A B : Option Addr) (la lb ca cb : Nat) (n m : Int) (hlong : ¬ (la ≤ 60 ∧ lb ≤ 60 ∧ n ≤ 200 ∧ m ≤ 200)) (w : World) (hT : Tab w) :
    Calls Tryd.prog 6 #[.slice A la ca, .slice B lb cb, .int .u8 n, .int .u8 m] w fun e w' => e = .returned (.bool true) ∧ New w w' := by
  have H := Lib.hid hT
  clear hT
  by_cases h1 : la ≤ 60
  · have g1 : ¬ (60 : Int) < (la : Int) := by omega
    by_cases h2 : lb ≤ 60
    · have g2 : ¬ (60 : Int) < (lb : Int) := by omega
      by_cases h3 : n ≤ 200
      · have g3 : ¬ 200 < n := by omega
        have g4 : 200 < m := by
          rcases Int.lt_or_le 200 m with h | h
          · exact h
          · exact absurd ⟨h1, h2, h3, h⟩ hlong
        clear hlong
        go_enter Tryd.func6, Tryd.ntmps6
        go_wp2_with fail
        refine (known_any _ H.out).mono ?_
        rintro e w1 ⟨rfl, hk⟩
        go_wp2_with fail
        go_ret
        exact ⟨rfl, hk⟩
      · have g3 : 200 < n := by omega
        clear hlong
        go_enter Tryd.func6, Tryd.ntmps6
        go_wp2_with fail
        refine (known_any _ H.out).mono ?_
        rintro e w1 ⟨rfl, hk⟩
        go_wp2_with fail
        go_ret
        exact ⟨rfl, hk⟩
    · have g2 : (60 : Int) < (lb : Int) := by omega
      clear hlong
      go_enter Tryd.func6, Tryd.ntmps6
      go_wp2_with fail
      refine (known_any _ H.out).mono ?_
      rintro e w1 ⟨rfl, hk⟩
      go_wp2_with fail
      go_ret
      exact ⟨rfl, hk⟩
  · have g1 : (60 : Int) < (la : Int) := by omega
    clear hlong
    go_enter Tryd.func6, Tryd.ntmps6
    go_wp2_with fail
    refine (known_any _ H.out).mono ?_
    rintro e w1 ⟨rfl, hk⟩
    go_wp2_with fail
    go_ret
    exact ⟨rfl, hk⟩

/-- Both tables, given out, and the list of both. -/
structure Two (W : World) (b1 b2 B : Nat) : Prop where
  m : Rg W b1 marksL
  w : Rg W b2 wideL
  lt : b1 < W.heap.size ∧ b2 < W.heap.size ∧ B < W.heap.size
  c0 : W.cell? ⟨B, 0, none⟩ = some (.slice (some ⟨b1, 0, none⟩) 18 18)
  c1 : W.cell? ⟨B, 1, none⟩ = some (.slice (some ⟨b2, 0, none⟩) 19 19)
theorem Two.at_ {W W' : World} {b1 b2 B : Nat} (h : Two W b1 b2 B) (hf : New W W') {k : Nat} (hk : k < 2) :
    ∃ (b n : Nat) (l : List (Int × Int)), W'.cell? ⟨B, k, none⟩ = some (.slice (some ⟨b, 0, none⟩) n n) ∧ l.length = n ∧ n ≤ 19 ∧ Sorted l ∧ Rg W' b l := by
  rcases (by omega : k = 0 ∨ k = 1) with rfl | rfl
  · exact ⟨b1, 18, marksL, (hf.cell (p := ⟨B, 0, none⟩) h.lt.2.2 (fun h => h)).trans h.c0, rfl, by omega, marks_sorted, h.m.new hf⟩
  · exact ⟨b2, 19, wideL, (hf.cell (p := ⟨B, 1, none⟩) h.lt.2.2 (fun h => h)).trans h.c1, rfl, by omega, wide_sorted, h.w.new hf⟩
theorem Two.mk' {W0 W1 : World} {b1 b2 : Nat} {t : TypeId} (h1 : Rg W0 b1 marksL) (h2 : Rg W0 b2 wideL) (hW : W1 = W0.alloc (.cells #[.slice (some ⟨b1, 0, none⟩) 18 18, .slice (some ⟨b2, 0, none⟩) 19 19] t)) : Two W1 b1 b2 W0.heap.size := by
  subst hW
  have hb := Blk.new W0 t #[.slice (some ⟨b1, 0, none⟩) 18 18, .slice (some ⟨b2, 0, none⟩) 19 19]
  exact ⟨h1.new (New.alloc _), h2.new (New.alloc _), ⟨Nat.lt_of_lt_of_le h1.1 (by simp), Nat.lt_of_lt_of_le h2.1 (by simp), by simp⟩, hb.cell 0, hb.cell 1⟩

theorem apart : ∀ j, j < 18 → ∀ k, k < 19 → lo marksL j ≤ hi wideL k → ¬ lo wideL k ≤ hi marksL j := by decide

set_option maxRecDepth 100000 in
set_option maxHeartbeats 8000000 in
theorem holds_short (la lb : List Int) (na nb : Nat) (hna : la.length = na) (hnb : lb.length = nb) (ha : na ≤ 60) (hb : nb ≤ 60) (n m : Int) (hn : 0 ≤ n ∧ n ≤ 200) (hm : 0 ≤ m ∧ m ≤ 200)
    (A B : Option Addr) (ba bb ca cb : Nat) (w : World) (hT : Tab w) (hra : Rd w ba A na (R32 la)) (hrb : Rd w bb B nb (R32 lb)) :
    Calls Tryd.prog 6 #[.slice A na ca, .slice B nb cb, .int .u8 n, .int .u8 m] w fun e w' => e = .returned (.bool true) ∧ New w w' := by
  have H := Lib.hid hT
  have RA := Lib.hid hra
  have RB := Lib.hid hrb
  have LA := Lib.hid hna
  have LB := Lib.hid hnb
  clear hT hra hrb hna hnb
  obtain ⟨hn0, hn1⟩ := hn
  obtain ⟨hm0, hm1⟩ := hm
  have g1 : ¬ (60 : Int) < (na : Int) := by omega
  have g2 : ¬ (60 : Int) < (nb : Int) := by omega
  have g3 : ¬ 200 < n := by omega
  have g4 : ¬ 200 < m := by omega
  go_enter Tryd.func6, Tryd.ntmps6
  go_wp2_with fail
  refine (Marks_any _ H.out).mono ?_
  rintro e w1 ⟨b1, rfl, hb1, -, h1⟩
  have B1 := Lib.hid (Rg.of_blk hb1)
  have G1 := Lib.hid h1
  clear h1 hb1
  go_wp2_with fail
  refine (Wide_any _ (H.out.new G1.out)).mono ?_
  rintro e w2 ⟨b2, rfl, hb2, -, h2⟩
  have B2 := Lib.hid (Rg.of_blk hb2)
  have B12 := Lib.hid (B1.out.new h2)
  have G2 := Lib.hid (G1.out.trans h2)
  clear h2 hb2
  go_wp2_with fail
  obtain ⟨W0, hW0⟩ : ∃ W0, W0 = w2.alloc (.cells #[.slice (some ⟨b1, 0, none⟩) 18 18, .slice (some ⟨b2, 0, none⟩) 19 19] 27) := ⟨_, rfl⟩
  have T := Lib.hid (Two.mk' B12.out B2.out hW0)
  have G3 : Hid (New w W0) := Lib.hid (by rw [hW0]; exact G2.out.trans (New.alloc _))
  rw [← hW0]
  clear hW0
  generalize w2.heap.size = gB at *
  go_loopw [40] (fun i wr => ∃ k : Nat, k ≤ 2 ∧ i = .int .i64 k ∧ New W0 wr) (fun i _ => 2 - (intOf i).toNat)
  case atStart => exact ⟨0, by omega, rfl, Fr.refl _ _⟩
  case round =>
    obtain ⟨k, hk, rfl, hnew⟩ := hrel
    have HW := Lib.hid hnew
    clear hnew
    by_cases hlt : k < 2
    · have j1 : (k : Int) < 2 := by omega
      obtain ⟨bl, nl, l, hcl, hll, hnl, hso, hrg⟩ := T.out.at_ HW.out hlt
      have HS := Lib.hid hso
      have HR := Lib.hid hrg
      have HL := Lib.hid hll
      clear hso hrg hll
      rename World => wo
      go_wp2_with fail
      go_loopw [46] (fun i wx => ∃ j : Nat, j ≤ nl ∧ i = .int .i64 j ∧ New wo wx) (fun i _ => nl - (intOf i).toNat)
      case atStart => exact ⟨0, by omega, rfl, Fr.refl _ _⟩
      case round =>
        obtain ⟨j, hj, rfl, hnew⟩ := hrel
        have HX := Lib.hid hnew
        clear hnew
        by_cases hjt : j < nl
        · have j2 : (j : Int) < (nl : Int) := by omega
          have c1 := ((HR.out.new HX.out).2 j (by rw [HL.out]; exact hjt)).1
          have c2 := ((HR.out.new HX.out).2 j (by rw [HL.out]; exact hjt)).2
          have s1 := (HS.out j (by rw [HL.out]; exact hjt)).1
          obtain ⟨x, hx⟩ : ∃ x, lo l j = x := ⟨_, rfl⟩
          obtain ⟨y, hy⟩ : ∃ y, hi l j = y := ⟨_, rfl⟩
          rw [hx] at c1 s1
          rw [hy] at c2 s1
          clear hy
          have s0 : decide (y < x) = false := by simp; omega
          by_cases hj0 : 0 < j
          · have j3 : (0 : Int) < (j : Int) := by omega
            have s2 := sorted_lt HS.out (j - 1) j (by omega) (by rw [HL.out]; exact hjt)
            rw [hx] at s2
            obtain ⟨z, hz⟩ : ∃ z, hi l (j - 1) = z := ⟨_, rfl⟩
            have c3 := ((HR.out.new (HX.out.trans (New.alloc (.cells #[.int .i32 x, .int .i32 y] 30)))).2 (j - 1) (by rw [HL.out]; omega)).2
            rw [hz] at s2 c3
            clear hx hz
            have s3 : decide (x ≤ z) = false := by simp; omega
            go_wp2_with fail
            have B0 := Blk.new wr 30 #[.int .i32 x, .int .i32 y]
            have d0 := B0.cell 0
            have d1 := B0.cell 1
            have N1 : Hid (New wo (wr.alloc (.cells #[.int .i32 x, .int .i32 y] 30))) := Lib.hid (HX.out.trans (New.alloc _))
            clear B0 c1 c2
            generalize wr.alloc (.cells #[.int .i32 x, .int .i32 y] 30) = W1 at *
            generalize wr.heap.size = g at *
            simp at d0 d1
            go_quiet (fail)
            go_wp2
            go_roundw
            case rel => exact ⟨j + 1, by omega, by go_num, N1.out.drewN _⟩
            case measure => simp [intOf]; omega
          · have j3 : decide ((0 : Int) < (j : Int)) = false := by simp; omega
            clear hx
            go_wp2_with fail
            have B0 := Blk.new wr 30 #[.int .i32 x, .int .i32 y]
            have d0 := B0.cell 0
            have d1 := B0.cell 1
            have N1 : Hid (New wo (wr.alloc (.cells #[.int .i32 x, .int .i32 y] 30))) := Lib.hid (HX.out.trans (New.alloc _))
            clear B0 c1 c2
            generalize wr.alloc (.cells #[.int .i32 x, .int .i32 y] 30) = W1 at *
            generalize wr.heap.size = g at *
            simp at d0 d1
            go_quiet (fail)
            go_wp2
            go_roundw
            case rel => exact ⟨j + 1, by omega, by go_num, N1.out.drewN _⟩
            case measure => simp [intOf]; omega
        · have j2 : ¬ (j : Int) < (nl : Int) := by omega
          go_wp2_with fail
          go_roundw
          case rel => exact ⟨k + 1, by omega, by go_num, HW.out.trans HX.out⟩
          case measure => simp [intOf]; omega
    · have j1 : ¬ (k : Int) < 2 := by omega
      go_wp2_with fail
      have HW' := Lib.hid (G3.out.trans HW.out)
      rename World => wo
      refine (Marks_any _ (H.out.new HW'.out)).mono ?_
      rintro e w3 ⟨b3, rfl, hb3, -, h3⟩
      have G4 := Lib.hid (HW'.out.trans h3)
      have B3 := Lib.hid (Rg.of_blk hb3)
      clear h3 hb3
      go_wp2_with fail
      go_loopw [75] (fun i wx => ∃ j : Nat, j ≤ 18 ∧ i = .int .i64 j ∧ New w3 wx) (fun i _ => 18 - (intOf i).toNat)
      case atStart => exact ⟨0, by omega, rfl, Fr.refl _ _⟩
      case round =>
        obtain ⟨j, hj, rfl, hnew⟩ := hrel
        have HX := Lib.hid hnew
        clear hnew
        by_cases hjt : j < 18
        · have j2 : (j : Int) < 18 := by omega
          have c1 := ((B3.out.new HX.out).2 j hjt).1
          have c2 := ((B3.out.new HX.out).2 j hjt).2
          have AP := Lib.hid (apart j hjt)
          obtain ⟨x, hx⟩ : ∃ x, lo marksL j = x := ⟨_, rfl⟩
          obtain ⟨y, hy⟩ : ∃ y, hi marksL j = y := ⟨_, rfl⟩
          rw [hx] at c1 AP
          rw [hy] at c2 AP
          clear hx hy
          go_wp2_with fail
          have BX := Lib.hid (Blk.new wr 30 #[.int .i32 x, .int .i32 y])
          have NX : Hid (New w3 (wr.alloc (.cells #[.int .i32 x, .int .i32 y] 30))) := Lib.hid (HX.out.trans (New.alloc _))
          clear c1 c2
          generalize wr.alloc (.cells #[.int .i32 x, .int .i32 y] 30) = W1 at *
          generalize wr.heap.size = gx at *
          refine (Wide_any _ (H.out.new (G4.out.trans NX.out))).mono ?_
          rintro e w4 ⟨b4, rfl, hb4, -, h4⟩
          have G5 := Lib.hid (NX.out.trans h4)
          have BX4 := Lib.hid (BX.out.fr h4 (fun h => h))
          have B4 := Lib.hid (Rg.of_blk hb4)
          clear h4 hb4
          go_wp2_with fail
          go_loopw [81] (fun i wx => ∃ q : Nat, q ≤ 19 ∧ i = .int .i64 q ∧ New w4 wx) (fun i _ => 19 - (intOf i).toNat)
          case atStart => exact ⟨0, by omega, rfl, Fr.refl _ _⟩
          case round =>
            obtain ⟨q, hq, rfl, hnew⟩ := hrel
            have HY := Lib.hid hnew
            clear hnew
            by_cases hqt : q < 19
            · have j3 : (q : Int) < 19 := by omega
              have c1 := ((B4.out.new HY.out).2 q hqt).1
              have c2 := ((B4.out.new HY.out).2 q hqt).2
              have ap := AP.out q hqt
              obtain ⟨u, hu⟩ : ∃ u, lo wideL q = u := ⟨_, rfl⟩
              obtain ⟨v, hv⟩ : ∃ v, hi wideL q = v := ⟨_, rfl⟩
              rw [hu] at c1 ap
              rw [hv] at c2 ap
              clear hu hv
              have BY := Blk.new wr 30 #[.int .i32 u, .int .i32 v]
              have d0 := BY.cell 0
              have d1 := BY.cell 1
              have BZ := BX4.out.fr (HY.out.trans (New.alloc (.cells #[.int .i32 u, .int .i32 v] 30))) (fun h => h)
              have d2 := BZ.cell 0
              have d3 := BZ.cell 1
              have N1 : Hid (New w4 (wr.alloc (.cells #[.int .i32 u, .int .i32 v] 30))) := Lib.hid (HY.out.trans (New.alloc _))
              clear BY BZ
              simp at d0 d1 d2 d3
              by_cases hp : x ≤ v
              · have hp2 := ap hp
                clear ap
                go_wp2_with fail
                go_roundw
                case rel => exact ⟨q + 1, by omega, by go_num, N1.out⟩
                case measure => simp [intOf]; omega
              · clear ap
                go_wp2_with fail
                go_roundw
                case rel => exact ⟨q + 1, by omega, by go_num, N1.out⟩
                case measure => simp [intOf]; omega
            · have j3 : ¬ (q : Int) < 19 := by omega
              go_wp2_with fail
              go_roundw
              case rel => exact ⟨j + 1, by omega, by go_num, G5.out.trans HY.out⟩
              case measure => simp [intOf]; omega
        · have j2 : ¬ (j : Int) < 18 := by omega
          have G6 := Lib.hid (G4.out.trans HX.out)
          rename World => w5
          have RA5 := Lib.hid (RA.out.new G6.out)
          have RB5 := Lib.hid (RB.out.new G6.out)
          go_wp2_with (first
            | (at_builtin; refine app32 rfl _ _ rfl w5.heap.size (.slice none 0 0) 0 [] rfl (World.ownsRow_nil _ _ _ _) ba A na ca (R32 la) rfl RA5.out (by simp [R32, Value.oneCell']) (by omega) (Nat.le_refl _) ?_; intro v6 w6 hown6 hg6; have O6 : Hid (w6.ownsRow w5.heap.size 21 1 v6 na (R32 la)) := Lib.hid (by simpa using hown6); have N6 : Hid (New w5 w6) := Lib.hid (Fr.grown (Fr.refl _ _) hg6 (by simp [Value.ownBlock])); clear hown6 hg6)
            | (at_builtin; refine app32 rfl _ _ rfl w5.heap.size v6 na (R32 la) rfl O6.out bb B nb cb (R32 lb) rfl (RB5.out.new N6.out) (by simp [R32, Value.oneCell']) (by omega) N6.out.size ?_; intro v7 w7 hown7 hg7; have N7 : Hid (New w5 w7) := Lib.hid (Fr.grown N6.out hg7 (fun k hk => .inr (World.ownsRow.lt O6.out k hk).1)); obtain ⟨b7, A7, c7, rfl, hc7, hr7⟩ := own_rd hown7; have R7 : Hid (Rd w7 b7 A7 (na + nb) (R32 (la ++ lb))) := Lib.hid (by rw [R32, List.map_append]; exact hr7); clear hown7 hg7 hr7)
            | fail)
          have G7 := Lib.hid (G6.out.trans N7.out)
          have RA7 := Lib.hid (RA.out.new G7.out)
          have RB7 := Lib.hid (RB.out.new G7.out)
          obtain ⟨L, hL⟩ : ∃ L, la ++ lb = L := ⟨_, rfl⟩
          obtain ⟨N, hN⟩ : ∃ N, na + nb = N := ⟨_, rfl⟩
          have LN : Hid (L.length = N) := Lib.hid (by rw [← hL, List.length_append, LA.out, LB.out, hN])
          have SS : Hid (textI L = textI la + textI lb) := Lib.hid (by rw [← hL, text_append])
          have ba1 := text_bound la
          have bb1 := text_bound lb
          rw [LA.out] at ba1
          rw [LB.out] at bb1
          have hNb : N ≤ 120 := by omega
          rw [hL] at R7
          rw [hN] at R7 hc7
          rw [hN]
          clear hL
          obtain ⟨sa, hsa⟩ : ∃ s, textI la = s := ⟨_, rfl⟩
          obtain ⟨sb, hsb⟩ : ∃ s, textI lb = s := ⟨_, rfl⟩
          have SA := Lib.hid hsa
          have SB := Lib.hid hsb
          rw [hsa] at SS ba1
          rw [hsb] at SS bb1
          clear hsa hsb
          obtain ⟨ba2, ba3⟩ := ba1
          obtain ⟨bb2, bb3⟩ := bb1
          have ba4 : sa ≤ 120 := by omega
          have bb4 : sb ≤ 120 := by omega
          clear ba3 bb3
          refine (Text_n L N LN.out (by omega) (sa + sb) SS.out _ (H.out.new G7.out) _ _ _ R7.out).mono ?_
          rintro e w8 ⟨rfl, h8⟩
          have G8 := Lib.hid (G7.out.trans h8)
          have RA8 := Lib.hid (RA7.out.new h8)
          have RB8 := Lib.hid (RB7.out.new h8)
          have R8 := Lib.hid (R7.out.new h8)
          clear h8
          go_wp2_with fail
          refine (Text_n la na LA.out (by omega) sa SA.out _ (H.out.new G8.out) _ _ _ RA8.out).mono ?_
          rintro e w9 ⟨rfl, h9⟩
          have G9 := Lib.hid (G8.out.trans h9)
          have RB9 := Lib.hid (RB8.out.new h9)
          have R9 := Lib.hid (R8.out.new h9)
          clear h9
          go_wp2_with fail
          refine (Text_n lb nb LB.out (by omega) sb SB.out _ (H.out.new G9.out) _ _ _ RB9.out).mono ?_
          rintro e w10 ⟨rfl, h10⟩
          have G10 := Lib.hid (G9.out.trans h10)
          have R10 := Lib.hid (R9.out.new h10)
          clear h10
          go_wp2_with fail
          obtain ⟨K, hK⟩ : ∃ K, fitsI L n = K := ⟨_, rfl⟩
          have HK := Lib.hid hK
          have k1 := fits_le L n
          have k2 := fits_text L n hn0
          have k3 := fits_more L n
          have k4 := fits_mono L n (n + m) (by omega)
          rw [hK] at k1 k2 k3 k4
          rw [LN.out] at k1 k3
          clear hK
          refine (Fits_n L N LN.out (by omega) n (by omega) K (by rw [HK.out]) _ (H.out.new G10.out) _ _ _ R10.out).mono ?_
          rintro e w11 ⟨rfl, h11⟩
          have G11 := Lib.hid (G10.out.trans h11)
          have R11 := Lib.hid (R10.out.new h11)
          clear h11
          obtain ⟨s1, hs1⟩ : ∃ s, textI (L.take K) = s := ⟨_, rfl⟩
          rw [hs1] at k2
          have S1 := Lib.hid hs1
          have K3 := Lib.hid k3
          obtain ⟨K', hK'⟩ : ∃ K', fitsI L (n + m) = K' := ⟨_, rfl⟩
          rw [hK'] at k4
          have HK' := Lib.hid hK'
          clear hs1 k3 hK'
          have q1 : ¬ (K : Int) < 0 := by omega
          have q2 : ¬ (N : Int) < (K : Int) := by omega
          have q3 : K ≤ c7 := by omega
          have q4 : ¬ n < s1 := by omega
          have q5 : (K : Int) ≤ (K' : Int) := by omega
          go_wp2_with fail
          refine (Text_n (L.take K) K (by rw [List.length_take, LN.out]; omega) (by omega) s1 S1.out _ (H.out.new G11.out) _ _ _ (R11.out.take k1)).mono ?_
          rintro e w12 ⟨rfl, h12⟩
          have G12 := Lib.hid (G11.out.trans h12)
          have R12 := Lib.hid (R11.out.new h12)
          clear h12
          by_cases hless : K < N
          · have q6 : (K : Int) < (N : Int) := by omega
            obtain ⟨s2, hs2⟩ : ∃ s, textI (L.take (K + 1)) = s := ⟨_, rfl⟩
            have q7 := K3.out hless
            rw [hs2] at q7
            have S2 := Lib.hid hs2
            clear hs2
            have q8 : ¬ s2 ≤ n := by omega
            have q9 : K + 1 ≤ c7 := by omega
            go_wp2_with fail
            refine (Text_n (L.take (K + 1)) (K + 1) (by rw [List.length_take, LN.out]; omega) (by omega) s2 S2.out _ (H.out.new G12.out) _ _ _ (R12.out.take (by omega))).mono ?_
            rintro e w13 ⟨rfl, h13⟩
            have G13 := Lib.hid (G12.out.trans h13)
            have R13 := Lib.hid (R12.out.new h13)
            clear h13
            go_wp2_with fail
            refine (Fits_n L N LN.out (by omega) (n + m) (by omega) K' (by rw [HK'.out]) _ (H.out.new G13.out) _ _ _ R13.out).mono ?_
            rintro e w20 ⟨rfl, h20⟩
            have G20 := Lib.hid (G13.out.trans h20)
            clear h20
            go_wp2_with fail
            refine (known_any _ (H.out.new G20.out)).mono ?_
            rintro e w21 ⟨rfl, h21⟩
            have G21 := Lib.hid (G20.out.trans h21)
            clear h21
            go_wp2_with fail
            go_ret
            exact ⟨rfl, G21.out⟩
          · have q6 : ¬ (K : Int) < (N : Int) := by omega
            go_wp2_with fail
            refine (Fits_n L N LN.out (by omega) (n + m) (by omega) K' (by rw [HK'.out]) _ (H.out.new G12.out) _ _ _ R12.out).mono ?_
            rintro e w20 ⟨rfl, h20⟩
            have G20 := Lib.hid (G12.out.trans h20)
            clear h20
            go_wp2_with fail
            refine (known_any _ (H.out.new G20.out)).mono ?_
            rintro e w21 ⟨rfl, h21⟩
            have G21 := Lib.hid (G20.out.trans h21)
            clear h21
            go_wp2_with fail
            go_ret
            exact ⟨rfl, G21.out⟩

theorem widthHolds_walk (a0 : Option Addr) (len0 cap0 : Nat) (z0 : List Int) (a1 : Option Addr) (len1 cap1 : Nat) (z1 : List Int) (a2 a3 : Int) (w : World) (w0 : RowIn .i32 w a0 len0 cap0 z0) (w1 : RowIn .i32 w a1 len1 cap1 z1) (w2 : (Lit.int .u8 a2).wf = true) (w3 : (Lit.int .u8 a3).wf = true) (hT : Tab w) :
    Calls Tryd.prog 6 #[.slice a0 len0 cap0, .slice a1 len1 cap1, .int .u8 a2, .int .u8 a3] w fun e w' => e = .returned (.bool true) ∧ Below w.heap.size w w' := by
  obtain ⟨la, ba, hla, hra⟩ := w0.read
  obtain ⟨lb, bb, hlb, hrb⟩ := w1.read
  have b2 := bounds_u8 w2
  have b3 := bounds_u8 w3
  by_cases hs : len0 ≤ 60 ∧ len1 ≤ 60 ∧ a2 ≤ 200 ∧ a3 ≤ 200
  · exact (holds_short la lb len0 len1 hla hlb hs.1 hs.2.1 a2 a3 ⟨b2.1, hs.2.2.1⟩ ⟨b3.1, hs.2.2.2⟩ a0 a1 ba bb cap0 cap1 w hT hra hrb).mono fun _ _ h => ⟨h.1, h.2.new_below⟩
  · exact (holds_long a0 a1 len0 len1 cap0 cap1 a2 a3 hs w hT).mono fun _ _ h => ⟨h.1, h.2.new_below⟩

end Go.Proofs.YtlfhoiamacbfhaaDoor
