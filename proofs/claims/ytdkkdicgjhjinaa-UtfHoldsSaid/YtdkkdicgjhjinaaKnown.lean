/-
  The chapter's examples.
-/
import Derived.Test.YtdkkdicgjhjinaaCalls
namespace Go.Proofs.Ytdkkdicgjhjinaa
open Go.RowKit

theorem of_nat_u8 (b : UInt8) : UInt8.ofNat ((b.toNat : Int)).toNat = b := by simp
theorem str_of_nums (s : ByteArray) : strOfNums (nums s) = s := by
  unfold strOfNums nums
  rw [List.map_map]
  have : ((fun n : Int => UInt8.ofNat n.toNat) ∘ fun b : UInt8 => (b.toNat : Int)) = id := by
    funext b
    exact of_nat_u8 b
  rw [this, List.map_id]

theorem beq_str {a b : ByteArray} (h : a = b) : (a.toList == b.toList) = true := by subst h; simp
theorem bne_str {a b : ByteArray} (h : a = b) : (a.toList != b.toList) = false := by subst h; simp

theorem conv_back {w : World} {b n : Nat} {A : Option Addr} {s : ByteArray} (h : Rd w b A n (B8 (nums s))) (c : Nat) :
    (convert 22 9 (.slice A n c)).run Try.prog w = .ok (.string s) w := by
  have := conv_bytes h c
  rwa [str_of_nums] at this

set_option maxHeartbeats 400000 in
theorem encodes_any (s : ByteArray) (l : List Int) (w : World) (b : Nat) (A : Option Addr) (cap : Nat) (hr : Rd w b A l.length (R32 l)) (he : runesBytes l = s) :
    Calls Try.prog 24 #[.string s, .slice A l.length cap] w fun e w' => e = .returned (.bool true) ∧ New w w' := by
  have HR := Lib.hid hr
  have HE := Lib.hid he
  clear hr he
  go_enter Try.func24, Try.ntmps24
  go_wp2_with (go_at_call 21; refine (Encode_any l _ b A cap HR.out).mono ?_; rintro e w1 ⟨c, rfl, h1, h2⟩; have hcv := conv_back h1 c; have HN := Lib.hid h2; clear h1 h2)
  go_ret
  exact ⟨ret_bool (beq_str HE.out), HN.out⟩

set_option maxHeartbeats 400000 in
theorem decodes_any (s : ByteArray) (hs : s.size ≤ 400000) (l : List Int) (w : World) (b : Nat) (A : Option Addr) (cap : Nat) (hr : Rd w b A l.length (R32 l)) (hl : l.length ≤ 1000000000) :
    Calls Try.prog 23 #[.string s, .slice A l.length cap] w fun e w' => e = .returned (.bool (decide (decI (nums s) = l))) ∧ New w w' := by
  have HR := Lib.hid hr
  clear hr
  obtain ⟨c, w1, h1, h2, h3⟩ := conv_str w s
  have hdl : (decI (nums s)).length ≤ 1000000000 := by
    have := decI_len (nums s)
    rw [nums_size] at this
    omega
  rw [← nums_size] at h1 h2
  have H2 := Lib.hid h2
  have H3 := Lib.hid h3
  clear h2 h3
  go_enter Try.func23, Try.ntmps23
  go_wp2_with (first
    | (go_at_call 11; refine (Decode_any (nums s) (nums_bytes s) _ w.heap.size _ c H2.out (by rw [nums_size]; exact hs)).mono ?_; rintro e w2 ⟨v2, rfl, h4, h5⟩; obtain ⟨b2, A2, c2, rfl, h6, _⟩ := h4.rd; have H6 := Lib.hid h6; have H5 := Lib.hid h5; clear h4 h5 h6)
    | (go_at_call 10; refine (Same_any _ l _ b2 b A2 A c2 cap H6.out ((HR.out.new H3.out).new H5.out) hdl hl).mono ?_; rintro e w3 ⟨rfl, k, rfl⟩))
  go_ret
  exact ⟨rfl, Fr.drewN (Fr.trans H3.out H5.out (fun _ _ h => h)) _⟩

theorem decodes_true (s : ByteArray) (l : List Int) (he : decI (nums s) = l) (hs : s.size ≤ 400000) (hl : l.length ≤ 1000000000) (n : Nat) (hn : l.length = n) (w : World) (b : Nat) (A : Option Addr) (cap : Nat) (hr : Rd w b A n (R32 l)) :
    Calls Try.prog 23 #[.string s, .slice A n cap] w fun e w' => e = .returned (.bool true) ∧ New w w' := by
  subst hn
  refine (decodes_any s hs l w b A cap hr hl).mono ?_
  rintro e w' ⟨rfl, h⟩
  exact ⟨ret_bool (decide_eq_true he), h⟩
theorem encodes_true (s : ByteArray) (l : List Int) (he : runesBytes l = s) (n : Nat) (hn : l.length = n) (w : World) (b : Nat) (A : Option Addr) (cap : Nat) (hr : Rd w b A n (R32 l)) :
    Calls Try.prog 24 #[.string s, .slice A n cap] w fun e w' => e = .returned (.bool true) ∧ New w w' := by
  subst hn
  exact encodes_any s l w b A cap hr he

theorem ex1 : decI (nums ⟨#[97, 195, 169, 226, 130, 172, 240, 159, 152, 128]⟩) = [97, 233, 8364, 128512] := by decide
theorem ex2 : runesBytes [97, 233, 8364, 128512] = ⟨#[97, 195, 169, 226, 130, 172, 240, 159, 152, 128]⟩ := by decide
theorem ex3 : decI (nums ⟨#[226, 130, 65]⟩) = [65533, 65] := by decide
theorem ex4 : decI (nums ⟨#[192, 175]⟩) = [65533, 65533] := by decide
theorem ex5 : decI (nums ⟨#[237, 160, 128]⟩) = [65533, 65533, 65533] := by decide
theorem ex6 : decI (nums ⟨#[244, 144, 128, 128]⟩) = [65533, 65533, 65533, 65533] := by decide
theorem ex7 : decI (nums ⟨#[226, 130]⟩) = [65533] := by decide
theorem ex8 : runesBytes [55296, 1114112, -1] = ⟨#[239, 191, 189, 239, 191, 189, 239, 191, 189]⟩ := by decide
theorem ex9 : feedI [] [240, 159] = ([240, 159], []) := by decide
theorem ex10 : stepI [240, 159] 152 = ([240, 159, 152], []) := by decide
theorem ex11 : stepI [240, 159, 152] 195 = ([195], [65533]) := by decide
theorem ex12 : stepI [195] 169 = ([], [233]) := by decide

theorem rd_at {w : World} (t : TypeId) (cs : Array Value) (n : Nat) (xs : List Value) (h : xs = cs.toList) (hn : xs.length = n) (H : Nat) (hH : w.heap.size = H) : Rd (w.alloc (.cells cs t)) H (some ⟨H, 0, none⟩) n xs := by
  subst hH
  exact rd_new t cs n xs h hn
theorem Fr.cut {a b c : World} {g : Nat} (h : New a b) (k : Fr (· = g) b c) (hg : a.heap.size ≤ g) : New a c := Fr.trans h k (fun i hi e => by omega)
theorem New.trans {a b c : World} (h : New a b) (k : New b c) : New a c := Fr.trans h k (fun _ _ h => h)
theorem New.alloc {a : World} (o : Obj) : New a (a.alloc o) := Fr.alloc (Fr.refl _ _) _

theorem Feed_n (s t : List Int) (ht : Bytes t) (hs : PV s) (g : Nat) (w : World) (h : Dec w g s) (b : Nat) (hbg : 0 < t.length → b ≠ g) (A : Option Addr) (cap n : Nat) (hn : t.length = n) (hr : Rd w b A n (B8 t)) (hlen : t.length ≤ 400000) (s' l' : List Int) (he : feedI s t = (s', l')) :
    Calls Try.prog 22 #[.pointer (some ⟨g, 0, none⟩), .slice A n cap] w fun e w' =>
      ∃ b A c, e = .returned (.slice A l'.length c) ∧ Rd w' b A l'.length (R32 l') ∧ Dec w' g s' ∧ Fr (· = g) w w' := by
  subst hn
  refine (Feed_any s t ht hs g w h b hbg A cap hr hlen).mono ?_
  rintro e w' ⟨v', rfl, ho, hd, hf⟩
  rw [he] at ho hd
  obtain ⟨b', A', c', rfl, hrd, _⟩ := ho.rd
  exact ⟨b', A', c', rfl, hrd, hd, hf⟩
theorem Step_n (s : List Int) (c : Int) (hc0 : 0 ≤ c) (hs : PV s) (g : Nat) (w : World) (h : Dec w g s) (s' l' : List Int) (he : stepI s c = (s', l')) :
    Calls Try.prog 14 #[.pointer (some ⟨g, 0, none⟩), .int .u8 c] w fun e w' =>
      ∃ b A c, e = .returned (.slice A l'.length c) ∧ Rd w' b A l'.length (R32 l') ∧ Dec w' g s' ∧ Fr (· = g) w w' := by
  refine (Step_any s c hc0 hs g w h).mono ?_
  rintro e w' ⟨v', rfl, ho, hd, hf⟩
  rw [he] at ho hd
  obtain ⟨b', A', c', rfl, hrd, _⟩ := ho.rd
  exact ⟨b', A', c', rfl, hrd, hd, hf⟩
theorem DecEnd_n (s : List Int) (g : Nat) (w : World) (h : Dec w g s) :
    Calls Try.prog 17 #[.pointer (some ⟨g, 0, none⟩)] w fun e w' =>
      ∃ b A c, e = .returned (.slice A (endI s).length c) ∧ Rd w' b A (endI s).length (R32 (endI s)) ∧ Dec w' g [] ∧ Fr (· = g) w w' := by
  refine (End_any s g w h).mono ?_
  rintro e w' ⟨v', rfl, ho, hd, hf⟩
  obtain ⟨b', A', c', rfl, hrd, _⟩ := ho.rd
  exact ⟨b', A', c', rfl, hrd, hd, hf⟩
theorem Pending_n (s : List Int) (hs : s.length ≤ 3) (g : Nat) (w : World) (h : Dec w g s) :
    Calls Try.prog 16 #[.pointer (some ⟨g, 0, none⟩)] w fun e w' =>
      ∃ b A c, e = .returned (.slice A s.length c) ∧ Rd w' b A s.length (B8 s) ∧ w.heap.size ≤ b ∧ New w w' ∧ ∀ k, (Value.slice A s.length c).ownBlock = some k → k = b := by
  refine (Pending_any s hs g w h).mono ?_
  rintro e w' ⟨v', rfl, ho, hf⟩
  obtain ⟨b', A', c', rfl, hrd, h1, h2⟩ := ho.rd
  rcases Nat.eq_zero_or_pos s.length with h0 | hp
  · rcases A' with _ | a
    · refine ⟨w.heap.size, none, c', rfl, ⟨hrd.1, fun h => by omega⟩, Nat.le_refl _, hf, fun k hk => by simp [Value.ownBlock] at hk⟩
    · have e1 := h1 a.block rfl
      have e2 := (ho.lt (k := a.block) rfl).1
      exact ⟨b', some a, c', rfl, hrd, by omega, hf, h1⟩
  · exact ⟨b', A', c', rfl, hrd, h2 hp, hf, h1⟩
theorem Same_n (l m : List Int) (n1 n2 : Nat) (hn1 : l.length = n1) (hn2 : m.length = n2) (w : World) (b1 b2 : Nat) (A1 A2 : Option Addr) (c1 c2 : Nat) (h1 : Rd w b1 A1 n1 (R32 l)) (h2 : Rd w b2 A2 n2 (R32 m)) (hl : l.length ≤ 1000000000) (he : l = m) :
    Calls Try.prog 10 #[.slice A1 n1 c1, .slice A2 n2 c2] w fun e w' => e = .returned (.bool true) ∧ New w w' := by
  subst hn1 hn2
  refine (Same_any l m w b1 b2 A1 A2 c1 c2 h1 h2 hl (by rw [← he]; exact hl)).mono ?_
  rintro e w' ⟨rfl, k, rfl⟩
  exact ⟨ret_bool (decide_eq_true he), Fr.drewN (Fr.refl _ _) _⟩

theorem pv2 : PV [240, 159] := ⟨by decide, by decide⟩
theorem pv3 : PV [240, 159, 152] := ⟨by decide, by decide, by decide⟩
theorem pv1 : PV [195] := (by decide : 2 ≤ lenI 195)
theorem Valid_lit (r : Int) (b : Bool) (h : validB r = b) (w : World) :
    Calls Try.prog 18 #[.int .i32 r] w fun e w' => e = .returned (.bool b) ∧ w = w' := by
  subst h
  exact Valid_any r w

set_option maxHeartbeats 4000000 in
theorem known_any (w : World) : Calls Try.prog 9 #[] w fun e w' => e = .returned (.bool true) ∧ New w w' := by
  go_enter Try.func9, Try.ntmps9
  go_wp2_with fail
  refine (decodes_true _ _ ex1 (by decide) (by decide) 4 rfl _ _ _ _ (rd_new _ _ 4 _ rfl rfl)).mono ?_
  rintro e w1 ⟨rfl, h1⟩
  have G1 : Hid (New w w1) := Lib.hid ((New.alloc _).trans h1)
  clear h1
  go_wp2_with fail
  refine (encodes_true _ _ ex2 4 rfl _ _ _ _ (rd_new _ _ 4 _ rfl rfl)).mono ?_
  rintro e w2 ⟨rfl, h2⟩
  have G2 : Hid (New w w2) := Lib.hid (G1.out.trans ((New.alloc _).trans h2))
  clear h2
  go_wp2_with fail
  refine (decodes_true _ _ ex3 (by decide) (by decide) 2 rfl _ _ _ _ (rd_new _ _ 2 _ rfl rfl)).mono ?_
  rintro e w3 ⟨rfl, h3⟩
  have G3 : Hid (New w w3) := Lib.hid (G2.out.trans ((New.alloc _).trans h3))
  clear h3
  go_wp2_with fail
  refine (decodes_true _ _ ex4 (by decide) (by decide) 2 rfl _ _ _ _ (rd_new _ _ 2 _ rfl rfl)).mono ?_
  rintro e w4 ⟨rfl, h4⟩
  have G4 : Hid (New w w4) := Lib.hid (G3.out.trans ((New.alloc _).trans h4))
  clear h4
  go_wp2_with fail
  refine (decodes_true _ _ ex5 (by decide) (by decide) 3 rfl _ _ _ _ (rd_new _ _ 3 _ rfl rfl)).mono ?_
  rintro e w5 ⟨rfl, h5⟩
  have G5 : Hid (New w w5) := Lib.hid (G4.out.trans ((New.alloc _).trans h5))
  clear h5
  go_wp2_with fail
  refine (decodes_true _ _ ex6 (by decide) (by decide) 4 rfl _ _ _ _ (rd_new _ _ 4 _ rfl rfl)).mono ?_
  rintro e w6 ⟨rfl, h6⟩
  have G6 : Hid (New w w6) := Lib.hid (G5.out.trans ((New.alloc _).trans h6))
  clear h6
  go_wp2_with fail
  refine (decodes_true _ _ ex7 (by decide) (by decide) 1 rfl _ _ _ _ (rd_new _ _ 1 _ rfl rfl)).mono ?_
  rintro e w7 ⟨rfl, h7⟩
  have G7 : Hid (New w w7) := Lib.hid (G6.out.trans ((New.alloc _).trans h7))
  clear h7
  go_wp2_with fail
  refine (Feed_n [] [240, 159] (by unfold Bytes; decide) trivial w7.heap.size _ (Blk.alloc (Blk.new w7 31 _) _) (w7.heap.size + 1) (fun _ => by omega) _ _ 2 rfl (rd_at _ _ 2 _ rfl rfl _ (by simp)) (by decide) _ _ ex9).mono ?_
  rintro e w8 ⟨b8, A8, c8, rfl, _, hd8, hf8⟩
  have G8 : Hid (New w w8) := Lib.hid (Fr.cut ((G7.out.trans (New.alloc _)).trans (New.alloc _)) hf8 G7.out.size)
  have D8 := Lib.hid hd8
  clear hd8 hf8
  go_wp2_with fail
  refine (Pending_n [240, 159] (by decide) _ _ D8.out).mono ?_
  rintro e w9 ⟨b9, A9, c9, rfl, hr9, _, hn9, _⟩
  have hcv9 : (convert 22 9 (.slice A9 2 c9)).run Try.prog w9 = .ok (.string ⟨#[240, 159]⟩) w9 := conv_bytes hr9 c9
  have G9 : Hid (New w w9) := Lib.hid (G8.out.trans hn9)
  have D9 := Lib.hid (D8.out.fr hn9 (fun h => h))
  clear hr9 hn9
  go_wp2_with fail
  refine (Step_n [240, 159] 152 (by decide) pv2 _ _ D9.out _ _ ex10).mono ?_
  rintro e w10 ⟨b10, A10, c10, rfl, hr10, hd10, hf10⟩
  have G10 : Hid (New w w10) := Lib.hid (Fr.cut G9.out hf10 G7.out.size)
  have D10 := Lib.hid hd10
  have R10 := Lib.hid hr10
  clear hr10 hd10 hf10
  go_wp2_with fail
  refine (Step_n [240, 159, 152] 195 (by decide) pv3 _ _ D10.out _ _ ex11).mono ?_
  rintro e w11 ⟨b11, A11, c11, rfl, hr11, hd11, hf11⟩
  have G11 : Hid (New w w11) := Lib.hid (Fr.cut G10.out hf11 G7.out.size)
  have D11 := Lib.hid hd11
  have R11 := Lib.hid hr11
  clear hr11 hd11 hf11
  go_wp2_with fail
  refine (Same_n [65533] [65533] 1 1 rfl rfl _ _ _ _ _ _ _ (Rd.new R11.out (New.alloc _)) (rd_new _ _ 1 _ rfl rfl) (by decide) rfl).mono ?_
  rintro e w12 ⟨rfl, hn12⟩
  have G12 : Hid (New w w12) := Lib.hid (G11.out.trans ((New.alloc _).trans hn12))
  have D12 := Lib.hid (D11.out.fr ((New.alloc _).trans hn12) (fun h => h))
  clear hn12
  go_wp2_with fail
  refine (Pending_n [195] (by decide) _ _ D12.out).mono ?_
  rintro e w13 ⟨b13, A13, c13, rfl, hr13, _, hn13, _⟩
  have hcv13 : (convert 22 9 (.slice A13 1 c13)).run Try.prog w13 = .ok (.string ⟨#[195]⟩) w13 := conv_bytes hr13 c13
  have G13 : Hid (New w w13) := Lib.hid (G12.out.trans hn13)
  have D13 := Lib.hid (D12.out.fr hn13 (fun h => h))
  clear hr13 hn13
  go_wp2_with fail
  refine (Step_n [195] 169 (by decide) pv1 _ _ D13.out _ _ ex12).mono ?_
  rintro e w14 ⟨b14, A14, c14, rfl, hr14, hd14, hf14⟩
  have G14 : Hid (New w w14) := Lib.hid (Fr.cut G13.out hf14 G7.out.size)
  have D14 := Lib.hid hd14
  have R14 := Lib.hid hr14
  clear hr14 hd14 hf14
  go_wp2_with fail
  refine (Same_n [233] [233] 1 1 rfl rfl _ _ _ _ _ _ _ (Rd.new R14.out (New.alloc _)) (rd_new _ _ 1 _ rfl rfl) (by decide) rfl).mono ?_
  rintro e w15 ⟨rfl, hn15⟩
  have G15 : Hid (New w w15) := Lib.hid (G14.out.trans ((New.alloc _).trans hn15))
  have D15 := Lib.hid (D14.out.fr ((New.alloc _).trans hn15) (fun h => h))
  clear hn15
  go_wp2_with fail
  refine (DecEnd_n [] _ _ D15.out).mono ?_
  rintro e w16 ⟨b16, A16, c16, rfl, _, _, hf16⟩
  have G16 : Hid (New w w16) := Lib.hid (Fr.cut G15.out hf16 G7.out.size)
  clear hf16
  go_wp2_with fail
  refine (encodes_true _ _ ex8 3 rfl _ _ _ _ (rd_new _ _ 3 _ rfl rfl)).mono ?_
  rintro e w17 ⟨rfl, h17⟩
  have G17 : Hid (New w w17) := Lib.hid (G16.out.trans ((New.alloc _).trans h17))
  clear h17
  go_wp2_with fail
  refine (Valid_lit 57343 false (by decide) _).mono ?_
  rintro e w' ⟨rfl, rfl⟩
  go_wp2_with fail
  refine (Valid_lit 57344 true (by decide) _).mono ?_
  rintro e w' ⟨rfl, rfl⟩
  go_wp2_with fail
  refine (Valid_lit 1114111 true (by decide) _).mono ?_
  rintro e w' ⟨rfl, rfl⟩
  go_wp2_with fail
  go_ret
  exact ⟨rfl, G17.out⟩

end Go.Proofs.Ytdkkdicgjhjinaa
