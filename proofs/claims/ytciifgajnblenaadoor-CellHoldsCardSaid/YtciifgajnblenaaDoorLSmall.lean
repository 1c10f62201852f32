/-
  The short functions of the laws of layer 4.
-/
import Derived.Test.YtciifgajnblenaaDoorDOf
import Derived.Test.YtciifgajnblenaaDoorDMark
import Derived.Test.YtciifgajnblenaaDoorDFix
import Derived.Test.YtciifgajnblenaaDoorCFixes
import Derived.Deep.DeepCutAuto
namespace Go.Proofs.YtciifgajnblenaaDoor
open Go.RowKit

theorem SameK (la lb : List Ce) (na nb ba bb ca cb : Nat) (A B : Option Addr) (w : World) (ha : RdC w ba A na la) (hb : RdC w bb B nb lb) (e : la = lb) (hlim : na ≤ 1000000) (hlim2 : nb ≤ 1000000) :
    Calls Tryd.prog 27 #[.slice A na ca, .slice B nb cb] w fun e w' => e = .returned (.bool true) ∧ New w w' := by
  have h := RSame_any la lb na nb ba bb ca cb A B w ha hb hlim hlim2
  rwa [decide_eq_true e] at h

set_option maxHeartbeats 1600000 in
theorem list_any (v : Value) (w : World) :
    Calls Tryd.prog 37 #[v] w fun e w' => e = .returned v ∧ w' = w := by
  go_enter Tryd.func37, Tryd.ntmps37
  go_wp2_with fail
  go_ret
  exact ⟨rfl, rfl⟩

set_option maxHeartbeats 1600000 in
theorem lof_no (r : Int) (p : Pn) (cap : Nat) (A : Option Addr) (h : ¬ 1 ≤ ofI r ∨ validB p = false) (w : World) (hT : Tab w) :
    Calls Tryd.prog 12 #[.int .i32 r, p.v, .int .i64 2, .slice A 0 cap] w fun e w' => e = .returned (.bool true) ∧ New w w' := by
  have C1 := fun w hT => COf_no r p h w hT
  have HT := Lib.hid hT
  clear hT h
  go_enter Tryd.func12, Tryd.ntmps12
  go_wp2_with fail
  have HN : Hid (New w (w.alloc (.cells p.cs 27))) := Lib.hid (New.alloc _)
  generalize w.alloc (.cells p.cs 27) = W at *
  refine (C1 _ (HT.out.new HN.out)).mono ?_
  rintro e w1 ⟨rfl, hn⟩
  have HN := Lib.hid (HN.out.trans hn)
  clear hn
  go_wp2_with fail
  refine (SameK [] [] 0 0 0 0 _ _ none A w1 (RdC.nil _ _ _) (RdC.nil _ _ _) rfl (by omega) (by omega)).mono ?_
  rintro e w2 ⟨rfl, hn⟩
  have HN := Lib.hid (HN.out.trans hn)
  clear hn
  go_wp2_with fail
  go_ret
  exact ⟨rfl, HN.out⟩

set_option maxHeartbeats 1600000 in
theorem lof_yes (r : Int) (p : Pn) (n b cap : Nat) (A : Option Addr) (h : 1 ≤ ofI r) (hp : validB p = true) (w : World) (hR : RdC w b A n (ofL r p)) (hn : n ≤ 1000000) (hT : Tab w) :
    Calls Tryd.prog 12 #[.int .i32 r, p.v, .int .i64 0, .slice A n cap] w fun e w' => e = .returned (.bool true) ∧ New w w' := by
  have C1 := fun w hT => COf_yes r p h hp w hT
  have HT := Lib.hid hT
  have HR := Lib.hid hR
  have hle : (ofL r p).length ≤ 2 := by
    unfold ofL
    split <;> simp
  obtain ⟨m, hm⟩ : ∃ m, (ofL r p).length = m := ⟨_, rfl⟩
  rw [hm] at hle
  have HM := Lib.hid hm
  clear hT h hp hR hm
  go_enter Tryd.func12, Tryd.ntmps12
  go_wp2_with fail
  have HN : Hid (New w (w.alloc (.cells p.cs 27))) := Lib.hid (New.alloc _)
  generalize w.alloc (.cells p.cs 27) = W at *
  refine (C1 _ (HT.out.new HN.out)).mono ?_
  rintro e w1 ⟨⟨v, rfl, ho⟩, hn⟩
  have HN := Lib.hid (HN.out.trans hn)
  rw [HM.out] at ho
  obtain ⟨b', A', c', rfl, -, hr⟩ := own_rdc ho HM.out
  have HR' := Lib.hid hr
  clear hn ho hr
  go_wp2_with fail
  refine (SameK (ofL r p) (ofL r p) m n b' b _ _ A' A w1 HR'.out (HR.out.new HN.out) rfl (by omega) (by omega)).mono ?_
  rintro e w2 ⟨rfl, hn⟩
  have HN := Lib.hid (HN.out.trans hn)
  clear hn
  go_wp2_with fail
  go_ret
  exact ⟨rfl, HN.out⟩

set_option maxHeartbeats 3200000 in
theorem lmark (c : Ce) (m : Int) (x : Ce) (no : Int) (h : markR c m = (x, no)) (w : World) (hT : Tab w) :
    Calls Tryd.prog 21 #[c.v, .int .i32 m, x.v, .int .i64 no] w fun e w' => e = .returned (.bool true) ∧ New w w' := by
  have C1 : ∀ w, Tab w → CMarkSaid c m x no w := fun w hT => by
    have := CMark_any c m w hT
    rwa [h] at this
  have HT := Lib.hid hT
  have heq := eq_cells x x true (by simp)
  have gd := guardC
  have jn : (no == no) = true := by simp
  clear hT h
  go_enter Tryd.func21, Tryd.ntmps21
  go_wp2_with fail
  have HN : Hid (New w ((w.alloc (.cells c.cs 30)).alloc (.cells x.cs 30))) := Lib.hid ((New.alloc _).trans (New.alloc _))
  have HB : Hid (Blk ((w.alloc (.cells c.cs 30)).alloc (.cells x.cs 30)) (w.heap.size + 1) 30 x.cs) := Lib.hid (by
    have := Blk.new (w.alloc (.cells c.cs 30)) 30 x.cs
    simpa using this)
  generalize (w.alloc (.cells c.cs 30)).alloc (.cells x.cs 30) = W at *
  generalize w.heap.size + 1 = g at *
  refine (C1 _ (HT.out.new HN.out)).mono ?_
  rintro e w1 ⟨rfl, hn⟩
  have HN := Lib.hid (HN.out.trans hn)
  have HB := Lib.hid (HB.out.fr hn (fun h => h))
  clear hn
  go_upto_region 2 with fail
  have HN := Lib.hid (HN.out.trans (New.alloc (.cells x.cs 30)))
  have HB := Lib.hid (HB.out.alloc (.cells x.cs 30))
  have HB2 := Lib.hid (Blk.new w1 30 x.cs)
  generalize w1.alloc (.cells x.cs 30) = W2 at *
  generalize w1.heap.size = g2 at *
  obtain ⟨q0, q1, q2, q3, q4, q5, q6, q7, q8, q9, q10, q11, q12, q13, q14, q15⟩ := HB.out.sixteen
  obtain ⟨d0, d1, d2, d3, d4, d5, d6, d7, d8, d9, d10, d11, d12, d13, d14, d15⟩ := HB2.out.sixteen
  go_wp2_with fail
  go_ret
  exact ⟨rfl, HN.out⟩

set_option maxHeartbeats 1600000 in
theorem lfixes (l : List Ce) (n b cap : Nat) (A : Option Addr) (m b2 cap2 : Nat) (A2 : Option Addr) (w : World) (hR : RdC w b A n l) (hR2 : RdC w b2 A2 m (fixL l)) (hn : n ≤ 1000000) (hm : m ≤ 1000000) :
    Calls Tryd.prog 38 #[.slice A n cap, .slice A2 m cap2] w fun e w' => e = .returned (.bool true) ∧ New w w' := by
  have HR := Lib.hid hR
  have HR2 := Lib.hid hR2
  have HL : Hid ((fixL l).length = n) := Lib.hid (by rw [← hR.1]; exact fix_len none l)
  clear hR hR2
  go_enter Tryd.func38, Tryd.ntmps38
  go_wp2_with fail
  refine (CFix_any l n b _ A w HR.out hn).mono ?_
  rintro e w1 ⟨v, rfl, ho, hn1⟩
  obtain ⟨b', A', c', rfl, -, hr⟩ := own_rdc ho HL.out
  have HN := Lib.hid hn1
  have HR' := Lib.hid hr
  clear hn1 ho hr
  go_wp2_with fail
  refine (SameK (fixL l) (fixL l) n m b' b2 _ _ A' A2 w1 HR'.out (HR2.out.new HN.out) rfl (by omega) (by omega)).mono ?_
  rintro e w2 ⟨rfl, hn⟩
  have HN := Lib.hid (HN.out.trans hn)
  clear hn
  go_wp2_with fail
  go_ret
  exact ⟨rfl, HN.out⟩

end Go.Proofs.YtciifgajnblenaaDoor
