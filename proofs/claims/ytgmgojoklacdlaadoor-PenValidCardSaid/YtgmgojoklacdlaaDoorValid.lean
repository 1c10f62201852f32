/-
  The statement on which pens there are.
-/
import Derived.Test.YtgmgojoklacdlaaDoorKnown
namespace Go.Proofs.YtgmgojoklacdlaaDoor
open Go.RowKit

set_option maxHeartbeats 3200000 in
theorem valid_walk_a (p : Pn) (hv : colB p.fore = false) (w : World) (hT : Tab w) :
    Calls Tryd.prog 3 #[p.v] w fun e w' => e = .returned (.bool true) ∧ New w w' := by
  have V1 := fun w => ValidColor_any p.fore w
  have V2 := fun w => RColor_any p.fore w
  have V3 := fun w => Valid_any p w
  have V4 := fun w => RValid_any p w
  have hvp : validB p = false := by unfold validB; rw [hv]; rfl
  have K2 := fun w => packs_no p hvp w
  rw [hv] at V1 V2
  rw [hvp] at V3 V4
  clear hv hvp
  have HT := Lib.hid hT
  clear hT
  go_enter Tryd.func3, Tryd.ntmps3
  go_wp2
  have B0 := Blk.new w 27 p.cs
  have N0 : New w (w.alloc (.cells p.cs 27)) := New.alloc _
  generalize w.alloc (.cells p.cs 27) = W at *
  generalize w.heap.size = g at *
  have d := B0.eleven
  have HB := Lib.hid B0
  have HN := Lib.hid N0
  clear B0 N0
  go_region_held3 (fun w' => w'.cell? ⟨g, 0, none⟩ = some (.int .i64 p.fore.k) ∧ w'.cell? ⟨g, 1, none⟩ = some (.int .u8 p.fore.i) ∧ w'.cell? ⟨g, 2, none⟩ = some (.int .u8 p.fore.r) ∧ w'.cell? ⟨g, 3, none⟩ = some (.int .u8 p.fore.g) ∧ w'.cell? ⟨g, 4, none⟩ = some (.int .u8 p.fore.b) ∧ w'.cell? ⟨g, 5, none⟩ = some (.int .i64 p.back.k) ∧ w'.cell? ⟨g, 6, none⟩ = some (.int .u8 p.back.i) ∧ w'.cell? ⟨g, 7, none⟩ = some (.int .u8 p.back.r) ∧ w'.cell? ⟨g, 8, none⟩ = some (.int .u8 p.back.g) ∧ w'.cell? ⟨g, 9, none⟩ = some (.int .u8 p.back.b) ∧ w'.cell? ⟨g, 10, none⟩ = some (.int .u8 p.fl)) (first | go_keep | exact HB.out.eleven) (first | (go_at_call 8; refine (V1 _).mono ?_; rintro e w2 ⟨rfl, hn⟩; first | (have HN := Lib.hid (HN.out.trans hn.of_drew); have HB := Lib.hid (HB.out.fr hn.of_drew (fun h => h)); clear hn) | (have HN := Lib.hid (HN.out.trans hn); have HB := Lib.hid (HB.out.fr hn (fun h => h)); clear hn)) | (go_at_call 9; refine (V2 _).mono ?_; rintro e w2 ⟨rfl, hn⟩; first | (have HN := Lib.hid (HN.out.trans hn.of_drew); have HB := Lib.hid (HB.out.fr hn.of_drew (fun h => h)); clear hn) | (have HN := Lib.hid (HN.out.trans hn); have HB := Lib.hid (HB.out.fr hn (fun h => h)); clear hn)) | (go_at_call 10; refine (V3 _).mono ?_; rintro e w2 ⟨rfl, hn⟩; first | (have HN := Lib.hid (HN.out.trans hn.of_drew); have HB := Lib.hid (HB.out.fr hn.of_drew (fun h => h)); clear hn) | (have HN := Lib.hid (HN.out.trans hn); have HB := Lib.hid (HB.out.fr hn (fun h => h)); clear hn)) | (go_at_call 11; refine (V4 _).mono ?_; rintro e w2 ⟨rfl, hn⟩; first | (have HN := Lib.hid (HN.out.trans hn.of_drew); have HB := Lib.hid (HB.out.fr hn.of_drew (fun h => h)); clear hn) | (have HN := Lib.hid (HN.out.trans hn); have HB := Lib.hid (HB.out.fr hn (fun h => h)); clear hn)))
  all_goals
    clear d V1 V2 V3
    obtain ⟨d0, d1, d2, d3, d4, d5, d6, d7, d8, d9, d10⟩ := HB.out.eleven
    go_wp2_with fail
    refine (V4 _).mono ?_
    rintro e w3 ⟨rfl, hn⟩
    first | (have HN := Lib.hid (HN.out.trans hn.of_drew); have HB := Lib.hid (HB.out.fr hn.of_drew (fun h => h)); clear hn) | (have HN := Lib.hid (HN.out.trans hn); have HB := Lib.hid (HB.out.fr hn (fun h => h)); clear hn)
    clear V4 d0 d1 d2 d3 d4 d5 d6 d7 d8 d9 d10
    obtain ⟨d0, d1, d2, d3, d4, d5, d6, d7, d8, d9, d10⟩ := HB.out.eleven
    go_wp2_with fail
    refine (K2 _).mono ?_
    rintro e w4 ⟨rfl, hn⟩
    have HN := Lib.hid (HN.out.trans hn)
    clear hn K2
    go_wp2_with fail
    refine (known_any _ (HT.out.new HN.out)).mono ?_
    rintro e w5 ⟨rfl, hn⟩
    have HN := Lib.hid (HN.out.trans hn)
    clear hn
    go_wp2_with fail
    go_ret
    exact ⟨rfl, HN.out⟩

set_option maxHeartbeats 3200000 in
theorem valid_walk_b (p : Pn) (hv : colB p.fore = true) (hb : colB p.back = false) (w : World) (hT : Tab w) :
    Calls Tryd.prog 3 #[p.v] w fun e w' => e = .returned (.bool true) ∧ New w w' := by
  have V1 := fun w => ValidColor_any p.fore w
  have V2 := fun w => RColor_any p.fore w
  have V3 := fun w => Valid_any p w
  have V4 := fun w => RValid_any p w
  have hvp : validB p = false := by unfold validB; rw [hv, hb]; rfl
  have K2 := fun w => packs_no p hvp w
  rw [hv] at V1 V2
  rw [hvp] at V3 V4
  clear hv hb hvp
  have HT := Lib.hid hT
  clear hT
  go_enter Tryd.func3, Tryd.ntmps3
  go_wp2
  have B0 := Blk.new w 27 p.cs
  have N0 : New w (w.alloc (.cells p.cs 27)) := New.alloc _
  generalize w.alloc (.cells p.cs 27) = W at *
  generalize w.heap.size = g at *
  have d := B0.eleven
  have HB := Lib.hid B0
  have HN := Lib.hid N0
  clear B0 N0
  go_region_held3 (fun w' => w'.cell? ⟨g, 0, none⟩ = some (.int .i64 p.fore.k) ∧ w'.cell? ⟨g, 1, none⟩ = some (.int .u8 p.fore.i) ∧ w'.cell? ⟨g, 2, none⟩ = some (.int .u8 p.fore.r) ∧ w'.cell? ⟨g, 3, none⟩ = some (.int .u8 p.fore.g) ∧ w'.cell? ⟨g, 4, none⟩ = some (.int .u8 p.fore.b) ∧ w'.cell? ⟨g, 5, none⟩ = some (.int .i64 p.back.k) ∧ w'.cell? ⟨g, 6, none⟩ = some (.int .u8 p.back.i) ∧ w'.cell? ⟨g, 7, none⟩ = some (.int .u8 p.back.r) ∧ w'.cell? ⟨g, 8, none⟩ = some (.int .u8 p.back.g) ∧ w'.cell? ⟨g, 9, none⟩ = some (.int .u8 p.back.b) ∧ w'.cell? ⟨g, 10, none⟩ = some (.int .u8 p.fl)) (first | go_keep | exact HB.out.eleven) (first | (go_at_call 8; refine (V1 _).mono ?_; rintro e w2 ⟨rfl, hn⟩; first | (have HN := Lib.hid (HN.out.trans hn.of_drew); have HB := Lib.hid (HB.out.fr hn.of_drew (fun h => h)); clear hn) | (have HN := Lib.hid (HN.out.trans hn); have HB := Lib.hid (HB.out.fr hn (fun h => h)); clear hn)) | (go_at_call 9; refine (V2 _).mono ?_; rintro e w2 ⟨rfl, hn⟩; first | (have HN := Lib.hid (HN.out.trans hn.of_drew); have HB := Lib.hid (HB.out.fr hn.of_drew (fun h => h)); clear hn) | (have HN := Lib.hid (HN.out.trans hn); have HB := Lib.hid (HB.out.fr hn (fun h => h)); clear hn)) | (go_at_call 10; refine (V3 _).mono ?_; rintro e w2 ⟨rfl, hn⟩; first | (have HN := Lib.hid (HN.out.trans hn.of_drew); have HB := Lib.hid (HB.out.fr hn.of_drew (fun h => h)); clear hn) | (have HN := Lib.hid (HN.out.trans hn); have HB := Lib.hid (HB.out.fr hn (fun h => h)); clear hn)) | (go_at_call 11; refine (V4 _).mono ?_; rintro e w2 ⟨rfl, hn⟩; first | (have HN := Lib.hid (HN.out.trans hn.of_drew); have HB := Lib.hid (HB.out.fr hn.of_drew (fun h => h)); clear hn) | (have HN := Lib.hid (HN.out.trans hn); have HB := Lib.hid (HB.out.fr hn (fun h => h)); clear hn)))
  all_goals
    clear d V1 V2 V3
    obtain ⟨d0, d1, d2, d3, d4, d5, d6, d7, d8, d9, d10⟩ := HB.out.eleven
    go_wp2_with fail
    refine (V4 _).mono ?_
    rintro e w3 ⟨rfl, hn⟩
    first | (have HN := Lib.hid (HN.out.trans hn.of_drew); have HB := Lib.hid (HB.out.fr hn.of_drew (fun h => h)); clear hn) | (have HN := Lib.hid (HN.out.trans hn); have HB := Lib.hid (HB.out.fr hn (fun h => h)); clear hn)
    clear V4 d0 d1 d2 d3 d4 d5 d6 d7 d8 d9 d10
    obtain ⟨d0, d1, d2, d3, d4, d5, d6, d7, d8, d9, d10⟩ := HB.out.eleven
    go_wp2_with fail
    refine (K2 _).mono ?_
    rintro e w4 ⟨rfl, hn⟩
    have HN := Lib.hid (HN.out.trans hn)
    clear hn K2
    go_wp2_with fail
    refine (known_any _ (HT.out.new HN.out)).mono ?_
    rintro e w5 ⟨rfl, hn⟩
    have HN := Lib.hid (HN.out.trans hn)
    clear hn
    go_wp2_with fail
    go_ret
    exact ⟨rfl, HN.out⟩

set_option maxHeartbeats 3200000 in
theorem valid_walk_c (p : Pn) (hp : p.Ok) (hv : colB p.fore = true) (hb : colB p.back = true) (w : World) (hT : Tab w) :
    Calls Tryd.prog 3 #[p.v] w fun e w' => e = .returned (.bool true) ∧ New w w' := by
  have V1 := fun w => ValidColor_any p.fore w
  have V2 := fun w => RColor_any p.fore w
  have V3 := fun w => Valid_any p w
  have V4 := fun w => RValid_any p w
  have hvp : validB p = true := by unfold validB; rw [hv, hb]; rfl
  have hlt := word_lt hp
  have R1 := fun w => RPack_any p hp w
  have R2 := fun w => packs_yes p hp hvp (wordI p) rfl w
  have R3 := fun w => unpacks_yes (wordI p) hlt.1 (by omega) p (penW_word hp hvp) rfl w
  rw [hv] at V1 V2
  rw [hvp] at V3 V4
  clear hv hb hvp hlt
  have HT := Lib.hid hT
  clear hT
  go_enter Tryd.func3, Tryd.ntmps3
  go_wp2
  have B0 := Blk.new w 27 p.cs
  have N0 : New w (w.alloc (.cells p.cs 27)) := New.alloc _
  generalize w.alloc (.cells p.cs 27) = W at *
  generalize w.heap.size = g at *
  have d := B0.eleven
  have HB := Lib.hid B0
  have HN := Lib.hid N0
  clear B0 N0
  go_region_held3 (fun w' => w'.cell? ⟨g, 0, none⟩ = some (.int .i64 p.fore.k) ∧ w'.cell? ⟨g, 1, none⟩ = some (.int .u8 p.fore.i) ∧ w'.cell? ⟨g, 2, none⟩ = some (.int .u8 p.fore.r) ∧ w'.cell? ⟨g, 3, none⟩ = some (.int .u8 p.fore.g) ∧ w'.cell? ⟨g, 4, none⟩ = some (.int .u8 p.fore.b) ∧ w'.cell? ⟨g, 5, none⟩ = some (.int .i64 p.back.k) ∧ w'.cell? ⟨g, 6, none⟩ = some (.int .u8 p.back.i) ∧ w'.cell? ⟨g, 7, none⟩ = some (.int .u8 p.back.r) ∧ w'.cell? ⟨g, 8, none⟩ = some (.int .u8 p.back.g) ∧ w'.cell? ⟨g, 9, none⟩ = some (.int .u8 p.back.b) ∧ w'.cell? ⟨g, 10, none⟩ = some (.int .u8 p.fl)) (first | go_keep | exact HB.out.eleven) (first | (go_at_call 8; refine (V1 _).mono ?_; rintro e w2 ⟨rfl, hn⟩; first | (have HN := Lib.hid (HN.out.trans hn.of_drew); have HB := Lib.hid (HB.out.fr hn.of_drew (fun h => h)); clear hn) | (have HN := Lib.hid (HN.out.trans hn); have HB := Lib.hid (HB.out.fr hn (fun h => h)); clear hn)) | (go_at_call 9; refine (V2 _).mono ?_; rintro e w2 ⟨rfl, hn⟩; first | (have HN := Lib.hid (HN.out.trans hn.of_drew); have HB := Lib.hid (HB.out.fr hn.of_drew (fun h => h)); clear hn) | (have HN := Lib.hid (HN.out.trans hn); have HB := Lib.hid (HB.out.fr hn (fun h => h)); clear hn)) | (go_at_call 10; refine (V3 _).mono ?_; rintro e w2 ⟨rfl, hn⟩; first | (have HN := Lib.hid (HN.out.trans hn.of_drew); have HB := Lib.hid (HB.out.fr hn.of_drew (fun h => h)); clear hn) | (have HN := Lib.hid (HN.out.trans hn); have HB := Lib.hid (HB.out.fr hn (fun h => h)); clear hn)) | (go_at_call 11; refine (V4 _).mono ?_; rintro e w2 ⟨rfl, hn⟩; first | (have HN := Lib.hid (HN.out.trans hn.of_drew); have HB := Lib.hid (HB.out.fr hn.of_drew (fun h => h)); clear hn) | (have HN := Lib.hid (HN.out.trans hn); have HB := Lib.hid (HB.out.fr hn (fun h => h)); clear hn)))
  all_goals
    clear d V1 V2 V3
    obtain ⟨d0, d1, d2, d3, d4, d5, d6, d7, d8, d9, d10⟩ := HB.out.eleven
    go_wp2_with fail
    refine (V4 _).mono ?_
    rintro e w3 ⟨rfl, hn⟩
    first | (have HN := Lib.hid (HN.out.trans hn.of_drew); have HB := Lib.hid (HB.out.fr hn.of_drew (fun h => h)); clear hn) | (have HN := Lib.hid (HN.out.trans hn); have HB := Lib.hid (HB.out.fr hn (fun h => h)); clear hn)
    clear V4 d0 d1 d2 d3 d4 d5 d6 d7 d8 d9 d10
    have d := HB.out.eleven
    go_wp2_with fail
    go_region_held3 (fun w' => w'.cell? ⟨g, 0, none⟩ = some (.int .i64 p.fore.k) ∧ w'.cell? ⟨g, 1, none⟩ = some (.int .u8 p.fore.i) ∧ w'.cell? ⟨g, 2, none⟩ = some (.int .u8 p.fore.r) ∧ w'.cell? ⟨g, 3, none⟩ = some (.int .u8 p.fore.g) ∧ w'.cell? ⟨g, 4, none⟩ = some (.int .u8 p.fore.b) ∧ w'.cell? ⟨g, 5, none⟩ = some (.int .i64 p.back.k) ∧ w'.cell? ⟨g, 6, none⟩ = some (.int .u8 p.back.i) ∧ w'.cell? ⟨g, 7, none⟩ = some (.int .u8 p.back.r) ∧ w'.cell? ⟨g, 8, none⟩ = some (.int .u8 p.back.g) ∧ w'.cell? ⟨g, 9, none⟩ = some (.int .u8 p.back.b) ∧ w'.cell? ⟨g, 10, none⟩ = some (.int .u8 p.fl)) (first | go_keep | exact HB.out.eleven) (first | (go_at_call 14; refine (R1 _).mono ?_; rintro e w2 ⟨rfl, hn⟩; first | (have HN := Lib.hid (HN.out.trans hn.of_drew); have HB := Lib.hid (HB.out.fr hn.of_drew (fun h => h)); clear hn) | (have HN := Lib.hid (HN.out.trans hn); have HB := Lib.hid (HB.out.fr hn (fun h => h)); clear hn)) | (go_at_call 12; refine (R2 _).mono ?_; rintro e w2 ⟨rfl, hn⟩; first | (have HN := Lib.hid (HN.out.trans hn.of_drew); have HB := Lib.hid (HB.out.fr hn.of_drew (fun h => h)); clear hn) | (have HN := Lib.hid (HN.out.trans hn); have HB := Lib.hid (HB.out.fr hn (fun h => h)); clear hn)) | (go_at_call 15; refine (R3 _).mono ?_; rintro e w2 ⟨rfl, hn⟩; first | (have HN := Lib.hid (HN.out.trans hn.of_drew); have HB := Lib.hid (HB.out.fr hn.of_drew (fun h => h)); clear hn) | (have HN := Lib.hid (HN.out.trans hn); have HB := Lib.hid (HB.out.fr hn (fun h => h)); clear hn)) | (go_at_call 13; refine (known_any _ (HT.out.new HN.out)).mono ?_; rintro e w2 ⟨rfl, hn⟩; first | (have HN := Lib.hid (HN.out.trans hn.of_drew); have HB := Lib.hid (HB.out.fr hn.of_drew (fun h => h)); clear hn) | (have HN := Lib.hid (HN.out.trans hn); have HB := Lib.hid (HB.out.fr hn (fun h => h)); clear hn)))
    all_goals
      first | go_wp2 | skip
      go_ret
      exact ⟨rfl, HN.out⟩

theorem penValid_walk (p : Pn) (hp : p.Ok) (w : World) (hT : Tab w) :
    Calls Tryd.prog 3 #[p.v] w fun e w' => e = .returned (.bool true) ∧ Below w.heap.size w w' := by
  cases hv : colB p.fore with
  | false => exact (valid_walk_a p hv w hT).mono fun _ _ h => ⟨h.1, h.2.new_below⟩
  | true =>
    cases hb : colB p.back with
    | false => exact (valid_walk_b p hv hb w hT).mono fun _ _ h => ⟨h.1, h.2.new_below⟩
    | true => exact (valid_walk_c p hp hv hb w hT).mono fun _ _ h => ⟨h.1, h.2.new_below⟩

end Go.Proofs.YtgmgojoklacdlaaDoor
