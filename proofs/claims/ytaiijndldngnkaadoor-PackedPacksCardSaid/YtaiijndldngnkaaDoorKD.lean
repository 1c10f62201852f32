/-
  The specification's Pack.
  packed.Unpack and the specification's Cells.
  The specification's Cells.
  Regions of calls and allocations in whatever order: what is known of each slot.
-/
import Derived.Test.YtaiijndldngnkaaDoorKC
namespace Go.Proofs.YtaiijndldngnkaaDoor
open Go.RowKit

theorem lastW_pack (m : List Ce) (d : Ce) : lastW (packL (m ++ [d])) = some (wordsI d) := by
  rw [pack_snoc]
  rcases snoc_cases (packL m) with h | ⟨x, q, h⟩
  · rw [h]; rfl
  · rw [h, addR_snoc]
    split
    · rename_i e; rw [lastW_snoc]; exact congrArg some e
    · rw [lastW_snoc]; rfl
theorem packE_all {l : List Ce} (hn : l.length ≤ 100000) (hv : ∀ c ∈ l, cellB c = true) : packE l = 0 := packE_ok hn hv
/-- A run of the same cell behind others. -/
theorem take_rep {l : List Ce} {i k : Nat} {c : Ce} (hik : i ≤ k) (hk : k ≤ l.length) (h : ∀ j, i ≤ j → j < k → l[j]? = some c) : l.take k = l.take i ++ List.replicate (k - i) c := by
  apply List.ext_getElem?
  intro j
  rw [List.getElem?_take, List.getElem?_append]
  simp only [List.length_take, Nat.min_eq_left (Nat.le_trans hik hk)]
  by_cases h1 : j < i
  · rw [if_pos (by omega), if_pos h1, List.getElem?_take, if_pos h1]
  · rw [if_neg h1, List.getElem?_replicate]
    by_cases h2 : j < k
    · rw [if_pos h2, if_pos (by omega), h j (by omega) h2]
    · rw [if_neg h2, if_neg (by omega)]
theorem pack_rep {l : List Ce} {i k : Nat} {c : Ce} (hik : i < k) (hk : k ≤ l.length) (h : ∀ j, i ≤ j → j < k → l[j]? = some c) (hl : lastW (packL (l.take i)) ≠ some (wordsI c)) : packL (l.take k) = packL (l.take i) ++ [⟨((k - i : Nat) : Int), wordsI c⟩] := by
  obtain ⟨j, hj⟩ : ∃ j, k - i = j + 1 := ⟨k - i - 1, by omega⟩
  rw [take_rep (Nat.le_of_lt hik) hk h, hj]
  have e : packL (l.take i ++ List.replicate (j + 1) c) = (List.replicate (j + 1) (one c)).foldl addR (packL (l.take i)) := by
    simp only [packL, List.map_append, List.map_replicate, List.foldl_append]
  rw [e, show one c = ⟨1, wordsI c⟩ from rfl, fold_rep, addR_ne (r := ⟨(j : Int) + 1, wordsI c⟩) hl]
  rfl
theorem last_ne {l : List Ce} {i : Nat} {c : Ce} (hc : l[i]? = some c) (hv : ∀ d ∈ l.take i, cellB d = true) (hok : ∀ d ∈ l, d.p.Ok) (hvc : cellB c = true) (hd : i = 0 ∨ ∃ d, l[i - 1]? = some d ∧ d ≠ c) : lastW (packL (l.take i)) ≠ some (wordsI c) := by
  rcases hd with rfl | ⟨d, hd, hne⟩
  · simp [packL, lastW]
  · have hi : i ≠ 0 := fun e => by subst e; rw [hc] at hd; simp only [Option.some.injEq] at hd; exact hne hd.symm
    obtain ⟨j, rfl⟩ : ∃ j, i = j + 1 := ⟨i - 1, by omega⟩
    rw [Nat.add_sub_cancel] at hd
    have ht : l.take (j + 1) = l.take j ++ [d] := by rw [List.take_add_one, hd]; rfl
    have hm : d ∈ l := List.mem_of_getElem? hd
    rw [ht, lastW_pack]
    intro e
    simp only [Option.some.injEq] at e
    exact hne (words_inj (hv d (by rw [ht]; simp)) hvc (hok d hm) (hok c (List.mem_of_getElem? hc)) e)

set_option linter.unusedSimpArgs false in
set_option maxRecDepth 100000 in
set_option maxHeartbeats 1600000 in
theorem RPackL_any (l : List Ce) (n b cap : Nat) (A : Option Addr) (w : World) (hr : RdC w b A n l) (hok : ∀ c ∈ l, c.p.Ok) (hn : n ≤ 1000000) :
    Calls Tryd.prog 15 #[.slice A n cap] w fun e w' => (∃ (A' : Option Addr) (c' b' : Nat), e = .returned (.tuple #[.slice A' (packO l).length c', .int .i64 (packE l)]) ∧ RdR w' b' A' (packO l).length (packO l)) ∧ New w w' := by
  have hl := hr.1
  refine calls_args (vl := [Value.slice A n cap]) 52 Tryd.func15 rfl Tryd.ntmps15 (by kernel_rfl) (fun a he => ?_)
  have he0 : Env 52 [(0, Value.slice A n cap)] a := he
  clear he
  have hH := Hp.start w
  refine wp_seq ?_
  refine wp_region_lit ?_
  refine lV (Value.slice none 0 0) he0 rfl rfl (wanted_plain rfl _) (rn_asg rfl (he0.op rfl) w) ?_
  intro a1 he1
  clear he0 a
  refine lV (Value.int .i64 0) he1 rfl rfl (wanted_plain rfl _) (rn_asg rfl (he1.op rfl) w) ?_
  intro a2 he2
  clear he1 a1
  refine wpList_nil ?_
  refine then_ok ?_
  by_cases hbig : 100000 < n
  · skip
    refine wp_seq ?_
    refine wp_seq ?_
    refine wp_region_lit ?_
    refine lV (Value.slice A n cap) he2 rfl rfl (wanted_plain rfl _) (rn_mv rfl (he2.op rfl) w) ?_
    intro a3 he3
    clear he2 a2
    refine lV (Value.int .i64 (n : Nat)) he3 rfl rfl (wanted_plain rfl _) (rn_lenC rfl (he3.op rfl) w) ?_
    intro a4 he4
    clear he3 a3
    refine lV (Value.bool true) he4 rfl rfl (wanted_plain rfl _) (rn_gtr rfl (he4.op rfl) (he4.op rfl) (decide_eq_true (by omega)) w) ?_
    intro a5 he5
    clear he4 a4
    refine wpList_nil ?_
    refine then_ok ?_
    refine wp_cond_true (he5.op rfl) ?_
    refine wp_seq ?_
    refine wp_region_lit ?_
    refine lV (Value.slice none 0 0) he5 rfl rfl (wanted_plain rfl _) (rn_asg rfl (he5.op rfl) w) ?_
    intro a6 he6
    clear he5 a5
    refine lV (Value.int .i64 5) he6 rfl rfl (wanted_plain rfl _) (rn_asg rfl (he6.op rfl) w) ?_
    intro a7 he7
    clear he6 a6
    refine wpList_nil ?_
    refine then_ok ?_
    have he1 : packE l = 5 := by rw [packE, if_pos (by omega)]
    have he2 := packO_bad (l := l) (by rw [he1]; decide)
    refine wp_ret ?_
    try simp only [Exit.then, Exit.inBlock]
    exact ret_tt rfl he7 rfl rfl ⟨⟨none, 0, 0, by rw [he1, he2]; rfl, by rw [he2]; exact RdG.nil _ _ _⟩, hH.new⟩
  · skip
    refine wp_seq ?_
    refine wp_seq ?_
    refine wp_region_lit ?_
    refine lV (Value.slice A n cap) he2 rfl rfl (wanted_plain rfl _) (rn_mv rfl (he2.op rfl) w) ?_
    intro a8 he8
    clear he2 a2
    refine lV (Value.int .i64 (n : Nat)) he8 rfl rfl (wanted_plain rfl _) (rn_lenC rfl (he8.op rfl) w) ?_
    intro a9 he9
    clear he8 a8
    refine lV (Value.bool false) he9 rfl rfl (wanted_plain rfl _) (rn_gtr rfl (he9.op rfl) (he9.op rfl) (decide_eq_false (by omega)) w) ?_
    intro a10 he10
    clear he9 a9
    refine wpList_nil ?_
    refine then_ok ?_
    refine wp_cond_false (he10.op rfl) ?_
    refine wp_skip ?_
    refine then_ok ?_
    refine wp_seq ?_
    refine wp_region_lit ?_
    refine lV (Value.slice none 0 0) he10 rfl rfl (wanted_plain rfl _) (rn_asg rfl (he10.op rfl) w) ?_
    intro a11 he11
    clear he10 a10
    refine wpList_nil ?_
    refine then_ok ?_
    refine wp_seq ?_
    refine wp_region_lit ?_
    refine lV (Value.int .i64 0) he11 rfl rfl (wanted_plain rfl _) (rn_asg rfl (he11.op rfl) w) ?_
    intro a12 he12
    clear he11 a11
    refine wpList_nil ?_
    refine then_ok ?_
    refine wp_seq ?_
    refine wp_block ?_
    refine loop_nat (fun q a w' => ∃ (i : Nat) (vr : Value), q = n - i ∧ i ≤ n ∧ (∀ c ∈ l.take i, cellB c = true) ∧ (i = 0 ∨ ∃ d, l[i - 1]? = some d ∧ ∀ c, l[i]? = some c → d ≠ c) ∧ Env 52 [(0, Value.slice A n cap), (4, vr), (5, Value.int .i64 (i : Int))] a ∧ Hp w [] w' ∧ OwnR w' w.heap.size vr (packL (l.take i)).length (packL (l.take i))) n ⟨0, _, by omega, by omega, by simp, .inl rfl, he12.mem ⟨rfl, rfl, rfl, trivial⟩, hH, World.ownsRow_nil _ w.heap.size 67 4⟩ ?_
    clear he12 hH
    rintro q a13 w13 ⟨i, vr, rfl, hi, hval, hlast, he13, hH13, hown⟩
    as_aux_lemma =>
      by_cases hin : i < n
      · skip
        have hpl := pack_le (l.take i)
        have htl : (l.take i).length = i := by rw [List.length_take]; omega
        have hR14 := hH13.new
        replace hr := hr.new hH13.new
        have hH14 := Hp.start w13
        clear hH13  
        refine wp_seq ?_
        refine wp_seq ?_
        refine wp_region_lit ?_
        refine lV (Value.int .i64 (i : Int)) he13 rfl rfl (wanted_plain rfl _) (rn_mv rfl (he13.op rfl) w13) ?_
        intro a15 he15
        clear he13 a13
        refine lV (Value.slice A n cap) he15 rfl rfl (wanted_plain rfl _) (rn_mv rfl (he15.op rfl) w13) ?_
        intro a16 he16
        clear he15 a15
        refine lV (Value.int .i64 (n : Nat)) he16 rfl rfl (wanted_plain rfl _) (rn_lenC rfl (he16.op rfl) w13) ?_
        intro a17 he17
        clear he16 a16
        refine lV (Value.bool true) he17 rfl rfl (wanted_plain rfl _) (rn_lss rfl (he17.op rfl) (he17.op rfl) (decide_eq_true (by omega)) w13) ?_
        intro a18 he18
        clear he17 a17
        refine wpList_nil ?_
        refine then_ok ?_
        refine wp_cond_true (he18.op rfl) ?_
        refine wp_skip ?_
        refine then_ok ?_
        cases A with
        | none => obtain ⟨o, ho⟩ := hr.base (by omega); cases ho
        | some ad =>
          obtain ⟨o0, ho0⟩ := hr.base (by omega)
          simp only [Option.some.injEq] at ho0
          subst ho0
          obtain ⟨c, hc⟩ : ∃ c, l[i]? = some c := ⟨_, List.getElem?_eq_getElem (by have := hr.1; omega)⟩
          have hcl : c ∈ l := List.mem_of_getElem? hc
          refine wp_block ?_
          cases hv : cellB c with
          | false =>
            refine wp_seq ?_
            refine wp_seq ?_
            refine wp_region_lit ?_
            refine lV (Value.slice (some ⟨b, o0, none⟩) n cap) he18 rfl rfl (wanted_plain rfl _) (rn_mv rfl (he18.op rfl) w13) ?_
            intro a19 he19
            clear he18 a18
            refine lV (Value.int .i64 (i : Int)) he19 rfl rfl (wanted_plain rfl _) (rn_mv rfl (he19.op rfl) w13) ?_
            intro a20 he20
            clear he19 a19
            refine lV (Value.pointer (some ⟨b, o0 + i * 16, none⟩)) he20 rfl rfl (wanted_plain rfl _) (rn_idx (i := i) rfl (he20.op rfl) (he20.op rfl) hin (by rw [addr_add]) w13) ?_
            intro a21 he21
            clear he20 a20
            refine lV (Ce.v c) he21 rfl rfl (wanted_plain rfl _) (rn_loadM (i := i) rfl (he21.op rfl) (hr.new hH14.new) hin rfl hc) ?_
            intro a22 he22
            clear he21 a21
            refine lC he22 rfl rfl Tryd.func9 (by kernel_rfl) rfl rfl (wanted_plain rfl _) rfl (said_of (RValidC_any c w13) hv) ?_
            intro w23 a24 hn he24
            have hH23 := hH14.call hn
            clear he22 a22 hH14 hn
            refine lV (Value.bool true) he24 rfl rfl (wanted_plain rfl _) (rn_not (b := false) rfl (he24.op rfl) w23) ?_
            intro a25 he25
            clear he24 a24
            refine wpList_nil ?_
            refine then_ok ?_
            refine wp_cond_true (he25.op rfl) ?_
            refine wp_seq ?_
            refine wp_region_lit ?_
            refine lV (Value.slice none 0 0) he25 rfl rfl (wanted_plain rfl _) (rn_asg rfl (he25.op rfl) w23) ?_
            intro a26 he26
            clear he25 a25
            refine lV (Value.int .i64 2) he26 rfl rfl (wanted_plain rfl _) (rn_asg rfl (he26.op rfl) w23) ?_
            intro a27 he27
            clear he26 a26
            refine wpList_nil ?_
            refine then_ok ?_
            have he1 : packE l = 2 := packE_bad (by omega) hcl hv
            have he2 := packO_bad (l := l) (by rw [he1]; decide)
            refine wp_ret ?_
            try simp only [Exit.then, Exit.inBlock]
            exact ret_tt rfl he27 rfl rfl ⟨⟨none, 0, 0, by rw [he1, he2]; rfl, by rw [he2]; exact RdG.nil _ _ _⟩, (New.trans hR14 hH23.new)⟩
          | true =>
            refine wp_seq ?_
            refine wp_seq ?_
            refine wp_region_lit ?_
            refine lV (Value.slice (some ⟨b, o0, none⟩) n cap) he18 rfl rfl (wanted_plain rfl _) (rn_mv rfl (he18.op rfl) w13) ?_
            intro a28 he28
            clear he18 a18
            refine lV (Value.int .i64 (i : Int)) he28 rfl rfl (wanted_plain rfl _) (rn_mv rfl (he28.op rfl) w13) ?_
            intro a29 he29
            clear he28 a28
            refine lV (Value.pointer (some ⟨b, o0 + i * 16, none⟩)) he29 rfl rfl (wanted_plain rfl _) (rn_idx (i := i) rfl (he29.op rfl) (he29.op rfl) hin (by rw [addr_add]) w13) ?_
            intro a30 he30
            clear he29 a29
            refine lV (Ce.v c) he30 rfl rfl (wanted_plain rfl _) (rn_loadM (i := i) rfl (he30.op rfl) (hr.new hH14.new) hin rfl hc) ?_
            intro a31 he31
            clear he30 a30
            refine lC he31 rfl rfl Tryd.func9 (by kernel_rfl) rfl rfl (wanted_plain rfl _) rfl (said_of (RValidC_any c w13) hv) ?_
            intro w32 a33 hn he33
            have hH32 := hH14.call hn
            clear he31 a31 hH14 hn
            refine lV (Value.bool false) he33 rfl rfl (wanted_plain rfl _) (rn_not (b := true) rfl (he33.op rfl) w32) ?_
            intro a34 he34
            clear he33 a33
            refine wpList_nil ?_
            refine then_ok ?_
            refine wp_cond_false (he34.op rfl) ?_
            refine wp_skip ?_
            refine then_ok ?_
            have hlw := last_ne hc hval hok hv (hlast.imp id (fun ⟨d, h1, h2⟩ => ⟨d, h1, h2 c hc⟩))
            refine wp_seq ?_
            refine wp_region_lit ?_
            refine lV (Value.int .i64 (i : Int)) he34 rfl rfl (wanted_plain rfl _) (rn_mv rfl (he34.op rfl) w32) ?_
            intro a35 he35
            clear he34 a34
            refine lV (Value.int .i64 (i : Int)) he35 rfl rfl (wanted_plain rfl _) (rn_asg rfl (he35.op rfl) w32) ?_
            intro a36 he36
            clear he35 a35
            refine wpList_nil ?_
            refine then_ok ?_
            refine wp_seq ?_
            refine wp_block ?_
            refine loop_nat (fun q a w' => ∃ (k : Nat), q = n - k ∧ i ≤ k ∧ k ≤ n ∧ (∀ j, i ≤ j → j < k → l[j]? = some c) ∧ Env 52 [(0, Value.slice (some ⟨b, o0, none⟩) n cap), (4, vr), (5, Value.int .i64 (i : Int)), (6, Value.int .i64 (k : Int))] a ∧ Hp w13 [] w') (n - i) ⟨i, by omega, by omega, by omega, fun j h1 h2 => by omega, he36.mem ⟨rfl, rfl, rfl, rfl, trivial⟩, hH32⟩ ?_
            clear he36 hH32
            rintro q a37 w37 ⟨k, rfl, hik, hkn, hall, he37, hH37⟩
            as_aux_lemma =>
              by_cases hkl : k < n
              · skip
                obtain ⟨x, hx⟩ : ∃ c, l[k]? = some c := ⟨_, List.getElem?_eq_getElem (by have := hr.1; omega)⟩
                by_cases hxe : x = c
                · skip
                  refine wp_seq ?_
                  refine wp_seq ?_
                  refine wp_region_held_drew (S := Hp w13 []) (by kernel_rfl) (hH37.drew) (fun _ => ?_)
                  have hn : New w37 (World.drew w37) := (Fr.refl _ _).drew
                  clear hn
                  have hH38 := hH37.drew
                  clear hH37
                  generalize World.drew w37 = w38 at *
                  refine hV (fuel := 14) (i := 0) (Value.int .i64 (k : Int)) he37 rfl rfl rfl (by kernel_rfl) (by kernel_rfl) (by kernel_rfl) (fun _ _ _ h => h) (wanted_plain rfl _) (fun w' _ => rn_mv rfl (he37.op rfl) w') hH38 ?_
                  intro a39 he39
                  clear he37 a37
                  refine hV (fuel := 13) (i := 1) (Value.slice (some ⟨b, o0, none⟩) n cap) he39 rfl rfl rfl (by kernel_rfl) (by kernel_rfl) (by kernel_rfl) (fun _ _ _ h => h) (wanted_plain rfl _) (fun w' _ => rn_mv rfl (he39.op rfl) w') hH38 ?_
                  intro a40 he40
                  clear he39 a39
                  refine hV (fuel := 12) (i := 2) (Value.int .i64 (n : Nat)) he40 rfl rfl rfl (by kernel_rfl) (by kernel_rfl) (by kernel_rfl) (fun _ _ _ h => h) (wanted_plain rfl _) (fun w' _ => rn_lenC rfl (he40.op rfl) w') hH38 ?_
                  intro a41 he41
                  clear he40 a40
                  refine hV (fuel := 11) (i := 3) (Value.bool true) he41 rfl rfl rfl (by kernel_rfl) (by kernel_rfl) (by kernel_rfl) (fun _ _ _ h => h) (wanted_plain rfl _) (fun w' _ => rn_lss rfl (he41.op rfl) (he41.op rfl) (decide_eq_true (by omega)) w') hH38 ?_
                  intro a42 he42
                  clear he41 a41
                  refine hV (fuel := 10) (i := 4) (Value.bool true) he42 rfl rfl rfl (by kernel_rfl) (by kernel_rfl) (by kernel_rfl) (fun _ _ _ h => h) (wanted_plain rfl _) (fun w' _ => rn_mv rfl (he42.op rfl) w') hH38 ?_
                  intro a43 he43
                  clear he42 a42
                  refine hV (fuel := 9) (i := 5) (Value.slice (some ⟨b, o0, none⟩) n cap) he43 rfl rfl rfl (by kernel_rfl) (by kernel_rfl) (by kernel_rfl) (fun _ _ _ h => h) (he43.want rfl rfl rfl rfl rfl) (fun w' _ => rn_mv rfl (he43.op rfl) w') hH38 ?_
                  intro a44 he44
                  clear he43 a43
                  refine hV (fuel := 8) (i := 6) (Value.int .i64 (k : Int)) he44 rfl rfl rfl (by kernel_rfl) (by kernel_rfl) (by kernel_rfl) (fun _ _ _ h => h) (he44.want rfl rfl rfl rfl rfl) (fun w' _ => rn_mv rfl (he44.op rfl) w') hH38 ?_
                  intro a45 he45
                  clear he44 a44
                  refine hV (fuel := 7) (i := 7) (Value.pointer (some ⟨b, o0 + k * 16, none⟩)) he45 rfl rfl rfl (by kernel_rfl) (by kernel_rfl) (by kernel_rfl) (fun _ _ _ h => h) (he45.want rfl rfl rfl rfl rfl) (fun w' _ => rn_idx (i := k) rfl (he45.op rfl) (he45.op rfl) hkl (by rw [addr_add]) w') hH38 ?_
                  intro a46 he46
                  clear he45 a45
                  refine hV (fuel := 6) (i := 8) (Ce.v x) he46 rfl rfl rfl (by kernel_rfl) (by kernel_rfl) (by kernel_rfl) (fun _ _ _ h => h) (he46.want rfl rfl rfl rfl rfl) (fun w' hw' => rn_loadM (i := k) rfl (he46.op rfl) (hr.new hw'.new) hkl rfl hx) hH38 ?_
                  intro a47 he47
                  clear he46 a46
                  refine hV (fuel := 5) (i := 9) (Value.slice (some ⟨b, o0, none⟩) n cap) he47 rfl rfl rfl (by kernel_rfl) (by kernel_rfl) (by kernel_rfl) (fun _ _ _ h => h) (he47.want rfl rfl rfl rfl rfl) (fun w' _ => rn_mv rfl (he47.op rfl) w') hH38 ?_
                  intro a48 he48
                  clear he47 a47
                  refine hV (fuel := 4) (i := 10) (Value.int .i64 (i : Int)) he48 rfl rfl rfl (by kernel_rfl) (by kernel_rfl) (by kernel_rfl) (fun _ _ _ h => h) (he48.want rfl rfl rfl rfl rfl) (fun w' _ => rn_mv rfl (he48.op rfl) w') hH38 ?_
                  intro a49 he49
                  clear he48 a48
                  refine hV (fuel := 3) (i := 11) (Value.pointer (some ⟨b, o0 + i * 16, none⟩)) he49 rfl rfl rfl (by kernel_rfl) (by kernel_rfl) (by kernel_rfl) (fun _ _ _ h => h) (he49.want rfl rfl rfl rfl rfl) (fun w' _ => rn_idx (i := i) rfl (he49.op rfl) (he49.op rfl) hin (by rw [addr_add]) w') hH38 ?_
                  intro a50 he50
                  clear he49 a49
                  refine hV (fuel := 2) (i := 12) (Ce.v c) he50 rfl rfl rfl (by kernel_rfl) (by kernel_rfl) (by kernel_rfl) (fun _ _ _ h => h) (he50.want rfl rfl rfl rfl rfl) (fun w' hw' => rn_loadM (i := i) rfl (he50.op rfl) (hr.new hw'.new) hin rfl hc) hH38 ?_
                  intro a51 he51
                  clear he50 a50
                  refine hV (fuel := 1) (i := 13) (Value.bool true) he51 rfl rfl rfl (by kernel_rfl) (by kernel_rfl) (by kernel_rfl) (fun _ _ _ h => h) (he51.want rfl rfl rfl rfl rfl) (fun w' _ => rn_eqC rfl (he51.op rfl) (he51.op rfl) (decide_eq_true hxe) w') hH38 ?_
                  intro a52 he52
                  clear he51 a51
                  refine hV (fuel := 0) (i := 14) (Value.bool true) he52 rfl rfl rfl (by kernel_rfl) (by kernel_rfl) (by kernel_rfl) (fun _ _ _ h => h) (wanted_plain rfl _) (fun w' _ => rn_pk rfl (he52.op rfl) (he52.op rfl) w') hH38 ?_
                  intro a53 he53
                  clear he52 a52
                  refine wpAnyH_done (by kernel_rfl) ?_ _
                  refine then_ok ?_
                  refine wp_cond_true (he53.op rfl) ?_
                  refine wp_skip ?_
                  refine then_ok ?_
                  refine wp_block ?_
                  refine wp_region_lit ?_
                  refine lV (Value.int .i64 (k : Int)) he53 rfl rfl (wanted_plain rfl _) (rn_mv rfl (he53.op rfl) w38) ?_
                  intro a54 he54
                  clear he53 a53
                  refine lV (Value.int .i64 ((k + 1 : Nat) : Int)) he54 rfl rfl (wanted_plain rfl _) (rn_add1 rfl (he54.op rfl) (he54.op rfl) (by rw [IntWalk.i64_in _ ⟨by omega, by omega⟩]; rfl) w38) ?_
                  intro a55 he55
                  clear he54 a54
                  refine lV (Value.int .i64 ((k + 1 : Nat) : Int)) he55 rfl rfl (wanted_plain rfl _) (rn_asg rfl (he55.op rfl) w38) ?_
                  intro a56 he56
                  clear he55 a55
                  refine wpList_nil ?_
                  refine block_ok ?_
                  refine then_ok ?_
                  refine ⟨n - (k + 1), by omega, k + 1, rfl, by omega, by omega, fun j h1 h2 => ?_, he56.mem ⟨rfl, rfl, rfl, rfl, trivial⟩, hH38⟩
                  by_cases hj : j < k
                  · exact hall j h1 hj
                  · obtain rfl : j = k := by omega
                    rw [hx, hxe]
                · skip
                  have hki : i < k := by
                    rcases Nat.lt_or_ge i k with h | h
                    · exact h
                    · exfalso; obtain rfl : i = k := by omega
                      rw [hc] at hx; simp only [Option.some.injEq] at hx; exact hxe hx.symm
                  have hend : ∀ c', l[k]? = some c' → c ≠ c' := fun c' h e => by rw [hx] at h; simp only [Option.some.injEq] at h; exact hxe (by rw [h, e])
                  refine wp_seq ?_
                  refine wp_seq ?_
                  refine wp_region_held_drew (S := Hp w13 []) (by kernel_rfl) (hH37.drew) (fun _ => ?_)
                  have hn : New w37 (World.drew w37) := (Fr.refl _ _).drew
                  clear hn
                  have hH57 := hH37.drew
                  clear hH37
                  generalize World.drew w37 = w57 at *
                  refine hV (fuel := 14) (i := 0) (Value.int .i64 (k : Int)) he37 rfl rfl rfl (by kernel_rfl) (by kernel_rfl) (by kernel_rfl) (fun _ _ _ h => h) (wanted_plain rfl _) (fun w' _ => rn_mv rfl (he37.op rfl) w') hH57 ?_
                  intro a58 he58
                  clear he37 a37
                  refine hV (fuel := 13) (i := 1) (Value.slice (some ⟨b, o0, none⟩) n cap) he58 rfl rfl rfl (by kernel_rfl) (by kernel_rfl) (by kernel_rfl) (fun _ _ _ h => h) (wanted_plain rfl _) (fun w' _ => rn_mv rfl (he58.op rfl) w') hH57 ?_
                  intro a59 he59
                  clear he58 a58
                  refine hV (fuel := 12) (i := 2) (Value.int .i64 (n : Nat)) he59 rfl rfl rfl (by kernel_rfl) (by kernel_rfl) (by kernel_rfl) (fun _ _ _ h => h) (wanted_plain rfl _) (fun w' _ => rn_lenC rfl (he59.op rfl) w') hH57 ?_
                  intro a60 he60
                  clear he59 a59
                  refine hV (fuel := 11) (i := 3) (Value.bool true) he60 rfl rfl rfl (by kernel_rfl) (by kernel_rfl) (by kernel_rfl) (fun _ _ _ h => h) (wanted_plain rfl _) (fun w' _ => rn_lss rfl (he60.op rfl) (he60.op rfl) (decide_eq_true (by omega)) w') hH57 ?_
                  intro a61 he61
                  clear he60 a60
                  refine hV (fuel := 10) (i := 4) (Value.bool true) he61 rfl rfl rfl (by kernel_rfl) (by kernel_rfl) (by kernel_rfl) (fun _ _ _ h => h) (wanted_plain rfl _) (fun w' _ => rn_mv rfl (he61.op rfl) w') hH57 ?_
                  intro a62 he62
                  clear he61 a61
                  refine hV (fuel := 9) (i := 5) (Value.slice (some ⟨b, o0, none⟩) n cap) he62 rfl rfl rfl (by kernel_rfl) (by kernel_rfl) (by kernel_rfl) (fun _ _ _ h => h) (he62.want rfl rfl rfl rfl rfl) (fun w' _ => rn_mv rfl (he62.op rfl) w') hH57 ?_
                  intro a63 he63
                  clear he62 a62
                  refine hV (fuel := 8) (i := 6) (Value.int .i64 (k : Int)) he63 rfl rfl rfl (by kernel_rfl) (by kernel_rfl) (by kernel_rfl) (fun _ _ _ h => h) (he63.want rfl rfl rfl rfl rfl) (fun w' _ => rn_mv rfl (he63.op rfl) w') hH57 ?_
                  intro a64 he64
                  clear he63 a63
                  refine hV (fuel := 7) (i := 7) (Value.pointer (some ⟨b, o0 + k * 16, none⟩)) he64 rfl rfl rfl (by kernel_rfl) (by kernel_rfl) (by kernel_rfl) (fun _ _ _ h => h) (he64.want rfl rfl rfl rfl rfl) (fun w' _ => rn_idx (i := k) rfl (he64.op rfl) (he64.op rfl) hkl (by rw [addr_add]) w') hH57 ?_
                  intro a65 he65
                  clear he64 a64
                  refine hV (fuel := 6) (i := 8) (Ce.v x) he65 rfl rfl rfl (by kernel_rfl) (by kernel_rfl) (by kernel_rfl) (fun _ _ _ h => h) (he65.want rfl rfl rfl rfl rfl) (fun w' hw' => rn_loadM (i := k) rfl (he65.op rfl) (hr.new hw'.new) hkl rfl hx) hH57 ?_
                  intro a66 he66
                  clear he65 a65
                  refine hV (fuel := 5) (i := 9) (Value.slice (some ⟨b, o0, none⟩) n cap) he66 rfl rfl rfl (by kernel_rfl) (by kernel_rfl) (by kernel_rfl) (fun _ _ _ h => h) (he66.want rfl rfl rfl rfl rfl) (fun w' _ => rn_mv rfl (he66.op rfl) w') hH57 ?_
                  intro a67 he67
                  clear he66 a66
                  refine hV (fuel := 4) (i := 10) (Value.int .i64 (i : Int)) he67 rfl rfl rfl (by kernel_rfl) (by kernel_rfl) (by kernel_rfl) (fun _ _ _ h => h) (he67.want rfl rfl rfl rfl rfl) (fun w' _ => rn_mv rfl (he67.op rfl) w') hH57 ?_
                  intro a68 he68
                  clear he67 a67
                  refine hV (fuel := 3) (i := 11) (Value.pointer (some ⟨b, o0 + i * 16, none⟩)) he68 rfl rfl rfl (by kernel_rfl) (by kernel_rfl) (by kernel_rfl) (fun _ _ _ h => h) (he68.want rfl rfl rfl rfl rfl) (fun w' _ => rn_idx (i := i) rfl (he68.op rfl) (he68.op rfl) hin (by rw [addr_add]) w') hH57 ?_
                  intro a69 he69
                  clear he68 a68
                  refine hV (fuel := 2) (i := 12) (Ce.v c) he69 rfl rfl rfl (by kernel_rfl) (by kernel_rfl) (by kernel_rfl) (fun _ _ _ h => h) (he69.want rfl rfl rfl rfl rfl) (fun w' hw' => rn_loadM (i := i) rfl (he69.op rfl) (hr.new hw'.new) hin rfl hc) hH57 ?_
                  intro a70 he70
                  clear he69 a69
                  refine hV (fuel := 1) (i := 13) (Value.bool false) he70 rfl rfl rfl (by kernel_rfl) (by kernel_rfl) (by kernel_rfl) (fun _ _ _ h => h) (he70.want rfl rfl rfl rfl rfl) (fun w' _ => rn_eqC rfl (he70.op rfl) (he70.op rfl) (decide_eq_false hxe) w') hH57 ?_
                  intro a71 he71
                  clear he70 a70
                  refine hV (fuel := 0) (i := 14) (Value.bool false) he71 rfl rfl rfl (by kernel_rfl) (by kernel_rfl) (by kernel_rfl) (fun _ _ _ h => h) (wanted_plain rfl _) (fun w' _ => rn_pk rfl (he71.op rfl) (he71.op rfl) w') hH57 ?_
                  intro a72 he72
                  clear he71 a71
                  refine wpAnyH_done (by kernel_rfl) ?_ _
                  refine then_ok ?_
                  refine wp_cond_false (he72.op rfl) ?_
                  refine wp_exit ?_
                  simp only [Exit.then, Exit.inBlock, if_true]
                  have hpr := pack_rep hki (by omega) hall hlw
                  as_aux_lemma =>
                    refine wp_seq ?_
                    refine wp_region_lit ?_
                    refine lV (vr) he72 rfl rfl (wanted_plain rfl _) (rn_mv rfl (he72.op rfl) w57) ?_
                    intro a73 he73
                    clear he72 a72
                    refine lV (Value.int .i64 (k : Int)) he73 rfl rfl (wanted_plain rfl _) (rn_mv rfl (he73.op rfl) w57) ?_
                    intro a74 he74
                    clear he73 a73
                    refine lV (Value.int .i64 (i : Int)) he74 rfl rfl (wanted_plain rfl _) (rn_mv rfl (he74.op rfl) w57) ?_
                    intro a75 he75
                    clear he74 a74
                    refine lV (Value.int .i64 ((k - i : Nat) : Int)) he75 rfl rfl (wanted_plain rfl _) (rn_subI rfl (he75.op rfl) (he75.op rfl) (by rw [IntWalk.i64_in _ ⟨by omega, by omega⟩]; omega) w57) ?_
                    intro a76 he76
                    clear he75 a75
                    refine lV (Value.slice (some ⟨b, o0, none⟩) n cap) he76 rfl rfl (wanted_plain rfl _) (rn_mv rfl (he76.op rfl) w57) ?_
                    intro a77 he77
                    clear he76 a76
                    refine lV (Value.int .i64 (i : Int)) he77 rfl rfl (wanted_plain rfl _) (rn_mv rfl (he77.op rfl) w57) ?_
                    intro a78 he78
                    clear he77 a77
                    refine lV (Value.pointer (some ⟨b, o0 + i * 16, none⟩)) he78 rfl rfl (wanted_plain rfl _) (rn_idx (i := i) rfl (he78.op rfl) (he78.op rfl) hin (by rw [addr_add]) w57) ?_
                    intro a79 he79
                    clear he78 a78
                    refine lV (Ce.v c) he79 rfl rfl (wanted_plain rfl _) (rn_loadM (i := i) rfl (he79.op rfl) (hr.new hH57.new) hin rfl hc) ?_
                    intro a80 he80
                    clear he79 a79
                    refine lC he80 rfl rfl Tryd.func12 (by kernel_rfl) rfl rfl (wanted_plain rfl _) rfl (RWords_any c hv (hok c hcl) w57) ?_
                    intro w81 a82 hn he82
                    have hH81 := hH57.call hn
                    clear he80 a80 hH57 hn
                    refine lV (Rn.v ⟨((k - i : Nat) : Int), (wordsI c)⟩) he82 rfl rfl (wanted_plain rfl _) (rn_bR rfl (he82.op rfl) (he82.op rfl) w81) ?_
                    intro a83 he83
                    clear he82 a82
                    refine lNew (fun p => .slice (some ⟨p, 0, none⟩) 1 1) he83 hH81 rfl rfl (wanted_plain rfl _) (rn_bsr1 rfl (he83.op rfl) w81) ?_
                    intro p84 w84 a85 hn hH84 he85
                    clear he83 a83 hH81 hn
                    have hnew := rdg_blk (R := rR) (n := 1) (l := [⟨((k - i : Nat) : Int), wordsI c⟩]) (hH84.at (i := 0) rfl) rfl rfl
                    have hown1 := own_fr hown hH84.new (fun _ _ h => h)
                    refine lAppO (R := rR) hown1 hnew he85 rfl rfl (wanted_plain rfl _) rfl rfl rfl (by have := hpl.1; omega) (New.trans hR14 hH84.new).size ?_
                    intro vx wx a86 ho2 hgr _ he86
                    clear he85 a85
                    have hnx : New w wx := Fr.grown (New.trans hR14 hH84.new) hgr (fun k hk => .inr (own_blk hown1 k hk))
                    have hHx : Hp w [] wx := ⟨hnx, by simp, by simp⟩
                    clear hH84 hown1 hgr hnew
                    refine lV (vx) he86 rfl rfl (wanted_plain rfl _) (rn_asg rfl (he86.op rfl) wx) ?_
                    intro a87 he87
                    clear he86 a86
                    refine wpList_nil ?_
                    refine then_ok ?_
                    refine wp_region_lit ?_
                    refine lV (Value.int .i64 (k : Int)) he87 rfl rfl (wanted_plain rfl _) (rn_mv rfl (he87.op rfl) wx) ?_
                    intro a88 he88
                    clear he87 a87
                    refine lV (Value.int .i64 (k : Int)) he88 rfl rfl (wanted_plain rfl _) (rn_asg rfl (he88.op rfl) wx) ?_
                    intro a89 he89
                    clear he88 a88
                    refine wpList_nil ?_
                    refine block_ok ?_
                    refine then_ok ?_
                    have hlen2 : (packL (l.take k)).length = (packL (l.take i)).length + 1 := by rw [hpr]; simp
                    refine ⟨n - k, by omega, k, vx, rfl, by omega, fun d hd => ?_, .inr ⟨c, hall (k - 1) (by omega) (by omega), fun c' hc' => ?_⟩, he89.mem ⟨rfl, rfl, rfl, trivial⟩, hHx, by rw [OwnR, hlen2, hpr]; exact ho2⟩
                    · rw [take_rep (Nat.le_of_lt hki) (by omega) hall, List.mem_append] at hd
                      rcases hd with hd | hd
                      · exact hval d hd
                      · rw [List.eq_of_mem_replicate hd]; exact hv
                    · exact hend c' hc'
              · skip
                have hki : i < k := by omega
                have hend : ∀ c', l[k]? = some c' → c ≠ c' := fun c' h => by rw [List.getElem?_eq_none (by omega)] at h; cases h
                refine wp_seq ?_
                refine wp_seq ?_
                refine wp_region_held_drew (S := Hp w13 []) (by kernel_rfl) (hH37.drew) (fun _ => ?_)
                have hn : New w37 (World.drew w37) := (Fr.refl _ _).drew
                clear hn
                have hH90 := hH37.drew
                clear hH37
                generalize World.drew w37 = w90 at *
                refine hV (fuel := 14) (i := 0) (Value.int .i64 (k : Int)) he37 rfl rfl rfl (by kernel_rfl) (by kernel_rfl) (by kernel_rfl) (fun _ _ _ h => h) (wanted_plain rfl _) (fun w' _ => rn_mv rfl (he37.op rfl) w') hH90 ?_
                intro a91 he91
                clear he37 a37
                refine hV (fuel := 13) (i := 1) (Value.slice (some ⟨b, o0, none⟩) n cap) he91 rfl rfl rfl (by kernel_rfl) (by kernel_rfl) (by kernel_rfl) (fun _ _ _ h => h) (wanted_plain rfl _) (fun w' _ => rn_mv rfl (he91.op rfl) w') hH90 ?_
                intro a92 he92
                clear he91 a91
                refine hV (fuel := 12) (i := 2) (Value.int .i64 (n : Nat)) he92 rfl rfl rfl (by kernel_rfl) (by kernel_rfl) (by kernel_rfl) (fun _ _ _ h => h) (wanted_plain rfl _) (fun w' _ => rn_lenC rfl (he92.op rfl) w') hH90 ?_
                intro a93 he93
                clear he92 a92
                refine hV (fuel := 11) (i := 3) (Value.bool false) he93 rfl rfl rfl (by kernel_rfl) (by kernel_rfl) (by kernel_rfl) (fun _ _ _ h => h) (wanted_plain rfl _) (fun w' _ => rn_lss rfl (he93.op rfl) (he93.op rfl) (decide_eq_false (by omega)) w') hH90 ?_
                intro a94 he94
                clear he93 a93
                refine hV (fuel := 10) (i := 4) (Value.bool false) he94 rfl rfl rfl (by kernel_rfl) (by kernel_rfl) (by kernel_rfl) (fun _ _ _ h => h) (wanted_plain rfl _) (fun w' _ => rn_mv rfl (he94.op rfl) w') hH90 ?_
                intro a95 he95
                clear he94 a94
                refine hSkip (fuel := 9) (i := 5) he95 rfl rfl rfl (by kernel_rfl) (by kernel_rfl) (by kernel_rfl) (fun _ _ _ h => h) (he95.wantNot rfl rfl rfl rfl rfl rfl) hH90 ?_
                intro a96 he96
                clear he95 a95
                refine hSkip (fuel := 8) (i := 6) he96 rfl rfl rfl (by kernel_rfl) (by kernel_rfl) (by kernel_rfl) (fun _ _ _ h => h) (he96.wantNot rfl rfl rfl rfl rfl rfl) hH90 ?_
                intro a97 he97
                clear he96 a96
                refine hSkip (fuel := 7) (i := 7) he97 rfl rfl rfl (by kernel_rfl) (by kernel_rfl) (by kernel_rfl) (fun _ _ _ h => h) (he97.wantNot rfl rfl rfl rfl rfl rfl) hH90 ?_
                intro a98 he98
                clear he97 a97
                refine hSkip (fuel := 6) (i := 8) he98 rfl rfl rfl (by kernel_rfl) (by kernel_rfl) (by kernel_rfl) (fun _ _ _ h => h) (he98.wantNot rfl rfl rfl rfl rfl rfl) hH90 ?_
                intro a99 he99
                clear he98 a98
                refine hSkip (fuel := 5) (i := 9) he99 rfl rfl rfl (by kernel_rfl) (by kernel_rfl) (by kernel_rfl) (fun _ _ _ h => h) (he99.wantNot rfl rfl rfl rfl rfl rfl) hH90 ?_
                intro a100 he100
                clear he99 a99
                refine hSkip (fuel := 4) (i := 10) he100 rfl rfl rfl (by kernel_rfl) (by kernel_rfl) (by kernel_rfl) (fun _ _ _ h => h) (he100.wantNot rfl rfl rfl rfl rfl rfl) hH90 ?_
                intro a101 he101
                clear he100 a100
                refine hSkip (fuel := 3) (i := 11) he101 rfl rfl rfl (by kernel_rfl) (by kernel_rfl) (by kernel_rfl) (fun _ _ _ h => h) (he101.wantNot rfl rfl rfl rfl rfl rfl) hH90 ?_
                intro a102 he102
                clear he101 a101
                refine hSkip (fuel := 2) (i := 12) he102 rfl rfl rfl (by kernel_rfl) (by kernel_rfl) (by kernel_rfl) (fun _ _ _ h => h) (he102.wantNot rfl rfl rfl rfl rfl rfl) hH90 ?_
                intro a103 he103
                clear he102 a102
                refine hSkip (fuel := 1) (i := 13) he103 rfl rfl rfl (by kernel_rfl) (by kernel_rfl) (by kernel_rfl) (fun _ _ _ h => h) (he103.wantNot rfl rfl rfl rfl rfl rfl) hH90 ?_
                intro a104 he104
                clear he103 a103
                refine hV (fuel := 0) (i := 14) (Value.bool false) he104 rfl rfl rfl (by kernel_rfl) (by kernel_rfl) (by kernel_rfl) (fun _ _ _ h => h) (wanted_plain rfl _) (fun w' _ => rn_pk0 rfl (he104.op rfl) (he104.op rfl) w') hH90 ?_
                intro a105 he105
                clear he104 a104
                refine wpAnyH_done (by kernel_rfl) ?_ _
                refine then_ok ?_
                refine wp_cond_false (he105.op rfl) ?_
                refine wp_exit ?_
                simp only [Exit.then, Exit.inBlock, if_true]
                have hpr := pack_rep hki (by omega) hall hlw
                as_aux_lemma =>
                  refine wp_seq ?_
                  refine wp_region_lit ?_
                  refine lV (vr) he105 rfl rfl (wanted_plain rfl _) (rn_mv rfl (he105.op rfl) w90) ?_
                  intro a106 he106
                  clear he105 a105
                  refine lV (Value.int .i64 (k : Int)) he106 rfl rfl (wanted_plain rfl _) (rn_mv rfl (he106.op rfl) w90) ?_
                  intro a107 he107
                  clear he106 a106
                  refine lV (Value.int .i64 (i : Int)) he107 rfl rfl (wanted_plain rfl _) (rn_mv rfl (he107.op rfl) w90) ?_
                  intro a108 he108
                  clear he107 a107
                  refine lV (Value.int .i64 ((k - i : Nat) : Int)) he108 rfl rfl (wanted_plain rfl _) (rn_subI rfl (he108.op rfl) (he108.op rfl) (by rw [IntWalk.i64_in _ ⟨by omega, by omega⟩]; omega) w90) ?_
                  intro a109 he109
                  clear he108 a108
                  refine lV (Value.slice (some ⟨b, o0, none⟩) n cap) he109 rfl rfl (wanted_plain rfl _) (rn_mv rfl (he109.op rfl) w90) ?_
                  intro a110 he110
                  clear he109 a109
                  refine lV (Value.int .i64 (i : Int)) he110 rfl rfl (wanted_plain rfl _) (rn_mv rfl (he110.op rfl) w90) ?_
                  intro a111 he111
                  clear he110 a110
                  refine lV (Value.pointer (some ⟨b, o0 + i * 16, none⟩)) he111 rfl rfl (wanted_plain rfl _) (rn_idx (i := i) rfl (he111.op rfl) (he111.op rfl) hin (by rw [addr_add]) w90) ?_
                  intro a112 he112
                  clear he111 a111
                  refine lV (Ce.v c) he112 rfl rfl (wanted_plain rfl _) (rn_loadM (i := i) rfl (he112.op rfl) (hr.new hH90.new) hin rfl hc) ?_
                  intro a113 he113
                  clear he112 a112
                  refine lC he113 rfl rfl Tryd.func12 (by kernel_rfl) rfl rfl (wanted_plain rfl _) rfl (RWords_any c hv (hok c hcl) w90) ?_
                  intro w114 a115 hn he115
                  have hH114 := hH90.call hn
                  clear he113 a113 hH90 hn
                  refine lV (Rn.v ⟨((k - i : Nat) : Int), (wordsI c)⟩) he115 rfl rfl (wanted_plain rfl _) (rn_bR rfl (he115.op rfl) (he115.op rfl) w114) ?_
                  intro a116 he116
                  clear he115 a115
                  refine lNew (fun p => .slice (some ⟨p, 0, none⟩) 1 1) he116 hH114 rfl rfl (wanted_plain rfl _) (rn_bsr1 rfl (he116.op rfl) w114) ?_
                  intro p117 w117 a118 hn hH117 he118
                  clear he116 a116 hH114 hn
                  have hnew := rdg_blk (R := rR) (n := 1) (l := [⟨((k - i : Nat) : Int), wordsI c⟩]) (hH117.at (i := 0) rfl) rfl rfl
                  have hown1 := own_fr hown hH117.new (fun _ _ h => h)
                  refine lAppO (R := rR) hown1 hnew he118 rfl rfl (wanted_plain rfl _) rfl rfl rfl (by have := hpl.1; omega) (New.trans hR14 hH117.new).size ?_
                  intro vx wx a119 ho2 hgr _ he119
                  clear he118 a118
                  have hnx : New w wx := Fr.grown (New.trans hR14 hH117.new) hgr (fun k hk => .inr (own_blk hown1 k hk))
                  have hHx : Hp w [] wx := ⟨hnx, by simp, by simp⟩
                  clear hH117 hown1 hgr hnew
                  refine lV (vx) he119 rfl rfl (wanted_plain rfl _) (rn_asg rfl (he119.op rfl) wx) ?_
                  intro a120 he120
                  clear he119 a119
                  refine wpList_nil ?_
                  refine then_ok ?_
                  refine wp_region_lit ?_
                  refine lV (Value.int .i64 (k : Int)) he120 rfl rfl (wanted_plain rfl _) (rn_mv rfl (he120.op rfl) wx) ?_
                  intro a121 he121
                  clear he120 a120
                  refine lV (Value.int .i64 (k : Int)) he121 rfl rfl (wanted_plain rfl _) (rn_asg rfl (he121.op rfl) wx) ?_
                  intro a122 he122
                  clear he121 a121
                  refine wpList_nil ?_
                  refine block_ok ?_
                  refine then_ok ?_
                  have hlen2 : (packL (l.take k)).length = (packL (l.take i)).length + 1 := by rw [hpr]; simp
                  refine ⟨n - k, by omega, k, vx, rfl, by omega, fun d hd => ?_, .inr ⟨c, hall (k - 1) (by omega) (by omega), fun c' hc' => ?_⟩, he122.mem ⟨rfl, rfl, rfl, trivial⟩, hHx, by rw [OwnR, hlen2, hpr]; exact ho2⟩
                  · rw [take_rep (Nat.le_of_lt hki) (by omega) hall, List.mem_append] at hd
                    rcases hd with hd | hd
                    · exact hval d hd
                    · rw [List.eq_of_mem_replicate hd]; exact hv
                  · exact hend c' hc'
      · skip
        refine wp_seq ?_
        refine wp_seq ?_
        refine wp_region_lit ?_
        refine lV (Value.int .i64 (i : Int)) he13 rfl rfl (wanted_plain rfl _) (rn_mv rfl (he13.op rfl) w13) ?_
        intro a123 he123
        clear he13 a13
        refine lV (Value.slice A n cap) he123 rfl rfl (wanted_plain rfl _) (rn_mv rfl (he123.op rfl) w13) ?_
        intro a124 he124
        clear he123 a123
        refine lV (Value.int .i64 (n : Nat)) he124 rfl rfl (wanted_plain rfl _) (rn_lenC rfl (he124.op rfl) w13) ?_
        intro a125 he125
        clear he124 a124
        refine lV (Value.bool false) he125 rfl rfl (wanted_plain rfl _) (rn_lss rfl (he125.op rfl) (he125.op rfl) (decide_eq_false (by omega)) w13) ?_
        intro a126 he126
        clear he125 a125
        refine wpList_nil ?_
        refine then_ok ?_
        refine wp_cond_false (he126.op rfl) ?_
        refine wp_exit ?_
        simp only [Exit.then, Exit.inBlock, if_true]
        rw [List.take_of_length_le (by omega)] at hval hown
        have he1 : packE l = 0 := packE_ok (by omega) hval
        have he2 := packO_eq he1
        refine wp_seq ?_
        refine wp_region_lit ?_
        refine lV (vr) he126 rfl rfl (wanted_plain rfl _) (rn_mv rfl (he126.op rfl) w13) ?_
        intro a127 he127
        clear he126 a126
        refine lV (vr) he127 rfl rfl (wanted_plain rfl _) (rn_asg rfl (he127.op rfl) w13) ?_
        intro a128 he128
        clear he127 a127
        refine lV (Value.int .i64 0) he128 rfl rfl (wanted_plain rfl _) (rn_asg rfl (he128.op rfl) w13) ?_
        intro a129 he129
        clear he128 a128
        refine wpList_nil ?_
        refine then_ok ?_
        obtain ⟨b', A', c', rfl, -, hrd⟩ := own_rdg (R := rR) hown
        refine wp_ret ?_
        try simp only [Exit.then, Exit.inBlock]
        exact ret_tt rfl he129 rfl rfl ⟨⟨A', c', b', by rw [he1, he2], by rw [he2]; exact hrd⟩, hH13.new⟩

end Go.Proofs.YtaiijndldngnkaaDoor
namespace Go.Proofs.YtaiijndldngnkaaDoor
open Go.RowKit

abbrev OwnC (w : World) (base : Nat) (v : Value) (n : Nat) (l : List Ce) : Prop := w.ownsRow base 30 16 v n (flatG rC l)
theorem cells_take {l : List Rn} {k : Nat} {c : Rn} (h : l[k]? = some c) : cellsR (l.take (k + 1)) = cellsR (l.take k) ++ List.replicate c.n.toNat (cellI c.w) := by
  rw [take_snocR l k c h, cellsR_append, cellsR_cons]
  simp [cellsR]
theorem rep_succ (j : Nat) (c : Ce) : List.replicate (j + 1) c = List.replicate j c ++ [c] := by rw [List.replicate_succ']
theorem cells_sub {l : List Rn} {k : Nat} : (cellsR (l.take k)).length ≤ (cellsR l).length := by
  have : cellsR l = cellsR (l.take k) ++ cellsR (l.drop k) := by rw [← cellsR_append, List.take_append_drop]
  rw [this, List.length_append]
  omega
theorem Hp.root {w0 w1 w : World} {H : List Bk} (h : Hp w1 H w) (hn : New w0 w1) : Hp w0 H w := ⟨New.trans hn h.new, h.nd, fun b hb => ⟨Nat.le_trans hn.size (h.bl b hb).1, (h.bl b hb).2⟩⟩
theorem own_lt {w : World} {base sz n : Nat} {e : TypeId} {v : Value} {xs : List Value} (h : w.ownsRow base e sz v n xs) : ∀ k, v.ownBlock = some k → k < w.heap.size := by
  intro k hk
  rcases h.2 with ⟨rfl, _⟩ | ⟨g, cap, cur, rfl, _, hg, _⟩
  · simp [Value.ownBlock] at hk
  · have : g = k := by simpa [Value.ownBlock] using hk
    subst this
    exact Blk.lt hg

set_option linter.unusedSimpArgs false in
set_option maxRecDepth 100000 in
set_option maxHeartbeats 1600000 in
theorem Unpack_any (l : List Rn) (n b cap : Nat) (A : Option Addr) (w : World) (hr : RdR w b A n l) (hok : ∀ r ∈ l, r.Ok) (hn : n ≤ 1000000) (hT : Tab w) :
    Calls Tryd.prog 36 #[.slice A n cap] w fun e w' => (∃ (A' : Option Addr) (c' b' : Nat), e = .returned (.tuple #[.slice A' (cellsO l).length c', .int .i64 (if goodR l then 0 else 12)]) ∧ RdC w' b' A' (cellsO l).length (cellsO l)) ∧ New w w' := by
  have hl := hr.1
  obtain ⟨ga, hga⟩ : ∃ ga, goodR l = ga := ⟨_, rfl⟩
  refine calls_args (vl := [Value.slice A n cap]) 43 Tryd.func36 rfl Tryd.ntmps36 (by kernel_rfl) (fun a he => ?_)
  have he0 : Env 43 [(0, Value.slice A n cap)] a := he
  clear he
  have hH := Hp.start w
  refine wp_seq ?_
  refine wp_region_lit ?_
  refine lV (Value.slice none 0 0) he0 rfl rfl (wanted_plain rfl _) (rn_asg rfl (he0.op rfl) w) ?_
  intro a1 he1
  clear he0 a
  refine lV (Value.int .i64 0) he1 rfl rfl (wanted_plain rfl _) (rn_asg rfl (he1.op rfl) w) ?_
  intro a2 he2
  clear he1 a1
  refine wpList_nil ?_
  refine then_ok ?_
  refine wp_seq ?_
  refine wp_region_lit ?_
  refine lV (Value.slice A n cap) he2 rfl rfl (wanted_plain rfl _) (rn_mv rfl (he2.op rfl) w) ?_
  intro a3 he3
  clear he2 a2
  refine lC he3 rfl rfl Tryd.func35 (by kernel_rfl) rfl rfl (wanted_plain rfl _) rfl (hga ▸ counted_any l n b cap A w (hr.new hH.new) hok (by omega) (hT.new hH.new)) ?_
  intro w4 a5 hn he5
  have hH4 := hH.call hn
  clear he3 a3 hH hn
  refine lV (Value.tuple #[Value.int .i64 (countR l), Value.bool ga]) he5 rfl rfl (wanted_plain rfl _) (rn_mv rfl (he5.op rfl) w4) ?_
  intro a6 he6
  clear he5 a5
  refine lV (Value.int .i64 (countR l)) he6 rfl rfl (wanted_plain rfl _) (rn_ext rfl (he6.op rfl) rfl w4) ?_
  intro a7 he7
  clear he6 a6
  refine lV (Value.bool ga) he7 rfl rfl (wanted_plain rfl _) (rn_ext rfl (he7.op rfl) rfl w4) ?_
  intro a8 he8
  clear he7 a7
  refine lV (Value.int .i64 (countR l)) he8 rfl rfl (wanted_plain rfl _) (rn_asg rfl (he8.op rfl) w4) ?_
  intro a9 he9
  clear he8 a8
  refine lV (Value.bool ga) he9 rfl rfl (wanted_plain rfl _) (rn_asg rfl (he9.op rfl) w4) ?_
  intro a10 he10
  clear he9 a9
  refine wpList_nil ?_
  refine then_ok ?_
  cases ga with
  | false =>
    refine wp_seq ?_
    refine wp_seq ?_
    refine wp_region_lit ?_
    refine lV (Value.bool false) he10 rfl rfl (wanted_plain rfl _) (rn_mv rfl (he10.op rfl) w4) ?_
    intro a11 he11
    clear he10 a10
    refine lV (Value.bool true) he11 rfl rfl (wanted_plain rfl _) (rn_not (b := false) rfl (he11.op rfl) w4) ?_
    intro a12 he12
    clear he11 a11
    refine wpList_nil ?_
    refine then_ok ?_
    refine wp_cond_true (he12.op rfl) ?_
    refine wp_seq ?_
    refine wp_region_lit ?_
    refine lV (Value.slice none 0 0) he12 rfl rfl (wanted_plain rfl _) (rn_asg rfl (he12.op rfl) w4) ?_
    intro a13 he13
    clear he12 a12
    refine lV (Value.int .i64 12) he13 rfl rfl (wanted_plain rfl _) (rn_asg rfl (he13.op rfl) w4) ?_
    intro a14 he14
    clear he13 a13
    refine wpList_nil ?_
    refine then_ok ?_
    have he : cellsO l = [] := by rw [cellsO, hga]; rfl
    refine wp_ret ?_
    try simp only [Exit.then, Exit.inBlock]
    exact ret_tt rfl he14 rfl rfl ⟨⟨none, 0, 0, by rw [he, hga]; rfl, by rw [he]; exact RdC.nil _ _ _⟩, hH4.new⟩
  | true =>
    have hct := count_len hga
    have hG := good_all hga
    refine wp_seq ?_
    refine wp_seq ?_
    refine wp_region_lit ?_
    refine lV (Value.bool true) he10 rfl rfl (wanted_plain rfl _) (rn_mv rfl (he10.op rfl) w4) ?_
    intro a15 he15
    clear he10 a10
    refine lV (Value.bool false) he15 rfl rfl (wanted_plain rfl _) (rn_not (b := true) rfl (he15.op rfl) w4) ?_
    intro a16 he16
    clear he15 a15
    refine wpList_nil ?_
    refine then_ok ?_
    refine wp_cond_false (he16.op rfl) ?_
    refine wp_skip ?_
    refine then_ok ?_
    have he17 : Env 43 [(4, Value.int .i64 (countR l)), (0, Value.slice A n cap)] a16 := he16.mem ⟨rfl, rfl, trivial⟩
    clear he16
    refine wp_seq ?_
    refine wp_region_lit ?_
    rw [hct.1] at he17
    refine lV (Value.int .i64 ((cellsR l).length)) he17 rfl rfl (wanted_plain rfl _) (rn_mv rfl (he17.op rfl) w4) ?_
    intro a18 he18
    clear he17 a16
    refine lMk (R := rC) (c := (cellsR l).length) he18 rfl rfl (wanted_plain rfl _) rfl rfl (by omega) hH4.new.size ?_
    intro wx a19 hown hgr he19
    clear he18 a18
    have hnx : New w wx := Fr.grown hH4.new hgr (fun k hk => by cases hk)
    have hHx : Hp w [] wx := ⟨hnx, by simp, by simp⟩
    generalize Value.slice (some ⟨w4.heap.size, 0, none⟩) 0 (cellsR l).length = vm at *
    clear hH4 hgr hnx
    refine lV (vm) he19 rfl rfl (wanted_plain rfl _) (rn_asg rfl (he19.op rfl) wx) ?_
    intro a20 he20
    clear he19 a19
    refine wpList_nil ?_
    refine then_ok ?_
    have he21 : Env 43 [(6, vm), (0, Value.slice A n cap)] a20 := he20.mem ⟨rfl, rfl, trivial⟩
    clear he20
    refine wp_seq ?_
    refine wp_seq ?_
    refine wp_region_lit ?_
    refine lV (Value.slice A n cap) he21 rfl rfl (wanted_plain rfl _) (rn_mv rfl (he21.op rfl) wx) ?_
    intro a22 he22
    clear he21 a20
    refine lV (Value.int .i64 (n : Nat)) he22 rfl rfl (wanted_plain rfl _) (rn_lenR rfl (he22.op rfl) wx) ?_
    intro a23 he23
    clear he22 a22
    refine lV (Value.int .i64 0) he23 rfl rfl (wanted_plain rfl _) (rn_mv rfl (he23.op rfl) wx) ?_
    intro a24 he24
    clear he23 a23
    refine wpList_nil ?_
    refine then_ok ?_
    refine wp_block ?_
    refine loop_nat (fun q a w' => ∃ (k : Nat) (vr : Value), q = n - k ∧ k ≤ n ∧ Env 43 [(0, Value.slice A n cap), (6, vr), (20, Value.slice A n cap), (21, Value.int .i64 (n : Nat)), (22, Value.int .i64 (k : Int))] a ∧ Hp w [] w' ∧ OwnC w' w.heap.size vr (cellsR (l.take k)).length (cellsR (l.take k))) n ⟨0, _, by omega, by omega, he24.mem ⟨rfl, rfl, rfl, rfl, rfl, trivial⟩, hHx, hown⟩ ?_
    clear he24 hHx
    rintro q a25 w25 ⟨k, vr, rfl, hk, he25, hH25, hown⟩
    as_aux_lemma =>
      by_cases hkn : k < n
      · skip
        have hT26 := hT.new hH25.new
        have hR26 := hH25.new
        replace hr := hr.new hH25.new
        have hH26 := Hp.start w25
        clear hH25 hT 
        refine wp_seq ?_
        refine wp_region_lit ?_
        refine lV (Value.bool true) he25 rfl rfl (wanted_plain rfl _) (rn_lss rfl (he25.op rfl) (he25.op rfl) (decide_eq_true (by omega)) w25) ?_
        intro a27 he27
        clear he25 a25
        refine wpList_nil ?_
        refine then_ok ?_
        refine wp_seq ?_
        refine wp_cond_true (he27.op rfl) ?_
        refine wp_skip ?_
        refine then_ok ?_
        obtain ⟨o0, rfl⟩ := hr.base (by omega)
        obtain ⟨c, hc⟩ : ∃ c, l[k]? = some c := ⟨_, List.getElem?_eq_getElem (by have := hr.1; omega)⟩
        have hcl : c ∈ l := List.mem_of_getElem? hc
        have hcg := hG c hcl
        have hsub := cells_sub (l := l) (k := k + 1)
        rw [cells_take hc, List.length_append, List.length_replicate] at hsub
        refine wp_seq ?_
        refine wp_block ?_
        refine wp_seq ?_
        refine wp_region_lit ?_
        refine lV (Value.pointer (some ⟨b, o0 + k * 4, none⟩)) he27 rfl rfl (wanted_plain rfl _) (rn_idxR (i := k) rfl (he27.op rfl) (he27.op rfl) hkn (by rw [addr_add]) w25) ?_
        intro a28 he28
        clear he27 a27
        refine lV (Rn.v c) he28 rfl rfl (wanted_plain rfl _) (rn_sR (i := k) rfl (he28.op rfl) (hr.new hH26.new) rfl hc) ?_
        intro a29 he29
        clear he28 a28
        refine lNew (fun p => .pointer (some ⟨p, 0, none⟩)) he29 hH26 rfl rfl (wanted_plain rfl _) (rn_allocR rfl w25) ?_
        intro p30 w30 a31 hn hH30 he31
        clear he29 a29 hH26 hn
        refine lSetV 0 (Rn.cs c) (cs := (Rn.cs c)) he31 hH30 rfl (wanted_plain rfl _) rfl rfl rfl rfl rfl (by kernel_rfl) (by kernel_rfl) (by kernel_rfl) rfl ?_
        intro w32 a33 hH32 he33
        replace hH32 : Hp w25 [⟨p30, 67, (Rn.cs c)⟩] w32 := hH32
        clear he31 a31 hH30
        refine wpList_nil ?_
        refine then_ok ?_
        refine wp_seq ?_
        refine wp_region_lit ?_
        refine lV (Value.pointer (some ⟨p30, 1, none⟩)) he33 rfl rfl (wanted_plain rfl _) (rn_faR1 rfl (he33.op rfl) rfl w32) ?_
        intro a34 he34
        clear he33 a33
        refine lV (Wd.v c.w) he34 rfl rfl (wanted_plain rfl _) (rn_ldp [Value.int .u64 c.w.a, Value.int .u64 c.w.b, Value.int .u64 c.w.c] rfl (he34.op rfl) Tryd.underlying34 rfl infoW3 (hH32.at (i := 0) rfl) rfl) ?_
        intro a35 he35
        clear he34 a34
        refine lC he35 rfl rfl Tryd.func33 (by kernel_rfl) rfl rfl (wanted_plain rfl _) rfl (PCell_yes c.w (hok c hcl).w hcg.2.2 w32 (hT26.new hH32.new)) ?_
        intro w36 a37 hn he37
        have hH36 := hH32.call hn
        clear he35 a35 hH32 hn
        refine lV (Value.tuple #[Ce.v (cellI c.w), Value.int .i64 0]) he37 rfl rfl (wanted_plain rfl _) (rn_mv rfl (he37.op rfl) w36) ?_
        intro a38 he38
        clear he37 a37
        refine lV (Ce.v (cellI c.w)) he38 rfl rfl (wanted_plain rfl _) (rn_ext rfl (he38.op rfl) rfl w36) ?_
        intro a39 he39
        clear he38 a38
        refine lV (Value.int .i64 0) he39 rfl rfl (wanted_plain rfl _) (rn_ext rfl (he39.op rfl) rfl w36) ?_
        intro a40 he40
        clear he39 a39
        refine lNew (fun p => .pointer (some ⟨p, 0, none⟩)) he40 hH36 rfl rfl (wanted_plain rfl _) (rn_alloc rfl w36) ?_
        intro p41 w41 a42 hn hH41 he42
        clear he40 a40 hH36 hn
        refine lSetV 0 (Ce.cs (cellI c.w)) (cs := (Ce.cs (cellI c.w))) he42 hH41 rfl (wanted_plain rfl _) rfl rfl rfl rfl rfl (by kernel_rfl) (by kernel_rfl) (by kernel_rfl) rfl ?_
        intro w43 a44 hH43 he44
        replace hH43 : Hp w25 [⟨p41, 30, (Ce.cs (cellI c.w))⟩, ⟨p30, 67, (Rn.cs c)⟩] w43 := hH43
        clear he42 a42 hH41
        refine lV (Value.int .i64 0) he44 rfl rfl (wanted_plain rfl _) (rn_asg rfl (he44.op rfl) w43) ?_
        intro a45 he45
        clear he44 a44
        refine wpList_nil ?_
        refine then_ok ?_
        refine wp_seq ?_
        refine wp_region_lit ?_
        refine lV (Value.pointer (some ⟨p30, 0, none⟩)) he45 rfl rfl (wanted_plain rfl _) (rn_faR0 rfl (he45.op rfl) rfl w43) ?_
        intro a46 he46
        clear he45 a45
        refine lV (Value.int .i64 c.n) he46 rfl rfl (wanted_plain rfl _) (rn_ld1 rfl (he46.op rfl) Tryd.underlying3 (hH43.at (i := 1) rfl) rfl) ?_
        intro a47 he47
        clear he46 a46
        refine lV (Value.int .i64 0) he47 rfl rfl (wanted_plain rfl _) (rn_mv rfl (he47.op rfl) w43) ?_
        intro a48 he48
        clear he47 a47
        refine wpList_nil ?_
        refine then_ok ?_
        have he49 : Env 43 [(34, Value.int .i64 0), (33, Value.int .i64 c.n), (9, Value.pointer (some ⟨p41, 0, none⟩)), (0, Value.slice (some ⟨b, o0, none⟩) n cap), (6, vr), (20, Value.slice (some ⟨b, o0, none⟩) n cap), (21, Value.int .i64 (n : Nat)), (22, Value.int .i64 (k : Int))] a48 := he48.mem ⟨rfl, rfl, rfl, rfl, rfl, rfl, rfl, rfl, trivial⟩
        clear he48
        refine wp_block ?_
        have hH50 : Hp w25 [⟨p41, 30, (Ce.cs (cellI c.w))⟩] w43 := (hH43.drop1 1 rfl)
        clear hH43
        have hown0 : OwnC w43 w.heap.size vr (cellsR (l.take k) ++ List.replicate 0 (cellI c.w)).length (cellsR (l.take k) ++ List.replicate 0 (cellI c.w)) := by
          rw [List.replicate_zero, List.append_nil]; exact own_fr hown hH50.new (fun _ _ h => h)
        have hne0 : ∀ q, vr.ownBlock = some q → q ≠ p41 := fun q hq e => by have h1 := own_lt hown q hq; have h2 : w25.heap.size ≤ p41 := hH50.lo (i := 0) rfl; omega
        have hpl0 : p41 < w43.heap.size := Blk.lt (hH50.at (i := 0) rfl)
        have hHw := hH50.root hR26
        clear hH50
        refine loop_nat (fun q a w' => ∃ (j : Nat) (vi : Value), q = c.n.toNat - j ∧ (j : Int) ≤ c.n ∧ Env 43 [(0, Value.slice (some ⟨b, o0, none⟩) n cap), (6, vi), (9, Value.pointer (some ⟨p41, 0, none⟩)), (20, Value.slice (some ⟨b, o0, none⟩) n cap), (21, Value.int .i64 (n : Nat)), (22, Value.int .i64 (k : Int)), (33, Value.int .i64 c.n), (34, Value.int .i64 (j : Int))] a ∧ Hp w [⟨p41, 30, (Ce.cs (cellI c.w))⟩] w' ∧ OwnC w' w.heap.size vi (cellsR (l.take k) ++ List.replicate j (cellI c.w)).length (cellsR (l.take k) ++ List.replicate j (cellI c.w)) ∧ (∀ q, vi.ownBlock = some q → q ≠ p41)) c.n.toNat ⟨0, vr, by omega, by omega, he49.mem ⟨rfl, rfl, rfl, rfl, rfl, rfl, rfl, rfl, trivial⟩, hHw, hown0, hne0⟩ ?_
        clear he49 hHw
        rintro q a51 w51 ⟨j, vi, rfl, hj, he51, hH51, howni, hne⟩
        as_aux_lemma =>
          by_cases hjn : (j : Int) < c.n
          · skip
            refine wp_seq ?_
            refine wp_region_lit ?_
            refine lV (Value.bool true) he51 rfl rfl (wanted_plain rfl _) (rn_lss rfl (he51.op rfl) (he51.op rfl) (decide_eq_true (by omega)) w51) ?_
            intro a52 he52
            clear he51 a51
            refine wpList_nil ?_
            refine then_ok ?_
            refine wp_seq ?_
            refine wp_cond_true (he52.op rfl) ?_
            refine wp_skip ?_
            refine then_ok ?_
            refine wp_seq ?_
            refine wp_block ?_
            refine wp_region_lit ?_
            refine lV (vi) he52 rfl rfl (wanted_plain rfl _) (rn_mv rfl (he52.op rfl) w51) ?_
            intro a53 he53
            clear he52 a52
            refine lV (Ce.v (cellI c.w)) he53 rfl rfl (wanted_plain rfl _) (rn_load rfl (he53.op rfl) (hH51.at (i := 0) rfl)) ?_
            intro a54 he54
            clear he53 a53
            refine lNew (fun p => .slice (some ⟨p, 0, none⟩) 1 1) he54 hH51 rfl rfl (wanted_plain rfl _) (rn_bs1 rfl (he54.op rfl) w51) ?_
            intro p55 w55 a56 hn hH55 he56
            replace howni := own_fr howni hn (fun _ _ h => h)
            clear he54 a54 hH51 hn
            have hnew := rdg_blk (R := rC) (n := 1) (l := [cellI c.w]) (hH55.at (i := 0) rfl) rfl rfl
            have hlt9 : p41 < w55.heap.size := Blk.lt (hH55.at (i := 1) rfl)
            have hH57 := hH55.tail rfl
            have hB9 := hH57.at (i := 0) rfl
            refine lAppO (R := rC) howni hnew he56 rfl rfl (wanted_plain rfl _) rfl rfl rfl (by rw [List.length_append, List.length_replicate]; omega) hH55.new.size ?_
            intro vx wx a58 ho2 hgr hor he58
            clear he56 a56
            have hfr : Fr (fun q => vi.ownBlock = some q) w55 wx := Fr.grown (Fr.refl _ _) hgr (fun q hq => .inl hq)
            have hHx := hH57.own hfr (fun q hq => own_blk howni q hq) (fun b hb hs => by rw [List.mem_singleton.1 hb] at hs; exact hne _ hs rfl)
            have hnex : ∀ q, vx.ownBlock = some q → q ≠ p41 := fun q hq e => by
              rcases hor with h | h
              · rw [h] at hq; exact hne q hq e
              · rw [h] at hq; simp only [Option.some.injEq] at hq; omega
            clear hH55 hH57 hgr hor hfr hnew howni hne
            refine lV (vx) he58 rfl rfl (wanted_plain rfl _) (rn_asg rfl (he58.op rfl) wx) ?_
            intro a59 he59
            clear he58 a58
            refine wpList_nil ?_
            refine block_ok ?_
            refine then_ok ?_
            refine wp_region_lit ?_
            refine lV (Value.int .i64 ((j + 1 : Nat) : Int)) he59 rfl rfl (wanted_plain rfl _) (rn_add1 rfl (he59.op rfl) (he59.op rfl) (by rw [IntWalk.i64_in _ ⟨by omega, by omega⟩]; rfl) wx) ?_
            intro a60 he60
            clear he59 a59
            refine lV (Value.int .i64 ((j + 1 : Nat) : Int)) he60 rfl rfl (wanted_plain rfl _) (rn_mv rfl (he60.op rfl) wx) ?_
            intro a61 he61
            clear he60 a60
            refine wpList_nil ?_
            refine then_ok ?_
            have hlen : (cellsR (l.take k) ++ List.replicate (j + 1) (cellI c.w)).length = (cellsR (l.take k) ++ List.replicate j (cellI c.w)).length + 1 := by simp only [List.length_append, List.length_replicate]; omega
            exact ⟨c.n.toNat - (j + 1), by omega, j + 1, vx, rfl, by omega, he61.mem ⟨rfl, rfl, rfl, rfl, rfl, rfl, rfl, rfl, trivial⟩, hHx, by rw [OwnC, hlen, rep_succ, ← List.append_assoc]; exact ho2, hnex⟩
          · skip
            refine wp_seq ?_
            refine wp_region_lit ?_
            refine lV (Value.bool false) he51 rfl rfl (wanted_plain rfl _) (rn_lss rfl (he51.op rfl) (he51.op rfl) (decide_eq_false (by omega)) w51) ?_
            intro a62 he62
            clear he51 a51
            refine wpList_nil ?_
            refine then_ok ?_
            refine wp_seq ?_
            refine wp_cond_false (he62.op rfl) ?_
            refine wp_exit ?_
            simp only [Exit.then, Exit.inBlock, if_true]
            refine wp_region_lit ?_
            refine lV (Value.int .i64 ((k + 1 : Nat) : Int)) he62 rfl rfl (wanted_plain rfl _) (rn_add1 rfl (he62.op rfl) (he62.op rfl) (by rw [IntWalk.i64_in _ ⟨by omega, by omega⟩]; rfl) w51) ?_
            intro a63 he63
            clear he62 a62
            refine lV (Value.int .i64 ((k + 1 : Nat) : Int)) he63 rfl rfl (wanted_plain rfl _) (rn_mv rfl (he63.op rfl) w51) ?_
            intro a64 he64
            clear he63 a63
            refine wpList_nil ?_
            refine then_ok ?_
            have hjc : c.n.toNat = j := by omega
            have hH65 := hH51.tail rfl
            clear hH51
            exact ⟨n - (k + 1), by omega, k + 1, vi, rfl, by omega, he64.mem ⟨rfl, rfl, rfl, rfl, rfl, trivial⟩, hH65, by rw [cells_take hc, hjc]; exact howni⟩
      · skip
        refine wp_seq ?_
        refine wp_region_lit ?_
        refine lV (Value.bool false) he25 rfl rfl (wanted_plain rfl _) (rn_lss rfl (he25.op rfl) (he25.op rfl) (decide_eq_false (by omega)) w25) ?_
        intro a66 he66
        clear he25 a25
        refine wpList_nil ?_
        refine then_ok ?_
        refine wp_seq ?_
        refine wp_cond_false (he66.op rfl) ?_
        refine wp_exit ?_
        simp only [Exit.then, Exit.inBlock, if_true]
        rw [List.take_of_length_le (by omega)] at hown
        have he1 : cellsO l = cellsR l := by rw [cellsO, hga]; rfl
        refine wp_seq ?_
        refine wp_region_lit ?_
        refine lV (vr) he66 rfl rfl (wanted_plain rfl _) (rn_mv rfl (he66.op rfl) w25) ?_
        intro a67 he67
        clear he66 a66
        refine lV (vr) he67 rfl rfl (wanted_plain rfl _) (rn_asg rfl (he67.op rfl) w25) ?_
        intro a68 he68
        clear he67 a67
        refine lV (Value.int .i64 0) he68 rfl rfl (wanted_plain rfl _) (rn_asg rfl (he68.op rfl) w25) ?_
        intro a69 he69
        clear he68 a68
        refine wpList_nil ?_
        refine then_ok ?_
        obtain ⟨b', A', c', rfl, -, hrd⟩ := own_rdg (R := rC) hown
        refine wp_ret ?_
        try simp only [Exit.then, Exit.inBlock]
        exact ret_tt rfl he69 rfl rfl ⟨⟨A', c', b', by rw [he1, hga]; rfl, by rw [he1]; exact hrd⟩, hH25.new⟩

end Go.Proofs.YtaiijndldngnkaaDoor
namespace Go.Proofs.YtaiijndldngnkaaDoor
open Go.RowKit

set_option linter.unusedSimpArgs false in
set_option maxRecDepth 100000 in
set_option maxHeartbeats 1600000 in
theorem RCells_any (l : List Rn) (n b cap : Nat) (A : Option Addr) (w : World) (hr : RdR w b A n l) (hok : ∀ r ∈ l, r.Ok) (hn : n ≤ 1000000) :
    Calls Tryd.prog 19 #[.slice A n cap] w fun e w' => (∃ (A' : Option Addr) (c' b' : Nat), e = .returned (.tuple #[.slice A' (cellsO l).length c', .bool (goodR l)]) ∧ RdC w' b' A' (cellsO l).length (cellsO l)) ∧ New w w' := by
  have hl := hr.1
  have hr0 := hr
  refine calls_args (vl := [Value.slice A n cap]) 75 Tryd.func19 rfl Tryd.ntmps19 (by kernel_rfl) (fun a he => ?_)
  have he0 : Env 75 [(0, Value.slice A n cap)] a := he
  clear he
  have hH := Hp.start w
  refine wp_seq ?_
  refine wp_region_lit ?_
  refine lV (Value.slice none 0 0) he0 rfl rfl (wanted_plain rfl _) (rn_asg rfl (he0.op rfl) w) ?_
  intro a1 he1
  clear he0 a
  refine lV (Value.bool false) he1 rfl rfl (wanted_plain rfl _) (rn_asg rfl (he1.op rfl) w) ?_
  intro a2 he2
  clear he1 a1
  refine wpList_nil ?_
  refine then_ok ?_
  refine wp_seq ?_
  refine wp_region_lit ?_
  refine lV (Value.slice none 0 0) he2 rfl rfl (wanted_plain rfl _) (rn_asg rfl (he2.op rfl) w) ?_
  intro a3 he3
  clear he2 a2
  refine wpList_nil ?_
  refine then_ok ?_
  refine wp_seq ?_
  refine wp_seq ?_
  refine wp_region_lit ?_
  refine lV (Value.int .i64 0) he3 rfl rfl (wanted_plain rfl _) (rn_asg rfl (he3.op rfl) w) ?_
  intro a4 he4
  clear he3 a3
  refine wpList_nil ?_
  refine then_ok ?_
  refine wp_block ?_
  refine loop_nat (fun q a w' => ∃ (k m : Nat) (vr : Value), q = n - k ∧ k ≤ n ∧ m ≤ 100000 ∧ cntR 0 none l = cntR (m : Int) (prevW l k) (l.drop k) ∧ Env 75 [(0, Value.slice A n cap), (4, vr), (5, Value.int .i64 (k : Int))] a ∧ Hp w [] w' ∧ OwnC w' w.heap.size vr m (cellsR (l.take k))) n ⟨0, 0, _, by omega, by omega, by omega, rfl, he4.mem ⟨rfl, rfl, rfl, trivial⟩, hH, World.ownsRow_nil _ w.heap.size 30 16⟩ ?_
  clear he4 hH
  rintro q a5 w5 ⟨k, m, vr, rfl, hk, hm, hcn, he5, hH5, hown⟩
  as_aux_lemma =>
    by_cases hkn : k < n
    · skip
      have hlm := own_len (R := rC) hown
      obtain ⟨Ao, co, rfl, -, -⟩ := own_sliceG hown
      have hR6 := hH5.new
      replace hr := hr.new hH5.new
      have hH6 := Hp.start w5
      clear hH5  
      refine wp_seq ?_
      refine wp_seq ?_
      refine wp_region_lit ?_
      refine lV (Value.int .i64 (k : Int)) he5 rfl rfl (wanted_plain rfl _) (rn_mv rfl (he5.op rfl) w5) ?_
      intro a7 he7
      clear he5 a5
      refine lV (Value.slice A n cap) he7 rfl rfl (wanted_plain rfl _) (rn_mv rfl (he7.op rfl) w5) ?_
      intro a8 he8
      clear he7 a7
      refine lV (Value.int .i64 (n : Nat)) he8 rfl rfl (wanted_plain rfl _) (rn_lenR rfl (he8.op rfl) w5) ?_
      intro a9 he9
      clear he8 a8
      refine lV (Value.bool true) he9 rfl rfl (wanted_plain rfl _) (rn_lss rfl (he9.op rfl) (he9.op rfl) (decide_eq_true (by omega)) w5) ?_
      intro a10 he10
      clear he9 a9
      refine wpList_nil ?_
      refine then_ok ?_
      refine wp_cond_true (he10.op rfl) ?_
      refine wp_skip ?_
      refine then_ok ?_
      obtain ⟨o0, rfl⟩ := hr.base (by omega)
      obtain ⟨c, hc⟩ : ∃ c, l[k]? = some c := ⟨_, List.getElem?_eq_getElem (by have := hr.1; omega)⟩
      have hcl : c ∈ l := List.mem_of_getElem? hc
      have hco := hok c hcl
      refine wp_seq ?_
      refine wp_block ?_
      cases hg : goodB c.w with
      | false =>
        refine wp_seq ?_
        refine wp_region_lit ?_
        refine lV (Value.slice (some ⟨b, o0, none⟩) n cap) he10 rfl rfl (wanted_plain rfl _) (rn_mv rfl (he10.op rfl) w5) ?_
        intro a11 he11
        clear he10 a10
        refine lV (Value.int .i64 (k : Int)) he11 rfl rfl (wanted_plain rfl _) (rn_mv rfl (he11.op rfl) w5) ?_
        intro a12 he12
        clear he11 a11
        refine lV (Value.pointer (some ⟨b, o0 + k * 4, none⟩)) he12 rfl rfl (wanted_plain rfl _) (rn_idxR (i := k) rfl (he12.op rfl) (he12.op rfl) hkn (by rw [addr_add]) w5) ?_
        intro a13 he13
        clear he12 a12
        refine lV (Value.pointer (some ⟨b, o0 + k * 4 + 1, none⟩)) he13 rfl rfl (wanted_plain rfl _) (rn_faR1 rfl (he13.op rfl) rfl w5) ?_
        intro a14 he14
        clear he13 a13
        refine lV (Wd.v c.w) he14 rfl rfl (wanted_plain rfl _) (rn_sRw (i := k) rfl (he14.op rfl) (hr.new hH6.new) rfl hc) ?_
        intro a15 he15
        clear he14 a14
        have hcall := RCell_any c.w hco.w w5
        rw [hg] at hcall
        refine lCx he15 rfl rfl Tryd.func14 (by kernel_rfl) rfl rfl (wanted_plain rfl _) rfl (hcall) ?_
        rintro _ w16 ⟨⟨d, rfl, hd⟩, hn⟩
        refine ⟨_, rfl, ?_⟩
        intro a17 he17
        have hH16 := hH6.call hn
        clear he15 a15 hH6
        clear hn
        refine lV (Value.tuple #[Ce.v d, Value.bool false]) he17 rfl rfl (wanted_plain rfl _) (rn_mv rfl (he17.op rfl) w16) ?_
        intro a18 he18
        clear he17 a17
        refine lV (Ce.v d) he18 rfl rfl (wanted_plain rfl _) (rn_ext rfl (he18.op rfl) rfl w16) ?_
        intro a19 he19
        clear he18 a18
        refine lV (Value.bool false) he19 rfl rfl (wanted_plain rfl _) (rn_ext rfl (he19.op rfl) rfl w16) ?_
        intro a20 he20
        clear he19 a19
        refine lNew (fun p => .pointer (some ⟨p, 0, none⟩)) he20 hH16 rfl rfl (wanted_plain rfl _) (rn_alloc rfl w16) ?_
        intro p21 w21 a22 hn hH21 he22
        clear he20 a20 hH16 hn
        refine lSetV 0 (Ce.cs d) (cs := (Ce.cs d)) he22 hH21 rfl (wanted_plain rfl _) rfl rfl rfl rfl rfl (by kernel_rfl) (by kernel_rfl) (by kernel_rfl) rfl ?_
        intro w23 a24 hH23 he24
        replace hH23 : Hp w5 [⟨p21, 30, (Ce.cs d)⟩] w23 := hH23
        clear he22 a22 hH21
        refine lV (Value.bool false) he24 rfl rfl (wanted_plain rfl _) (rn_asg rfl (he24.op rfl) w23) ?_
        intro a25 he25
        clear he24 a24
        refine wpList_nil ?_
        refine then_ok ?_
        have he26 : Env 75 [(7, Value.bool false), (6, Value.pointer (some ⟨p21, 0, none⟩)), (0, Value.slice (some ⟨b, o0, none⟩) n cap), (4, Value.slice Ao m co), (5, Value.int .i64 (k : Int))] a25 := he25.mem ⟨rfl, rfl, rfl, rfl, rfl, trivial⟩
        clear he25
        as_aux_lemma =>
          refine wp_seq ?_
          refine wp_seq ?_
          refine wp_region_lit ?_
          refine lV (Value.bool false) he26 rfl rfl (wanted_plain rfl _) (rn_mv rfl (he26.op rfl) w23) ?_
          intro a27 he27
          clear he26 a25
          refine lV (Value.bool true) he27 rfl rfl (wanted_plain rfl _) (rn_not (b := false) rfl (he27.op rfl) w23) ?_
          intro a28 he28
          clear he27 a27
          refine lV (Value.bool true) he28 rfl rfl (wanted_plain rfl _) (rn_mv rfl (he28.op rfl) w23) ?_
          intro a29 he29
          clear he28 a28
          refine lSkip he29 rfl rfl (he29.wantNot rfl rfl rfl rfl rfl rfl) ?_
          intro a30 he30
          clear he29 a29
          refine lSkip he30 rfl rfl (he30.wantNot rfl rfl rfl rfl rfl rfl) ?_
          intro a31 he31
          clear he30 a30
          refine lSkip he31 rfl rfl (he31.wantNot rfl rfl rfl rfl rfl rfl) ?_
          intro a32 he32
          clear he31 a31
          refine lSkip he32 rfl rfl (he32.wantNot rfl rfl rfl rfl rfl rfl) ?_
          intro a33 he33
          clear he32 a32
          refine lSkip he33 rfl rfl (he33.wantNot rfl rfl rfl rfl rfl rfl) ?_
          intro a34 he34
          clear he33 a33
          refine lSkip he34 rfl rfl (he34.wantNot rfl rfl rfl rfl rfl rfl) ?_
          intro a35 he35
          clear he34 a34
          refine lV (Value.bool true) he35 rfl rfl (wanted_plain rfl _) (rn_pk rfl (he35.op rfl) (he35.op rfl) w23) ?_
          intro a36 he36
          clear he35 a35
          refine lV (Value.bool true) he36 rfl rfl (wanted_plain rfl _) (rn_mv rfl (he36.op rfl) w23) ?_
          intro a37 he37
          clear he36 a36
          refine lSkip he37 rfl rfl (he37.wantNot rfl rfl rfl rfl rfl rfl) ?_
          intro a38 he38
          clear he37 a37
          refine lSkip he38 rfl rfl (he38.wantNot rfl rfl rfl rfl rfl rfl) ?_
          intro a39 he39
          clear he38 a38
          refine lSkip he39 rfl rfl (he39.wantNot rfl rfl rfl rfl rfl rfl) ?_
          intro a40 he40
          clear he39 a39
          refine lSkip he40 rfl rfl (he40.wantNot rfl rfl rfl rfl rfl rfl) ?_
          intro a41 he41
          clear he40 a40
          refine lSkip he41 rfl rfl (he41.wantNot rfl rfl rfl rfl rfl rfl) ?_
          intro a42 he42
          clear he41 a41
          refine lSkip he42 rfl rfl (he42.wantNot rfl rfl rfl rfl rfl rfl) ?_
          intro a43 he43
          clear he42 a42
          refine lSkip he43 rfl rfl (he43.wantNot rfl rfl rfl rfl rfl rfl) ?_
          intro a44 he44
          clear he43 a43
          refine lSkip he44 rfl rfl (he44.wantNot rfl rfl rfl rfl rfl rfl) ?_
          intro a45 he45
          clear he44 a44
          refine lSkip he45 rfl rfl (he45.wantNot rfl rfl rfl rfl rfl rfl) ?_
          intro a46 he46
          clear he45 a45
          refine lV (Value.bool true) he46 rfl rfl (wanted_plain rfl _) (rn_pk rfl (he46.op rfl) (he46.op rfl) w23) ?_
          intro a47 he47
          clear he46 a46
          refine wpList_nil ?_
          refine then_ok ?_
          refine wp_cond_true (he47.op rfl) ?_
          refine wp_seq ?_
          refine wp_region_lit ?_
          refine lV (Value.slice none 0 0) he47 rfl rfl (wanted_plain rfl _) (rn_asg rfl (he47.op rfl) w23) ?_
          intro a48 he48
          clear he47 a47
          refine lV (Value.bool false) he48 rfl rfl (wanted_plain rfl _) (rn_asg rfl (he48.op rfl) w23) ?_
          intro a49 he49
          clear he48 a48
          refine wpList_nil ?_
          refine then_ok ?_
          obtain ⟨e1, e2⟩ := cnt_stop hcn hc (step_bad hg)
          have e3 : cellsO l = [] := by rw [cellsO, e1]; rfl
          refine wp_ret ?_
          try simp only [Exit.then, Exit.inBlock]
          exact ret_tt rfl he49 rfl rfl ⟨⟨none, 0, 0, by rw [e1, e3]; rfl, by rw [e3]; exact RdC.nil _ _ _⟩, (New.trans hR6 hH23.new)⟩
      | true =>
        refine wp_seq ?_
        refine wp_region_lit ?_
        refine lV (Value.slice (some ⟨b, o0, none⟩) n cap) he10 rfl rfl (wanted_plain rfl _) (rn_mv rfl (he10.op rfl) w5) ?_
        intro a50 he50
        clear he10 a10
        refine lV (Value.int .i64 (k : Int)) he50 rfl rfl (wanted_plain rfl _) (rn_mv rfl (he50.op rfl) w5) ?_
        intro a51 he51
        clear he50 a50
        refine lV (Value.pointer (some ⟨b, o0 + k * 4, none⟩)) he51 rfl rfl (wanted_plain rfl _) (rn_idxR (i := k) rfl (he51.op rfl) (he51.op rfl) hkn (by rw [addr_add]) w5) ?_
        intro a52 he52
        clear he51 a51
        refine lV (Value.pointer (some ⟨b, o0 + k * 4 + 1, none⟩)) he52 rfl rfl (wanted_plain rfl _) (rn_faR1 rfl (he52.op rfl) rfl w5) ?_
        intro a53 he53
        clear he52 a52
        refine lV (Wd.v c.w) he53 rfl rfl (wanted_plain rfl _) (rn_sRw (i := k) rfl (he53.op rfl) (hr.new hH6.new) rfl hc) ?_
        intro a54 he54
        clear he53 a53
        have hcall := RCell_any c.w hco.w w5
        rw [hg] at hcall
        refine lCx he54 rfl rfl Tryd.func14 (by kernel_rfl) rfl rfl (wanted_plain rfl _) rfl (hcall) ?_
        rintro _ w55 ⟨⟨d, rfl, hd⟩, hn⟩
        obtain rfl := hd rfl
        refine ⟨_, rfl, ?_⟩
        intro a56 he56
        have hH55 := hH6.call hn
        clear he54 a54 hH6
        clear hn
        refine lV (Value.tuple #[Ce.v (cellI c.w), Value.bool true]) he56 rfl rfl (wanted_plain rfl _) (rn_mv rfl (he56.op rfl) w55) ?_
        intro a57 he57
        clear he56 a56
        refine lV (Ce.v (cellI c.w)) he57 rfl rfl (wanted_plain rfl _) (rn_ext rfl (he57.op rfl) rfl w55) ?_
        intro a58 he58
        clear he57 a57
        refine lV (Value.bool true) he58 rfl rfl (wanted_plain rfl _) (rn_ext rfl (he58.op rfl) rfl w55) ?_
        intro a59 he59
        clear he58 a58
        refine lNew (fun p => .pointer (some ⟨p, 0, none⟩)) he59 hH55 rfl rfl (wanted_plain rfl _) (rn_alloc rfl w55) ?_
        intro p60 w60 a61 hn hH60 he61
        clear he59 a59 hH55 hn
        refine lSetV 0 (Ce.cs (cellI c.w)) (cs := (Ce.cs (cellI c.w))) he61 hH60 rfl (wanted_plain rfl _) rfl rfl rfl rfl rfl (by kernel_rfl) (by kernel_rfl) (by kernel_rfl) rfl ?_
        intro w62 a63 hH62 he63
        replace hH62 : Hp w5 [⟨p60, 30, (Ce.cs (cellI c.w))⟩] w62 := hH62
        clear he61 a61 hH60
        refine lV (Value.bool true) he63 rfl rfl (wanted_plain rfl _) (rn_asg rfl (he63.op rfl) w62) ?_
        intro a64 he64
        clear he63 a63
        refine wpList_nil ?_
        refine then_ok ?_
        have he65 : Env 75 [(7, Value.bool true), (6, Value.pointer (some ⟨p60, 0, none⟩)), (0, Value.slice (some ⟨b, o0, none⟩) n cap), (4, Value.slice Ao m co), (5, Value.int .i64 (k : Int))] a64 := he64.mem ⟨rfl, rfl, rfl, rfl, rfl, trivial⟩
        clear he64
        as_aux_lemma =>
          by_cases h1 : c.n < 1
          · skip
            refine wp_seq ?_
            refine wp_seq ?_
            refine wp_region_lit ?_
            refine lV (Value.bool true) he65 rfl rfl (wanted_plain rfl _) (rn_mv rfl (he65.op rfl) w62) ?_
            intro a66 he66
            clear he65 a64
            refine lV (Value.bool false) he66 rfl rfl (wanted_plain rfl _) (rn_not (b := true) rfl (he66.op rfl) w62) ?_
            intro a67 he67
            clear he66 a66
            refine lV (Value.bool false) he67 rfl rfl (wanted_plain rfl _) (rn_mv rfl (he67.op rfl) w62) ?_
            intro a68 he68
            clear he67 a67
            refine lV (Value.slice (some ⟨b, o0, none⟩) n cap) he68 rfl rfl (he68.want rfl rfl rfl rfl rfl) (rn_mv rfl (he68.op rfl) w62) ?_
            intro a69 he69
            clear he68 a68
            refine lV (Value.int .i64 (k : Int)) he69 rfl rfl (he69.want rfl rfl rfl rfl rfl) (rn_mv rfl (he69.op rfl) w62) ?_
            intro a70 he70
            clear he69 a69
            refine lV (Value.pointer (some ⟨b, o0 + k * 4, none⟩)) he70 rfl rfl (he70.want rfl rfl rfl rfl rfl) (rn_idxR (i := k) rfl (he70.op rfl) (he70.op rfl) hkn (by rw [addr_add]) w62) ?_
            intro a71 he71
            clear he70 a70
            refine lV (Value.pointer (some ⟨b, o0 + k * 4 + 0, none⟩)) he71 rfl rfl (he71.want rfl rfl rfl rfl rfl) (rn_faR0 rfl (he71.op rfl) rfl w62) ?_
            intro a72 he72
            clear he71 a71
            refine lV (Value.int .i64 c.n) he72 rfl rfl (he72.want rfl rfl rfl rfl rfl) (rn_sRn (i := k) rfl (he72.op rfl) (hr.new hH62.new) rfl hc) ?_
            intro a73 he73
            clear he72 a72
            refine lV (Value.bool true) he73 rfl rfl (he73.want rfl rfl rfl rfl rfl) (rn_lss rfl (he73.op rfl) (he73.op rfl) (decide_eq_true (by omega)) w62) ?_
            intro a74 he74
            clear he73 a73
            refine lV (Value.bool true) he74 rfl rfl (wanted_plain rfl _) (rn_pk0 rfl (he74.op rfl) (he74.op rfl) w62) ?_
            intro a75 he75
            clear he74 a74
            refine lV (Value.bool true) he75 rfl rfl (wanted_plain rfl _) (rn_mv rfl (he75.op rfl) w62) ?_
            intro a76 he76
            clear he75 a75
            refine lSkip he76 rfl rfl (he76.wantNot rfl rfl rfl rfl rfl rfl) ?_
            intro a77 he77
            clear he76 a76
            refine lSkip he77 rfl rfl (he77.wantNot rfl rfl rfl rfl rfl rfl) ?_
            intro a78 he78
            clear he77 a77
            refine lSkip he78 rfl rfl (he78.wantNot rfl rfl rfl rfl rfl rfl) ?_
            intro a79 he79
            clear he78 a78
            refine lSkip he79 rfl rfl (he79.wantNot rfl rfl rfl rfl rfl rfl) ?_
            intro a80 he80
            clear he79 a79
            refine lSkip he80 rfl rfl (he80.wantNot rfl rfl rfl rfl rfl rfl) ?_
            intro a81 he81
            clear he80 a80
            refine lSkip he81 rfl rfl (he81.wantNot rfl rfl rfl rfl rfl rfl) ?_
            intro a82 he82
            clear he81 a81
            refine lSkip he82 rfl rfl (he82.wantNot rfl rfl rfl rfl rfl rfl) ?_
            intro a83 he83
            clear he82 a82
            refine lSkip he83 rfl rfl (he83.wantNot rfl rfl rfl rfl rfl rfl) ?_
            intro a84 he84
            clear he83 a83
            refine lSkip he84 rfl rfl (he84.wantNot rfl rfl rfl rfl rfl rfl) ?_
            intro a85 he85
            clear he84 a84
            refine lV (Value.bool true) he85 rfl rfl (wanted_plain rfl _) (rn_pk rfl (he85.op rfl) (he85.op rfl) w62) ?_
            intro a86 he86
            clear he85 a85
            refine wpList_nil ?_
            refine then_ok ?_
            refine wp_cond_true (he86.op rfl) ?_
            refine wp_seq ?_
            refine wp_region_lit ?_
            refine lV (Value.slice none 0 0) he86 rfl rfl (wanted_plain rfl _) (rn_asg rfl (he86.op rfl) w62) ?_
            intro a87 he87
            clear he86 a86
            refine lV (Value.bool false) he87 rfl rfl (wanted_plain rfl _) (rn_asg rfl (he87.op rfl) w62) ?_
            intro a88 he88
            clear he87 a87
            refine wpList_nil ?_
            refine then_ok ?_
            obtain ⟨e1, e2⟩ := cnt_stop hcn hc (step_lo h1)
            have e3 : cellsO l = [] := by rw [cellsO, e1]; rfl
            refine wp_ret ?_
            try simp only [Exit.then, Exit.inBlock]
            exact ret_tt rfl he88 rfl rfl ⟨⟨none, 0, 0, by rw [e1, e3]; rfl, by rw [e3]; exact RdC.nil _ _ _⟩, (New.trans hR6 hH62.new)⟩
          by_cases h2 : 100000 - (m : Int) < c.n
          · skip
            refine wp_seq ?_
            refine wp_seq ?_
            refine wp_region_lit ?_
            refine lV (Value.bool true) he65 rfl rfl (wanted_plain rfl _) (rn_mv rfl (he65.op rfl) w62) ?_
            intro a89 he89
            clear he65 a64
            refine lV (Value.bool false) he89 rfl rfl (wanted_plain rfl _) (rn_not (b := true) rfl (he89.op rfl) w62) ?_
            intro a90 he90
            clear he89 a89
            refine lV (Value.bool false) he90 rfl rfl (wanted_plain rfl _) (rn_mv rfl (he90.op rfl) w62) ?_
            intro a91 he91
            clear he90 a90
            refine lV (Value.slice (some ⟨b, o0, none⟩) n cap) he91 rfl rfl (he91.want rfl rfl rfl rfl rfl) (rn_mv rfl (he91.op rfl) w62) ?_
            intro a92 he92
            clear he91 a91
            refine lV (Value.int .i64 (k : Int)) he92 rfl rfl (he92.want rfl rfl rfl rfl rfl) (rn_mv rfl (he92.op rfl) w62) ?_
            intro a93 he93
            clear he92 a92
            refine lV (Value.pointer (some ⟨b, o0 + k * 4, none⟩)) he93 rfl rfl (he93.want rfl rfl rfl rfl rfl) (rn_idxR (i := k) rfl (he93.op rfl) (he93.op rfl) hkn (by rw [addr_add]) w62) ?_
            intro a94 he94
            clear he93 a93
            refine lV (Value.pointer (some ⟨b, o0 + k * 4 + 0, none⟩)) he94 rfl rfl (he94.want rfl rfl rfl rfl rfl) (rn_faR0 rfl (he94.op rfl) rfl w62) ?_
            intro a95 he95
            clear he94 a94
            refine lV (Value.int .i64 c.n) he95 rfl rfl (he95.want rfl rfl rfl rfl rfl) (rn_sRn (i := k) rfl (he95.op rfl) (hr.new hH62.new) rfl hc) ?_
            intro a96 he96
            clear he95 a95
            refine lV (Value.bool false) he96 rfl rfl (he96.want rfl rfl rfl rfl rfl) (rn_lss rfl (he96.op rfl) (he96.op rfl) (decide_eq_false (by omega)) w62) ?_
            intro a97 he97
            clear he96 a96
            refine lV (Value.bool false) he97 rfl rfl (wanted_plain rfl _) (rn_pk0 rfl (he97.op rfl) (he97.op rfl) w62) ?_
            intro a98 he98
            clear he97 a97
            refine lV (Value.bool false) he98 rfl rfl (wanted_plain rfl _) (rn_mv rfl (he98.op rfl) w62) ?_
            intro a99 he99
            clear he98 a98
            refine lV (Value.slice (some ⟨b, o0, none⟩) n cap) he99 rfl rfl (he99.want rfl rfl rfl rfl rfl) (rn_mv rfl (he99.op rfl) w62) ?_
            intro a100 he100
            clear he99 a99
            refine lV (Value.int .i64 (k : Int)) he100 rfl rfl (he100.want rfl rfl rfl rfl rfl) (rn_mv rfl (he100.op rfl) w62) ?_
            intro a101 he101
            clear he100 a100
            refine lV (Value.pointer (some ⟨b, o0 + k * 4, none⟩)) he101 rfl rfl (he101.want rfl rfl rfl rfl rfl) (rn_idxR (i := k) rfl (he101.op rfl) (he101.op rfl) hkn (by rw [addr_add]) w62) ?_
            intro a102 he102
            clear he101 a101
            refine lV (Value.pointer (some ⟨b, o0 + k * 4 + 0, none⟩)) he102 rfl rfl (he102.want rfl rfl rfl rfl rfl) (rn_faR0 rfl (he102.op rfl) rfl w62) ?_
            intro a103 he103
            clear he102 a102
            refine lV (Value.int .i64 c.n) he103 rfl rfl (he103.want rfl rfl rfl rfl rfl) (rn_sRn (i := k) rfl (he103.op rfl) (hr.new hH62.new) rfl hc) ?_
            intro a104 he104
            clear he103 a103
            refine lV (Value.slice Ao m co) he104 rfl rfl (he104.want rfl rfl rfl rfl rfl) (rn_mv rfl (he104.op rfl) w62) ?_
            intro a105 he105
            clear he104 a104
            refine lV (Value.int .i64 (m : Nat)) he105 rfl rfl (he105.want rfl rfl rfl rfl rfl) (rn_lenC rfl (he105.op rfl) w62) ?_
            intro a106 he106
            clear he105 a105
            refine lV (Value.int .i64 (100000 - (m : Int))) he106 rfl rfl (he106.want rfl rfl rfl rfl rfl) (rn_subI rfl (he106.op rfl) (he106.op rfl) (by rw [IntWalk.i64_in _ ⟨by omega, by omega⟩]) w62) ?_
            intro a107 he107
            clear he106 a106
            refine lV (Value.bool true) he107 rfl rfl (he107.want rfl rfl rfl rfl rfl) (rn_gtr rfl (he107.op rfl) (he107.op rfl) (decide_eq_true (by omega)) w62) ?_
            intro a108 he108
            clear he107 a107
            refine lV (Value.bool true) he108 rfl rfl (wanted_plain rfl _) (rn_pk0 rfl (he108.op rfl) (he108.op rfl) w62) ?_
            intro a109 he109
            clear he108 a108
            refine wpList_nil ?_
            refine then_ok ?_
            refine wp_cond_true (he109.op rfl) ?_
            refine wp_seq ?_
            refine wp_region_lit ?_
            refine lV (Value.slice none 0 0) he109 rfl rfl (wanted_plain rfl _) (rn_asg rfl (he109.op rfl) w62) ?_
            intro a110 he110
            clear he109 a109
            refine lV (Value.bool false) he110 rfl rfl (wanted_plain rfl _) (rn_asg rfl (he110.op rfl) w62) ?_
            intro a111 he111
            clear he110 a110
            refine wpList_nil ?_
            refine then_ok ?_
            obtain ⟨e1, e2⟩ := cnt_stop hcn hc (step_hi h2)
            have e3 : cellsO l = [] := by rw [cellsO, e1]; rfl
            refine wp_ret ?_
            try simp only [Exit.then, Exit.inBlock]
            exact ret_tt rfl he111 rfl rfl ⟨⟨none, 0, 0, by rw [e1, e3]; rfl, by rw [e3]; exact RdC.nil _ _ _⟩, (New.trans hR6 hH62.new)⟩
          refine wp_seq ?_
          refine wp_seq ?_
          refine wp_region_lit ?_
          refine lV (Value.bool true) he65 rfl rfl (wanted_plain rfl _) (rn_mv rfl (he65.op rfl) w62) ?_
          intro a112 he112
          clear he65 a64
          refine lV (Value.bool false) he112 rfl rfl (wanted_plain rfl _) (rn_not (b := true) rfl (he112.op rfl) w62) ?_
          intro a113 he113
          clear he112 a112
          refine lV (Value.bool false) he113 rfl rfl (wanted_plain rfl _) (rn_mv rfl (he113.op rfl) w62) ?_
          intro a114 he114
          clear he113 a113
          refine lV (Value.slice (some ⟨b, o0, none⟩) n cap) he114 rfl rfl (he114.want rfl rfl rfl rfl rfl) (rn_mv rfl (he114.op rfl) w62) ?_
          intro a115 he115
          clear he114 a114
          refine lV (Value.int .i64 (k : Int)) he115 rfl rfl (he115.want rfl rfl rfl rfl rfl) (rn_mv rfl (he115.op rfl) w62) ?_
          intro a116 he116
          clear he115 a115
          refine lV (Value.pointer (some ⟨b, o0 + k * 4, none⟩)) he116 rfl rfl (he116.want rfl rfl rfl rfl rfl) (rn_idxR (i := k) rfl (he116.op rfl) (he116.op rfl) hkn (by rw [addr_add]) w62) ?_
          intro a117 he117
          clear he116 a116
          refine lV (Value.pointer (some ⟨b, o0 + k * 4 + 0, none⟩)) he117 rfl rfl (he117.want rfl rfl rfl rfl rfl) (rn_faR0 rfl (he117.op rfl) rfl w62) ?_
          intro a118 he118
          clear he117 a117
          refine lV (Value.int .i64 c.n) he118 rfl rfl (he118.want rfl rfl rfl rfl rfl) (rn_sRn (i := k) rfl (he118.op rfl) (hr.new hH62.new) rfl hc) ?_
          intro a119 he119
          clear he118 a118
          refine lV (Value.bool false) he119 rfl rfl (he119.want rfl rfl rfl rfl rfl) (rn_lss rfl (he119.op rfl) (he119.op rfl) (decide_eq_false (by omega)) w62) ?_
          intro a120 he120
          clear he119 a119
          refine lV (Value.bool false) he120 rfl rfl (wanted_plain rfl _) (rn_pk0 rfl (he120.op rfl) (he120.op rfl) w62) ?_
          intro a121 he121
          clear he120 a120
          refine lV (Value.bool false) he121 rfl rfl (wanted_plain rfl _) (rn_mv rfl (he121.op rfl) w62) ?_
          intro a122 he122
          clear he121 a121
          refine lV (Value.slice (some ⟨b, o0, none⟩) n cap) he122 rfl rfl (he122.want rfl rfl rfl rfl rfl) (rn_mv rfl (he122.op rfl) w62) ?_
          intro a123 he123
          clear he122 a122
          refine lV (Value.int .i64 (k : Int)) he123 rfl rfl (he123.want rfl rfl rfl rfl rfl) (rn_mv rfl (he123.op rfl) w62) ?_
          intro a124 he124
          clear he123 a123
          refine lV (Value.pointer (some ⟨b, o0 + k * 4, none⟩)) he124 rfl rfl (he124.want rfl rfl rfl rfl rfl) (rn_idxR (i := k) rfl (he124.op rfl) (he124.op rfl) hkn (by rw [addr_add]) w62) ?_
          intro a125 he125
          clear he124 a124
          refine lV (Value.pointer (some ⟨b, o0 + k * 4 + 0, none⟩)) he125 rfl rfl (he125.want rfl rfl rfl rfl rfl) (rn_faR0 rfl (he125.op rfl) rfl w62) ?_
          intro a126 he126
          clear he125 a125
          refine lV (Value.int .i64 c.n) he126 rfl rfl (he126.want rfl rfl rfl rfl rfl) (rn_sRn (i := k) rfl (he126.op rfl) (hr.new hH62.new) rfl hc) ?_
          intro a127 he127
          clear he126 a126
          refine lV (Value.slice Ao m co) he127 rfl rfl (he127.want rfl rfl rfl rfl rfl) (rn_mv rfl (he127.op rfl) w62) ?_
          intro a128 he128
          clear he127 a127
          refine lV (Value.int .i64 (m : Nat)) he128 rfl rfl (he128.want rfl rfl rfl rfl rfl) (rn_lenC rfl (he128.op rfl) w62) ?_
          intro a129 he129
          clear he128 a128
          refine lV (Value.int .i64 (100000 - (m : Int))) he129 rfl rfl (he129.want rfl rfl rfl rfl rfl) (rn_subI rfl (he129.op rfl) (he129.op rfl) (by rw [IntWalk.i64_in _ ⟨by omega, by omega⟩]) w62) ?_
          intro a130 he130
          clear he129 a129
          refine lV (Value.bool false) he130 rfl rfl (he130.want rfl rfl rfl rfl rfl) (rn_gtr rfl (he130.op rfl) (he130.op rfl) (decide_eq_false (by omega)) w62) ?_
          intro a131 he131
          clear he130 a130
          refine lV (Value.bool false) he131 rfl rfl (wanted_plain rfl _) (rn_pk0 rfl (he131.op rfl) (he131.op rfl) w62) ?_
          intro a132 he132
          clear he131 a131
          refine wpList_nil ?_
          refine then_ok ?_
          refine wp_cond_false (he132.op rfl) ?_
          refine wp_skip ?_
          refine then_ok ?_
          have he133 : Env 75 [(6, Value.pointer (some ⟨p60, 0, none⟩)), (0, Value.slice (some ⟨b, o0, none⟩) n cap), (4, Value.slice Ao m co), (5, Value.int .i64 (k : Int))] a132 := he132.mem ⟨rfl, rfl, rfl, rfl, trivial⟩
          clear he132
          as_aux_lemma =>
            by_cases hz : k = 0
            · skip
              refine wp_seq ?_
              refine wp_seq ?_
              refine wp_region_held_drew (S := Hp w5 [⟨p60, 30, (Ce.cs (cellI c.w))⟩]) (by kernel_rfl) (hH62.drew) (fun _ => ?_)
              have hn : New w62 (World.drew w62) := (Fr.refl _ _).drew
              clear hn
              have hH134 := hH62.drew
              clear hH62
              generalize World.drew w62 = w134 at *
              refine hV (fuel := 15) (i := 0) (Value.int .i64 (k : Int)) he133 rfl rfl rfl (by kernel_rfl) (by kernel_rfl) (by kernel_rfl) (fun _ _ _ h => h) (wanted_plain rfl _) (fun w' _ => rn_mv rfl (he133.op rfl) w') hH134 ?_
              intro a135 he135
              clear he133 a132
              refine hV (fuel := 14) (i := 1) (Value.bool false) he135 rfl rfl rfl (by kernel_rfl) (by kernel_rfl) (by kernel_rfl) (fun _ _ _ h => h) (wanted_plain rfl _) (fun w' _ => rn_gtr rfl (he135.op rfl) (he135.op rfl) (decide_eq_false (by omega)) w') hH134 ?_
              intro a136 he136
              clear he135 a135
              refine hV (fuel := 13) (i := 2) (Value.bool false) he136 rfl rfl rfl (by kernel_rfl) (by kernel_rfl) (by kernel_rfl) (fun _ _ _ h => h) (wanted_plain rfl _) (fun w' _ => rn_mv rfl (he136.op rfl) w') hH134 ?_
              intro a137 he137
              clear he136 a136
              refine hSkip (fuel := 12) (i := 3) he137 rfl rfl rfl (by kernel_rfl) (by kernel_rfl) (by kernel_rfl) (fun _ _ _ h => h) (he137.wantNot rfl rfl rfl rfl rfl rfl) hH134 ?_
              intro a138 he138
              clear he137 a137
              refine hSkip (fuel := 11) (i := 4) he138 rfl rfl rfl (by kernel_rfl) (by kernel_rfl) (by kernel_rfl) (fun _ _ _ h => h) (he138.wantNot rfl rfl rfl rfl rfl rfl) hH134 ?_
              intro a139 he139
              clear he138 a138
              refine hSkip (fuel := 10) (i := 5) he139 rfl rfl rfl (by kernel_rfl) (by kernel_rfl) (by kernel_rfl) (fun _ _ _ h => h) (he139.wantNot rfl rfl rfl rfl rfl rfl) hH134 ?_
              intro a140 he140
              clear he139 a139
              refine hSkip (fuel := 9) (i := 6) he140 rfl rfl rfl (by kernel_rfl) (by kernel_rfl) (by kernel_rfl) (fun _ _ _ h => h) (he140.wantNot rfl rfl rfl rfl rfl rfl) hH134 ?_
              intro a141 he141
              clear he140 a140
              refine hSkip (fuel := 8) (i := 7) he141 rfl rfl rfl (by kernel_rfl) (by kernel_rfl) (by kernel_rfl) (fun _ _ _ h => h) (he141.wantNot rfl rfl rfl rfl rfl rfl) hH134 ?_
              intro a142 he142
              clear he141 a141
              refine hSkip (fuel := 7) (i := 8) he142 rfl rfl rfl (by kernel_rfl) (by kernel_rfl) (by kernel_rfl) (fun _ _ _ h => h) (he142.wantNot rfl rfl rfl rfl rfl rfl) hH134 ?_
              intro a143 he143
              clear he142 a142
              refine hSkip (fuel := 6) (i := 9) he143 rfl rfl rfl (by kernel_rfl) (by kernel_rfl) (by kernel_rfl) (fun _ _ _ h => h) (he143.wantNot rfl rfl rfl rfl rfl rfl) hH134 ?_
              intro a144 he144
              clear he143 a143
              refine hSkip (fuel := 5) (i := 10) he144 rfl rfl rfl (by kernel_rfl) (by kernel_rfl) (by kernel_rfl) (fun _ _ _ h => h) (he144.wantNot rfl rfl rfl rfl rfl rfl) hH134 ?_
              intro a145 he145
              clear he144 a144
              refine hSkip (fuel := 4) (i := 11) he145 rfl rfl rfl (by kernel_rfl) (by kernel_rfl) (by kernel_rfl) (fun _ _ _ h => h) (he145.wantNot rfl rfl rfl rfl rfl rfl) hH134 ?_
              intro a146 he146
              clear he145 a145
              refine hSkip (fuel := 3) (i := 12) he146 rfl rfl rfl (by kernel_rfl) (by kernel_rfl) (by kernel_rfl) (fun _ _ _ h => h) (he146.wantNot rfl rfl rfl rfl rfl rfl) hH134 ?_
              intro a147 he147
              clear he146 a146
              refine hSkip (fuel := 2) (i := 13) he147 rfl rfl rfl (by kernel_rfl) (by kernel_rfl) (by kernel_rfl) (fun _ _ _ h => h) (he147.wantNot rfl rfl rfl rfl rfl rfl) hH134 ?_
              intro a148 he148
              clear he147 a147
              refine hSkip (fuel := 1) (i := 14) he148 rfl rfl rfl (by kernel_rfl) (by kernel_rfl) (by kernel_rfl) (fun _ _ _ h => h) (he148.wantNot rfl rfl rfl rfl rfl rfl) hH134 ?_
              intro a149 he149
              clear he148 a148
              refine hV (fuel := 0) (i := 15) (Value.bool false) he149 rfl rfl rfl (by kernel_rfl) (by kernel_rfl) (by kernel_rfl) (fun _ _ _ h => h) (wanted_plain rfl _) (fun w' _ => rn_pk0 rfl (he149.op rfl) (he149.op rfl) w') hH134 ?_
              intro a150 he150
              clear he149 a149
              refine wpAnyH_done (by kernel_rfl) ?_ _
              refine then_ok ?_
              refine wp_cond_false (he150.op rfl) ?_
              refine wp_skip ?_
              refine then_ok ?_
              have hpn : prevW l k ≠ some c.w := by rw [prevW, if_pos hz]; simp
              have he151 : Env 75 [(6, Value.pointer (some ⟨p60, 0, none⟩)), (0, Value.slice (some ⟨b, o0, none⟩) n cap), (4, Value.slice Ao m co), (5, Value.int .i64 (k : Int))] a150 := he150.mem ⟨rfl, rfl, rfl, rfl, trivial⟩
              clear he150
              have hst := stepR_ok (n := (m : Int)) (p := prevW l k) (r := c) (by omega) (by omega) hpn hg
              have hcn2 := cnt_go hcn hc hst
              refine wp_seq ?_
              refine wp_region_lit ?_
              refine lV (Value.int .i64 0) he151 rfl rfl (wanted_plain rfl _) (rn_asg rfl (he151.op rfl) w134) ?_
              intro a152 he152
              clear he151 a150
              refine wpList_nil ?_
              refine then_ok ?_
              refine wp_block ?_
              have he153 : Env 75 [(8, Value.int .i64 0), (6, Value.pointer (some ⟨p60, 0, none⟩)), (0, Value.slice (some ⟨b, o0, none⟩) n cap), (4, Value.slice Ao m co), (5, Value.int .i64 (k : Int))] a152 := he152.mem ⟨rfl, rfl, rfl, rfl, rfl, trivial⟩
              clear he152
              have hown0 : OwnC w134 w.heap.size (.slice Ao m co) (m + 0) (cellsR (l.take k) ++ List.replicate 0 (cellI c.w)) := by
                rw [List.replicate_zero, List.append_nil]; exact own_fr hown hH134.new (fun _ _ h => h)
              have hne0 : ∀ q, (Value.slice Ao m co).ownBlock = some q → q ≠ p60 := fun q hq e => by have h1 := own_lt hown q hq; have h2 : w5.heap.size ≤ p60 := hH134.lo (i := 0) rfl; omega
              have hHw := hH134.root hR6
              clear hH134
              refine loop_nat (fun q a w' => ∃ (j : Nat) (vi : Value), q = c.n.toNat - j ∧ (j : Int) ≤ c.n ∧ Env 75 [(0, Value.slice (some ⟨b, o0, none⟩) n cap), (4, vi), (5, Value.int .i64 (k : Int)), (6, Value.pointer (some ⟨p60, 0, none⟩)), (8, Value.int .i64 (j : Int))] a ∧ Hp w [⟨p60, 30, (Ce.cs (cellI c.w))⟩] w' ∧ OwnC w' w.heap.size vi (m + j) (cellsR (l.take k) ++ List.replicate j (cellI c.w)) ∧ (∀ q, vi.ownBlock = some q → q ≠ p60)) c.n.toNat ⟨0, _, by omega, by omega, he153.mem ⟨rfl, rfl, rfl, rfl, rfl, trivial⟩, hHw, hown0, hne0⟩ ?_
              clear he153 hHw
              rintro q a154 w154 ⟨j, vi, rfl, hj, he154, hH154, howni, hne⟩
              as_aux_lemma =>
                by_cases hjn : (j : Int) < c.n
                · skip
                  refine wp_seq ?_
                  refine wp_seq ?_
                  refine wp_region_lit ?_
                  refine lV (Value.int .i64 (j : Int)) he154 rfl rfl (wanted_plain rfl _) (rn_mv rfl (he154.op rfl) w154) ?_
                  intro a155 he155
                  clear he154 a154
                  refine lV (Value.slice (some ⟨b, o0, none⟩) n cap) he155 rfl rfl (wanted_plain rfl _) (rn_mv rfl (he155.op rfl) w154) ?_
                  intro a156 he156
                  clear he155 a155
                  refine lV (Value.int .i64 (k : Int)) he156 rfl rfl (wanted_plain rfl _) (rn_mv rfl (he156.op rfl) w154) ?_
                  intro a157 he157
                  clear he156 a156
                  refine lV (Value.pointer (some ⟨b, o0 + k * 4, none⟩)) he157 rfl rfl (wanted_plain rfl _) (rn_idxR (i := k) rfl (he157.op rfl) (he157.op rfl) hkn (by rw [addr_add]) w154) ?_
                  intro a158 he158
                  clear he157 a157
                  refine lV (Value.pointer (some ⟨b, o0 + k * 4 + 0, none⟩)) he158 rfl rfl (wanted_plain rfl _) (rn_faR0 rfl (he158.op rfl) rfl w154) ?_
                  intro a159 he159
                  clear he158 a158
                  refine lV (Value.int .i64 c.n) he159 rfl rfl (wanted_plain rfl _) (rn_sRn (i := k) rfl (he159.op rfl) (hr0.new hH154.new) rfl hc) ?_
                  intro a160 he160
                  clear he159 a159
                  refine lV (Value.bool true) he160 rfl rfl (wanted_plain rfl _) (rn_lss rfl (he160.op rfl) (he160.op rfl) (decide_eq_true (by omega)) w154) ?_
                  intro a161 he161
                  clear he160 a160
                  refine wpList_nil ?_
                  refine then_ok ?_
                  refine wp_cond_true (he161.op rfl) ?_
                  refine wp_skip ?_
                  refine then_ok ?_
                  refine wp_seq ?_
                  refine wp_block ?_
                  refine wp_region_lit ?_
                  refine lV (vi) he161 rfl rfl (wanted_plain rfl _) (rn_mv rfl (he161.op rfl) w154) ?_
                  intro a162 he162
                  clear he161 a161
                  refine lV (Ce.v (cellI c.w)) he162 rfl rfl (wanted_plain rfl _) (rn_load rfl (he162.op rfl) (hH154.at (i := 0) rfl)) ?_
                  intro a163 he163
                  clear he162 a162
                  refine lNew (fun p => .slice (some ⟨p, 0, none⟩) 1 1) he163 hH154 rfl rfl (wanted_plain rfl _) (rn_bs1 rfl (he163.op rfl) w154) ?_
                  intro p164 w164 a165 hn hH164 he165
                  replace howni := own_fr howni hn (fun _ _ h => h)
                  clear he163 a163 hH154 hn
                  have hnew := rdg_blk (R := rC) (n := 1) (l := [cellI c.w]) (hH164.at (i := 0) rfl) rfl rfl
                  have hlt9 : p60 < w164.heap.size := Blk.lt (hH164.at (i := 1) rfl)
                  have hH166 := hH164.tail rfl
                  refine lAppO (R := rC) howni hnew he165 rfl rfl (wanted_plain rfl _) rfl rfl rfl (by omega) hH164.new.size ?_
                  intro vx wx a167 ho2 hgr hor he167
                  clear he165 a165
                  have hfr : Fr (fun q => vi.ownBlock = some q) w164 wx := Fr.grown (Fr.refl _ _) hgr (fun q hq => .inl hq)
                  have hHx := hH166.own hfr (fun q hq => own_blk howni q hq) (fun b hb hs => by rw [List.mem_singleton.1 hb] at hs; exact hne _ hs rfl)
                  have hnex : ∀ q, vx.ownBlock = some q → q ≠ p60 := fun q hq e => by
                    rcases hor with h | h
                    · rw [h] at hq; exact hne q hq e
                    · rw [h] at hq; simp only [Option.some.injEq] at hq; omega
                  clear hH164 hH166 hgr hor hfr hnew howni hne
                  refine lV (vx) he167 rfl rfl (wanted_plain rfl _) (rn_asg rfl (he167.op rfl) wx) ?_
                  intro a168 he168
                  clear he167 a167
                  refine wpList_nil ?_
                  refine block_ok ?_
                  refine then_ok ?_
                  refine wp_region_lit ?_
                  refine lV (Value.int .i64 (j : Int)) he168 rfl rfl (wanted_plain rfl _) (rn_mv rfl (he168.op rfl) wx) ?_
                  intro a169 he169
                  clear he168 a168
                  refine lV (Value.int .i64 ((j + 1 : Nat) : Int)) he169 rfl rfl (wanted_plain rfl _) (rn_add1 rfl (he169.op rfl) (he169.op rfl) (by rw [IntWalk.i64_in _ ⟨by omega, by omega⟩]; rfl) wx) ?_
                  intro a170 he170
                  clear he169 a169
                  refine lV (Value.int .i64 ((j + 1 : Nat) : Int)) he170 rfl rfl (wanted_plain rfl _) (rn_asg rfl (he170.op rfl) wx) ?_
                  intro a171 he171
                  clear he170 a170
                  refine wpList_nil ?_
                  refine then_ok ?_
                  exact ⟨c.n.toNat - (j + 1), by omega, j + 1, vx, rfl, by omega, he171.mem ⟨rfl, rfl, rfl, rfl, rfl, trivial⟩, hHx, by rw [OwnC, rep_succ, ← List.append_assoc]; exact ho2, hnex⟩
                · skip
                  refine wp_seq ?_
                  refine wp_seq ?_
                  refine wp_region_lit ?_
                  refine lV (Value.int .i64 (j : Int)) he154 rfl rfl (wanted_plain rfl _) (rn_mv rfl (he154.op rfl) w154) ?_
                  intro a172 he172
                  clear he154 a154
                  refine lV (Value.slice (some ⟨b, o0, none⟩) n cap) he172 rfl rfl (wanted_plain rfl _) (rn_mv rfl (he172.op rfl) w154) ?_
                  intro a173 he173
                  clear he172 a172
                  refine lV (Value.int .i64 (k : Int)) he173 rfl rfl (wanted_plain rfl _) (rn_mv rfl (he173.op rfl) w154) ?_
                  intro a174 he174
                  clear he173 a173
                  refine lV (Value.pointer (some ⟨b, o0 + k * 4, none⟩)) he174 rfl rfl (wanted_plain rfl _) (rn_idxR (i := k) rfl (he174.op rfl) (he174.op rfl) hkn (by rw [addr_add]) w154) ?_
                  intro a175 he175
                  clear he174 a174
                  refine lV (Value.pointer (some ⟨b, o0 + k * 4 + 0, none⟩)) he175 rfl rfl (wanted_plain rfl _) (rn_faR0 rfl (he175.op rfl) rfl w154) ?_
                  intro a176 he176
                  clear he175 a175
                  refine lV (Value.int .i64 c.n) he176 rfl rfl (wanted_plain rfl _) (rn_sRn (i := k) rfl (he176.op rfl) (hr0.new hH154.new) rfl hc) ?_
                  intro a177 he177
                  clear he176 a176
                  refine lV (Value.bool false) he177 rfl rfl (wanted_plain rfl _) (rn_lss rfl (he177.op rfl) (he177.op rfl) (decide_eq_false (by omega)) w154) ?_
                  intro a178 he178
                  clear he177 a177
                  refine wpList_nil ?_
                  refine then_ok ?_
                  refine wp_cond_false (he178.op rfl) ?_
                  refine wp_exit ?_
                  simp only [Exit.then, Exit.inBlock, if_true]
                  refine wp_region_lit ?_
                  refine lV (Value.int .i64 (k : Int)) he178 rfl rfl (wanted_plain rfl _) (rn_mv rfl (he178.op rfl) w154) ?_
                  intro a179 he179
                  clear he178 a178
                  refine lV (Value.int .i64 ((k + 1 : Nat) : Int)) he179 rfl rfl (wanted_plain rfl _) (rn_add1 rfl (he179.op rfl) (he179.op rfl) (by rw [IntWalk.i64_in _ ⟨by omega, by omega⟩]; rfl) w154) ?_
                  intro a180 he180
                  clear he179 a179
                  refine lV (Value.int .i64 ((k + 1 : Nat) : Int)) he180 rfl rfl (wanted_plain rfl _) (rn_asg rfl (he180.op rfl) w154) ?_
                  intro a181 he181
                  clear he180 a180
                  refine wpList_nil ?_
                  refine then_ok ?_
                  have hjc : c.n.toNat = j := by omega
                  have hmj : ((m + j : Nat) : Int) = (m : Int) + c.n := by omega
                  have hH182 := hH154.tail rfl
                  clear hH154
                  exact ⟨n - (k + 1), by omega, k + 1, m + j, vi, rfl, by omega, by omega, by rw [hmj]; exact hcn2, he181.mem ⟨rfl, rfl, rfl, trivial⟩, hH182, by rw [cells_take hc, hjc]; exact howni⟩
            · skip
              obtain ⟨d, hd⟩ : ∃ d, l[k - 1]? = some d := ⟨_, List.getElem?_eq_getElem (by omega)⟩
              have hpe : prevW l k = some d.w := by rw [prevW, if_neg hz, hd]; rfl
              by_cases hs : c.w = d.w
              · skip
                refine wp_seq ?_
                refine wp_seq ?_
                refine wp_region_held_drew (S := Hp w5 [⟨p60, 30, (Ce.cs (cellI c.w))⟩]) (by kernel_rfl) (hH62.drew) (fun _ => ?_)
                have hn : New w62 (World.drew w62) := (Fr.refl _ _).drew
                clear hn
                have hH183 := hH62.drew
                clear hH62
                generalize World.drew w62 = w183 at *
                refine hV (fuel := 15) (i := 0) (Value.int .i64 (k : Int)) he133 rfl rfl rfl (by kernel_rfl) (by kernel_rfl) (by kernel_rfl) (fun _ _ _ h => h) (wanted_plain rfl _) (fun w' _ => rn_mv rfl (he133.op rfl) w') hH183 ?_
                intro a184 he184
                clear he133 a132
                refine hV (fuel := 14) (i := 1) (Value.bool true) he184 rfl rfl rfl (by kernel_rfl) (by kernel_rfl) (by kernel_rfl) (fun _ _ _ h => h) (wanted_plain rfl _) (fun w' _ => rn_gtr rfl (he184.op rfl) (he184.op rfl) (decide_eq_true (by omega)) w') hH183 ?_
                intro a185 he185
                clear he184 a184
                refine hV (fuel := 13) (i := 2) (Value.bool true) he185 rfl rfl rfl (by kernel_rfl) (by kernel_rfl) (by kernel_rfl) (fun _ _ _ h => h) (wanted_plain rfl _) (fun w' _ => rn_mv rfl (he185.op rfl) w') hH183 ?_
                intro a186 he186
                clear he185 a185
                refine hV (fuel := 12) (i := 3) (Value.slice (some ⟨b, o0, none⟩) n cap) he186 rfl rfl rfl (by kernel_rfl) (by kernel_rfl) (by kernel_rfl) (fun _ _ _ h => h) (he186.want rfl rfl rfl rfl rfl) (fun w' _ => rn_mv rfl (he186.op rfl) w') hH183 ?_
                intro a187 he187
                clear he186 a186
                refine hV (fuel := 11) (i := 4) (Value.int .i64 (k : Int)) he187 rfl rfl rfl (by kernel_rfl) (by kernel_rfl) (by kernel_rfl) (fun _ _ _ h => h) (he187.want rfl rfl rfl rfl rfl) (fun w' _ => rn_mv rfl (he187.op rfl) w') hH183 ?_
                intro a188 he188
                clear he187 a187
                refine hV (fuel := 10) (i := 5) (Value.pointer (some ⟨b, o0 + k * 4, none⟩)) he188 rfl rfl rfl (by kernel_rfl) (by kernel_rfl) (by kernel_rfl) (fun _ _ _ h => h) (he188.want rfl rfl rfl rfl rfl) (fun w' _ => rn_idxR (i := k) rfl (he188.op rfl) (he188.op rfl) hkn (by rw [addr_add]) w') hH183 ?_
                intro a189 he189
                clear he188 a188
                refine hV (fuel := 9) (i := 6) (Value.pointer (some ⟨b, o0 + k * 4 + 1, none⟩)) he189 rfl rfl rfl (by kernel_rfl) (by kernel_rfl) (by kernel_rfl) (fun _ _ _ h => h) (he189.want rfl rfl rfl rfl rfl) (fun w' _ => rn_faR1 rfl (he189.op rfl) rfl w') hH183 ?_
                intro a190 he190
                clear he189 a189
                refine hV (fuel := 8) (i := 7) (Wd.v c.w) he190 rfl rfl rfl (by kernel_rfl) (by kernel_rfl) (by kernel_rfl) (fun _ _ _ h => h) (he190.want rfl rfl rfl rfl rfl) (fun w' hw' => rn_sRw (i := k) rfl (he190.op rfl) (hr.new hw'.new) rfl hc) hH183 ?_
                intro a191 he191
                clear he190 a190
                refine hV (fuel := 7) (i := 8) (Value.slice (some ⟨b, o0, none⟩) n cap) he191 rfl rfl rfl (by kernel_rfl) (by kernel_rfl) (by kernel_rfl) (fun _ _ _ h => h) (he191.want rfl rfl rfl rfl rfl) (fun w' _ => rn_mv rfl (he191.op rfl) w') hH183 ?_
                intro a192 he192
                clear he191 a191
                refine hV (fuel := 6) (i := 9) (Value.int .i64 (k : Int)) he192 rfl rfl rfl (by kernel_rfl) (by kernel_rfl) (by kernel_rfl) (fun _ _ _ h => h) (he192.want rfl rfl rfl rfl rfl) (fun w' _ => rn_mv rfl (he192.op rfl) w') hH183 ?_
                intro a193 he193
                clear he192 a192
                refine hV (fuel := 5) (i := 10) (Value.int .i64 ((k - 1 : Nat) : Int)) he193 rfl rfl rfl (by kernel_rfl) (by kernel_rfl) (by kernel_rfl) (fun _ _ _ h => h) (he193.want rfl rfl rfl rfl rfl) (fun w' _ => rn_subI rfl (he193.op rfl) (he193.op rfl) (by rw [IntWalk.i64_in _ ⟨by omega, by omega⟩]; omega) w') hH183 ?_
                intro a194 he194
                clear he193 a193
                refine hV (fuel := 4) (i := 11) (Value.pointer (some ⟨b, o0 + (k - 1) * 4, none⟩)) he194 rfl rfl rfl (by kernel_rfl) (by kernel_rfl) (by kernel_rfl) (fun _ _ _ h => h) (he194.want rfl rfl rfl rfl rfl) (fun w' _ => rn_idxR (i := (k - 1)) rfl (he194.op rfl) (he194.op rfl) (by omega) (by rw [addr_add]) w') hH183 ?_
                intro a195 he195
                clear he194 a194
                refine hV (fuel := 3) (i := 12) (Value.pointer (some ⟨b, o0 + (k - 1) * 4 + 1, none⟩)) he195 rfl rfl rfl (by kernel_rfl) (by kernel_rfl) (by kernel_rfl) (fun _ _ _ h => h) (he195.want rfl rfl rfl rfl rfl) (fun w' _ => rn_faR1 rfl (he195.op rfl) rfl w') hH183 ?_
                intro a196 he196
                clear he195 a195
                refine hV (fuel := 2) (i := 13) (Wd.v d.w) he196 rfl rfl rfl (by kernel_rfl) (by kernel_rfl) (by kernel_rfl) (fun _ _ _ h => h) (he196.want rfl rfl rfl rfl rfl) (fun w' hw' => rn_sRw (i := (k - 1)) rfl (he196.op rfl) (hr.new hw'.new) rfl hd) hH183 ?_
                intro a197 he197
                clear he196 a196
                refine hV (fuel := 1) (i := 14) (Value.bool true) he197 rfl rfl rfl (by kernel_rfl) (by kernel_rfl) (by kernel_rfl) (fun _ _ _ h => h) (he197.want rfl rfl rfl rfl rfl) (fun w' _ => rn_eqW rfl (he197.op rfl) (he197.op rfl) (decide_eq_true hs) w') hH183 ?_
                intro a198 he198
                clear he197 a197
                refine hV (fuel := 0) (i := 15) (Value.bool true) he198 rfl rfl rfl (by kernel_rfl) (by kernel_rfl) (by kernel_rfl) (fun _ _ _ h => h) (wanted_plain rfl _) (fun w' _ => rn_pk rfl (he198.op rfl) (he198.op rfl) w') hH183 ?_
                intro a199 he199
                clear he198 a198
                refine wpAnyH_done (by kernel_rfl) ?_ _
                refine then_ok ?_
                refine wp_cond_true (he199.op rfl) ?_
                refine wp_seq ?_
                refine wp_region_lit ?_
                refine lV (Value.slice none 0 0) he199 rfl rfl (wanted_plain rfl _) (rn_asg rfl (he199.op rfl) w183) ?_
                intro a200 he200
                clear he199 a199
                refine lV (Value.bool false) he200 rfl rfl (wanted_plain rfl _) (rn_asg rfl (he200.op rfl) w183) ?_
                intro a201 he201
                clear he200 a200
                refine wpList_nil ?_
                refine then_ok ?_
                obtain ⟨e1, e2⟩ := cnt_stop hcn hc (step_same (by rw [hpe, hs]))
                have e3 : cellsO l = [] := by rw [cellsO, e1]; rfl
                refine wp_ret ?_
                try simp only [Exit.then, Exit.inBlock]
                exact ret_tt rfl he201 rfl rfl ⟨⟨none, 0, 0, by rw [e1, e3]; rfl, by rw [e3]; exact RdC.nil _ _ _⟩, (New.trans hR6 hH183.new)⟩
              · skip
                refine wp_seq ?_
                refine wp_seq ?_
                refine wp_region_held_drew (S := Hp w5 [⟨p60, 30, (Ce.cs (cellI c.w))⟩]) (by kernel_rfl) (hH62.drew) (fun _ => ?_)
                have hn : New w62 (World.drew w62) := (Fr.refl _ _).drew
                clear hn
                have hH202 := hH62.drew
                clear hH62
                generalize World.drew w62 = w202 at *
                refine hV (fuel := 15) (i := 0) (Value.int .i64 (k : Int)) he133 rfl rfl rfl (by kernel_rfl) (by kernel_rfl) (by kernel_rfl) (fun _ _ _ h => h) (wanted_plain rfl _) (fun w' _ => rn_mv rfl (he133.op rfl) w') hH202 ?_
                intro a203 he203
                clear he133 a132
                refine hV (fuel := 14) (i := 1) (Value.bool true) he203 rfl rfl rfl (by kernel_rfl) (by kernel_rfl) (by kernel_rfl) (fun _ _ _ h => h) (wanted_plain rfl _) (fun w' _ => rn_gtr rfl (he203.op rfl) (he203.op rfl) (decide_eq_true (by omega)) w') hH202 ?_
                intro a204 he204
                clear he203 a203
                refine hV (fuel := 13) (i := 2) (Value.bool true) he204 rfl rfl rfl (by kernel_rfl) (by kernel_rfl) (by kernel_rfl) (fun _ _ _ h => h) (wanted_plain rfl _) (fun w' _ => rn_mv rfl (he204.op rfl) w') hH202 ?_
                intro a205 he205
                clear he204 a204
                refine hV (fuel := 12) (i := 3) (Value.slice (some ⟨b, o0, none⟩) n cap) he205 rfl rfl rfl (by kernel_rfl) (by kernel_rfl) (by kernel_rfl) (fun _ _ _ h => h) (he205.want rfl rfl rfl rfl rfl) (fun w' _ => rn_mv rfl (he205.op rfl) w') hH202 ?_
                intro a206 he206
                clear he205 a205
                refine hV (fuel := 11) (i := 4) (Value.int .i64 (k : Int)) he206 rfl rfl rfl (by kernel_rfl) (by kernel_rfl) (by kernel_rfl) (fun _ _ _ h => h) (he206.want rfl rfl rfl rfl rfl) (fun w' _ => rn_mv rfl (he206.op rfl) w') hH202 ?_
                intro a207 he207
                clear he206 a206
                refine hV (fuel := 10) (i := 5) (Value.pointer (some ⟨b, o0 + k * 4, none⟩)) he207 rfl rfl rfl (by kernel_rfl) (by kernel_rfl) (by kernel_rfl) (fun _ _ _ h => h) (he207.want rfl rfl rfl rfl rfl) (fun w' _ => rn_idxR (i := k) rfl (he207.op rfl) (he207.op rfl) hkn (by rw [addr_add]) w') hH202 ?_
                intro a208 he208
                clear he207 a207
                refine hV (fuel := 9) (i := 6) (Value.pointer (some ⟨b, o0 + k * 4 + 1, none⟩)) he208 rfl rfl rfl (by kernel_rfl) (by kernel_rfl) (by kernel_rfl) (fun _ _ _ h => h) (he208.want rfl rfl rfl rfl rfl) (fun w' _ => rn_faR1 rfl (he208.op rfl) rfl w') hH202 ?_
                intro a209 he209
                clear he208 a208
                refine hV (fuel := 8) (i := 7) (Wd.v c.w) he209 rfl rfl rfl (by kernel_rfl) (by kernel_rfl) (by kernel_rfl) (fun _ _ _ h => h) (he209.want rfl rfl rfl rfl rfl) (fun w' hw' => rn_sRw (i := k) rfl (he209.op rfl) (hr.new hw'.new) rfl hc) hH202 ?_
                intro a210 he210
                clear he209 a209
                refine hV (fuel := 7) (i := 8) (Value.slice (some ⟨b, o0, none⟩) n cap) he210 rfl rfl rfl (by kernel_rfl) (by kernel_rfl) (by kernel_rfl) (fun _ _ _ h => h) (he210.want rfl rfl rfl rfl rfl) (fun w' _ => rn_mv rfl (he210.op rfl) w') hH202 ?_
                intro a211 he211
                clear he210 a210
                refine hV (fuel := 6) (i := 9) (Value.int .i64 (k : Int)) he211 rfl rfl rfl (by kernel_rfl) (by kernel_rfl) (by kernel_rfl) (fun _ _ _ h => h) (he211.want rfl rfl rfl rfl rfl) (fun w' _ => rn_mv rfl (he211.op rfl) w') hH202 ?_
                intro a212 he212
                clear he211 a211
                refine hV (fuel := 5) (i := 10) (Value.int .i64 ((k - 1 : Nat) : Int)) he212 rfl rfl rfl (by kernel_rfl) (by kernel_rfl) (by kernel_rfl) (fun _ _ _ h => h) (he212.want rfl rfl rfl rfl rfl) (fun w' _ => rn_subI rfl (he212.op rfl) (he212.op rfl) (by rw [IntWalk.i64_in _ ⟨by omega, by omega⟩]; omega) w') hH202 ?_
                intro a213 he213
                clear he212 a212
                refine hV (fuel := 4) (i := 11) (Value.pointer (some ⟨b, o0 + (k - 1) * 4, none⟩)) he213 rfl rfl rfl (by kernel_rfl) (by kernel_rfl) (by kernel_rfl) (fun _ _ _ h => h) (he213.want rfl rfl rfl rfl rfl) (fun w' _ => rn_idxR (i := (k - 1)) rfl (he213.op rfl) (he213.op rfl) (by omega) (by rw [addr_add]) w') hH202 ?_
                intro a214 he214
                clear he213 a213
                refine hV (fuel := 3) (i := 12) (Value.pointer (some ⟨b, o0 + (k - 1) * 4 + 1, none⟩)) he214 rfl rfl rfl (by kernel_rfl) (by kernel_rfl) (by kernel_rfl) (fun _ _ _ h => h) (he214.want rfl rfl rfl rfl rfl) (fun w' _ => rn_faR1 rfl (he214.op rfl) rfl w') hH202 ?_
                intro a215 he215
                clear he214 a214
                refine hV (fuel := 2) (i := 13) (Wd.v d.w) he215 rfl rfl rfl (by kernel_rfl) (by kernel_rfl) (by kernel_rfl) (fun _ _ _ h => h) (he215.want rfl rfl rfl rfl rfl) (fun w' hw' => rn_sRw (i := (k - 1)) rfl (he215.op rfl) (hr.new hw'.new) rfl hd) hH202 ?_
                intro a216 he216
                clear he215 a215
                refine hV (fuel := 1) (i := 14) (Value.bool false) he216 rfl rfl rfl (by kernel_rfl) (by kernel_rfl) (by kernel_rfl) (fun _ _ _ h => h) (he216.want rfl rfl rfl rfl rfl) (fun w' _ => rn_eqW rfl (he216.op rfl) (he216.op rfl) (decide_eq_false hs) w') hH202 ?_
                intro a217 he217
                clear he216 a216
                refine hV (fuel := 0) (i := 15) (Value.bool false) he217 rfl rfl rfl (by kernel_rfl) (by kernel_rfl) (by kernel_rfl) (fun _ _ _ h => h) (wanted_plain rfl _) (fun w' _ => rn_pk rfl (he217.op rfl) (he217.op rfl) w') hH202 ?_
                intro a218 he218
                clear he217 a217
                refine wpAnyH_done (by kernel_rfl) ?_ _
                refine then_ok ?_
                refine wp_cond_false (he218.op rfl) ?_
                refine wp_skip ?_
                refine then_ok ?_
                have hpn : prevW l k ≠ some c.w := by rw [hpe]; simp only [ne_eq, Option.some.injEq]; exact fun e => hs e.symm
                clear hs
                have he219 : Env 75 [(6, Value.pointer (some ⟨p60, 0, none⟩)), (0, Value.slice (some ⟨b, o0, none⟩) n cap), (4, Value.slice Ao m co), (5, Value.int .i64 (k : Int))] a218 := he218.mem ⟨rfl, rfl, rfl, rfl, trivial⟩
                clear he218
                have hst := stepR_ok (n := (m : Int)) (p := prevW l k) (r := c) (by omega) (by omega) hpn hg
                have hcn2 := cnt_go hcn hc hst
                refine wp_seq ?_
                refine wp_region_lit ?_
                refine lV (Value.int .i64 0) he219 rfl rfl (wanted_plain rfl _) (rn_asg rfl (he219.op rfl) w202) ?_
                intro a220 he220
                clear he219 a218
                refine wpList_nil ?_
                refine then_ok ?_
                refine wp_block ?_
                have he221 : Env 75 [(8, Value.int .i64 0), (6, Value.pointer (some ⟨p60, 0, none⟩)), (0, Value.slice (some ⟨b, o0, none⟩) n cap), (4, Value.slice Ao m co), (5, Value.int .i64 (k : Int))] a220 := he220.mem ⟨rfl, rfl, rfl, rfl, rfl, trivial⟩
                clear he220
                have hown0 : OwnC w202 w.heap.size (.slice Ao m co) (m + 0) (cellsR (l.take k) ++ List.replicate 0 (cellI c.w)) := by
                  rw [List.replicate_zero, List.append_nil]; exact own_fr hown hH202.new (fun _ _ h => h)
                have hne0 : ∀ q, (Value.slice Ao m co).ownBlock = some q → q ≠ p60 := fun q hq e => by have h1 := own_lt hown q hq; have h2 : w5.heap.size ≤ p60 := hH202.lo (i := 0) rfl; omega
                have hHw := hH202.root hR6
                clear hH202
                refine loop_nat (fun q a w' => ∃ (j : Nat) (vi : Value), q = c.n.toNat - j ∧ (j : Int) ≤ c.n ∧ Env 75 [(0, Value.slice (some ⟨b, o0, none⟩) n cap), (4, vi), (5, Value.int .i64 (k : Int)), (6, Value.pointer (some ⟨p60, 0, none⟩)), (8, Value.int .i64 (j : Int))] a ∧ Hp w [⟨p60, 30, (Ce.cs (cellI c.w))⟩] w' ∧ OwnC w' w.heap.size vi (m + j) (cellsR (l.take k) ++ List.replicate j (cellI c.w)) ∧ (∀ q, vi.ownBlock = some q → q ≠ p60)) c.n.toNat ⟨0, _, by omega, by omega, he221.mem ⟨rfl, rfl, rfl, rfl, rfl, trivial⟩, hHw, hown0, hne0⟩ ?_
                clear he221 hHw
                rintro q a222 w222 ⟨j, vi, rfl, hj, he222, hH222, howni, hne⟩
                as_aux_lemma =>
                  by_cases hjn : (j : Int) < c.n
                  · skip
                    refine wp_seq ?_
                    refine wp_seq ?_
                    refine wp_region_lit ?_
                    refine lV (Value.int .i64 (j : Int)) he222 rfl rfl (wanted_plain rfl _) (rn_mv rfl (he222.op rfl) w222) ?_
                    intro a223 he223
                    clear he222 a222
                    refine lV (Value.slice (some ⟨b, o0, none⟩) n cap) he223 rfl rfl (wanted_plain rfl _) (rn_mv rfl (he223.op rfl) w222) ?_
                    intro a224 he224
                    clear he223 a223
                    refine lV (Value.int .i64 (k : Int)) he224 rfl rfl (wanted_plain rfl _) (rn_mv rfl (he224.op rfl) w222) ?_
                    intro a225 he225
                    clear he224 a224
                    refine lV (Value.pointer (some ⟨b, o0 + k * 4, none⟩)) he225 rfl rfl (wanted_plain rfl _) (rn_idxR (i := k) rfl (he225.op rfl) (he225.op rfl) hkn (by rw [addr_add]) w222) ?_
                    intro a226 he226
                    clear he225 a225
                    refine lV (Value.pointer (some ⟨b, o0 + k * 4 + 0, none⟩)) he226 rfl rfl (wanted_plain rfl _) (rn_faR0 rfl (he226.op rfl) rfl w222) ?_
                    intro a227 he227
                    clear he226 a226
                    refine lV (Value.int .i64 c.n) he227 rfl rfl (wanted_plain rfl _) (rn_sRn (i := k) rfl (he227.op rfl) (hr0.new hH222.new) rfl hc) ?_
                    intro a228 he228
                    clear he227 a227
                    refine lV (Value.bool true) he228 rfl rfl (wanted_plain rfl _) (rn_lss rfl (he228.op rfl) (he228.op rfl) (decide_eq_true (by omega)) w222) ?_
                    intro a229 he229
                    clear he228 a228
                    refine wpList_nil ?_
                    refine then_ok ?_
                    refine wp_cond_true (he229.op rfl) ?_
                    refine wp_skip ?_
                    refine then_ok ?_
                    refine wp_seq ?_
                    refine wp_block ?_
                    refine wp_region_lit ?_
                    refine lV (vi) he229 rfl rfl (wanted_plain rfl _) (rn_mv rfl (he229.op rfl) w222) ?_
                    intro a230 he230
                    clear he229 a229
                    refine lV (Ce.v (cellI c.w)) he230 rfl rfl (wanted_plain rfl _) (rn_load rfl (he230.op rfl) (hH222.at (i := 0) rfl)) ?_
                    intro a231 he231
                    clear he230 a230
                    refine lNew (fun p => .slice (some ⟨p, 0, none⟩) 1 1) he231 hH222 rfl rfl (wanted_plain rfl _) (rn_bs1 rfl (he231.op rfl) w222) ?_
                    intro p232 w232 a233 hn hH232 he233
                    replace howni := own_fr howni hn (fun _ _ h => h)
                    clear he231 a231 hH222 hn
                    have hnew := rdg_blk (R := rC) (n := 1) (l := [cellI c.w]) (hH232.at (i := 0) rfl) rfl rfl
                    have hlt9 : p60 < w232.heap.size := Blk.lt (hH232.at (i := 1) rfl)
                    have hH234 := hH232.tail rfl
                    refine lAppO (R := rC) howni hnew he233 rfl rfl (wanted_plain rfl _) rfl rfl rfl (by omega) hH232.new.size ?_
                    intro vx wx a235 ho2 hgr hor he235
                    clear he233 a233
                    have hfr : Fr (fun q => vi.ownBlock = some q) w232 wx := Fr.grown (Fr.refl _ _) hgr (fun q hq => .inl hq)
                    have hHx := hH234.own hfr (fun q hq => own_blk howni q hq) (fun b hb hs => by rw [List.mem_singleton.1 hb] at hs; exact hne _ hs rfl)
                    have hnex : ∀ q, vx.ownBlock = some q → q ≠ p60 := fun q hq e => by
                      rcases hor with h | h
                      · rw [h] at hq; exact hne q hq e
                      · rw [h] at hq; simp only [Option.some.injEq] at hq; omega
                    clear hH232 hH234 hgr hor hfr hnew howni hne
                    refine lV (vx) he235 rfl rfl (wanted_plain rfl _) (rn_asg rfl (he235.op rfl) wx) ?_
                    intro a236 he236
                    clear he235 a235
                    refine wpList_nil ?_
                    refine block_ok ?_
                    refine then_ok ?_
                    refine wp_region_lit ?_
                    refine lV (Value.int .i64 (j : Int)) he236 rfl rfl (wanted_plain rfl _) (rn_mv rfl (he236.op rfl) wx) ?_
                    intro a237 he237
                    clear he236 a236
                    refine lV (Value.int .i64 ((j + 1 : Nat) : Int)) he237 rfl rfl (wanted_plain rfl _) (rn_add1 rfl (he237.op rfl) (he237.op rfl) (by rw [IntWalk.i64_in _ ⟨by omega, by omega⟩]; rfl) wx) ?_
                    intro a238 he238
                    clear he237 a237
                    refine lV (Value.int .i64 ((j + 1 : Nat) : Int)) he238 rfl rfl (wanted_plain rfl _) (rn_asg rfl (he238.op rfl) wx) ?_
                    intro a239 he239
                    clear he238 a238
                    refine wpList_nil ?_
                    refine then_ok ?_
                    exact ⟨c.n.toNat - (j + 1), by omega, j + 1, vx, rfl, by omega, he239.mem ⟨rfl, rfl, rfl, rfl, rfl, trivial⟩, hHx, by rw [OwnC, rep_succ, ← List.append_assoc]; exact ho2, hnex⟩
                  · skip
                    refine wp_seq ?_
                    refine wp_seq ?_
                    refine wp_region_lit ?_
                    refine lV (Value.int .i64 (j : Int)) he222 rfl rfl (wanted_plain rfl _) (rn_mv rfl (he222.op rfl) w222) ?_
                    intro a240 he240
                    clear he222 a222
                    refine lV (Value.slice (some ⟨b, o0, none⟩) n cap) he240 rfl rfl (wanted_plain rfl _) (rn_mv rfl (he240.op rfl) w222) ?_
                    intro a241 he241
                    clear he240 a240
                    refine lV (Value.int .i64 (k : Int)) he241 rfl rfl (wanted_plain rfl _) (rn_mv rfl (he241.op rfl) w222) ?_
                    intro a242 he242
                    clear he241 a241
                    refine lV (Value.pointer (some ⟨b, o0 + k * 4, none⟩)) he242 rfl rfl (wanted_plain rfl _) (rn_idxR (i := k) rfl (he242.op rfl) (he242.op rfl) hkn (by rw [addr_add]) w222) ?_
                    intro a243 he243
                    clear he242 a242
                    refine lV (Value.pointer (some ⟨b, o0 + k * 4 + 0, none⟩)) he243 rfl rfl (wanted_plain rfl _) (rn_faR0 rfl (he243.op rfl) rfl w222) ?_
                    intro a244 he244
                    clear he243 a243
                    refine lV (Value.int .i64 c.n) he244 rfl rfl (wanted_plain rfl _) (rn_sRn (i := k) rfl (he244.op rfl) (hr0.new hH222.new) rfl hc) ?_
                    intro a245 he245
                    clear he244 a244
                    refine lV (Value.bool false) he245 rfl rfl (wanted_plain rfl _) (rn_lss rfl (he245.op rfl) (he245.op rfl) (decide_eq_false (by omega)) w222) ?_
                    intro a246 he246
                    clear he245 a245
                    refine wpList_nil ?_
                    refine then_ok ?_
                    refine wp_cond_false (he246.op rfl) ?_
                    refine wp_exit ?_
                    simp only [Exit.then, Exit.inBlock, if_true]
                    refine wp_region_lit ?_
                    refine lV (Value.int .i64 (k : Int)) he246 rfl rfl (wanted_plain rfl _) (rn_mv rfl (he246.op rfl) w222) ?_
                    intro a247 he247
                    clear he246 a246
                    refine lV (Value.int .i64 ((k + 1 : Nat) : Int)) he247 rfl rfl (wanted_plain rfl _) (rn_add1 rfl (he247.op rfl) (he247.op rfl) (by rw [IntWalk.i64_in _ ⟨by omega, by omega⟩]; rfl) w222) ?_
                    intro a248 he248
                    clear he247 a247
                    refine lV (Value.int .i64 ((k + 1 : Nat) : Int)) he248 rfl rfl (wanted_plain rfl _) (rn_asg rfl (he248.op rfl) w222) ?_
                    intro a249 he249
                    clear he248 a248
                    refine wpList_nil ?_
                    refine then_ok ?_
                    have hjc : c.n.toNat = j := by omega
                    have hmj : ((m + j : Nat) : Int) = (m : Int) + c.n := by omega
                    have hH250 := hH222.tail rfl
                    clear hH222
                    exact ⟨n - (k + 1), by omega, k + 1, m + j, vi, rfl, by omega, by omega, by rw [hmj]; exact hcn2, he249.mem ⟨rfl, rfl, rfl, trivial⟩, hH250, by rw [cells_take hc, hjc]; exact howni⟩
    · skip
      refine wp_seq ?_
      refine wp_seq ?_
      refine wp_region_lit ?_
      refine lV (Value.int .i64 (k : Int)) he5 rfl rfl (wanted_plain rfl _) (rn_mv rfl (he5.op rfl) w5) ?_
      intro a251 he251
      clear he5 a5
      refine lV (Value.slice A n cap) he251 rfl rfl (wanted_plain rfl _) (rn_mv rfl (he251.op rfl) w5) ?_
      intro a252 he252
      clear he251 a251
      refine lV (Value.int .i64 (n : Nat)) he252 rfl rfl (wanted_plain rfl _) (rn_lenR rfl (he252.op rfl) w5) ?_
      intro a253 he253
      clear he252 a252
      refine lV (Value.bool false) he253 rfl rfl (wanted_plain rfl _) (rn_lss rfl (he253.op rfl) (he253.op rfl) (decide_eq_false (by omega)) w5) ?_
      intro a254 he254
      clear he253 a253
      refine wpList_nil ?_
      refine then_ok ?_
      refine wp_cond_false (he254.op rfl) ?_
      refine wp_exit ?_
      simp only [Exit.then, Exit.inBlock, if_true]
      rw [List.take_of_length_le (by omega)] at hown
      rw [List.drop_eq_nil_of_le (by omega), cntR] at hcn
      have hga : goodR l = true := by rw [goodR, hcn]; rfl
      have he1 : cellsO l = cellsR l := by rw [cellsO, hga]; rfl
      have hlm := own_len (R := rC) hown
      refine wp_seq ?_
      refine wp_region_lit ?_
      refine lV (vr) he254 rfl rfl (wanted_plain rfl _) (rn_mv rfl (he254.op rfl) w5) ?_
      intro a255 he255
      clear he254 a254
      refine lV (vr) he255 rfl rfl (wanted_plain rfl _) (rn_asg rfl (he255.op rfl) w5) ?_
      intro a256 he256
      clear he255 a255
      refine lV (Value.bool true) he256 rfl rfl (wanted_plain rfl _) (rn_asg rfl (he256.op rfl) w5) ?_
      intro a257 he257
      clear he256 a256
      refine wpList_nil ?_
      refine then_ok ?_
      obtain ⟨b', A', c', rfl, -, hrd⟩ := own_rdg (R := rC) hown
      refine wp_ret ?_
      try simp only [Exit.then, Exit.inBlock]
      exact ret_tt rfl he257 rfl rfl ⟨⟨A', c', b', by rw [he1, hga, hlm], by rw [he1, hlm]; exact hrd⟩, hH5.new⟩

end Go.Proofs.YtaiijndldngnkaaDoor
namespace Go.Proofs.YtaiijndldngnkaaDoor
open Go.RowKit

inductive Kd where
  | val (v : Value)
  | runs (q : Nat) (l : List Rn)
  | cells (q : Nat) (l : List Ce)
def Kd.holds : Kd → Value → World → Prop
  | .val u, v, _ => v = u
  | .runs q l, v, w => ∃ p, v = .slice (some ⟨p, 0, none⟩) q q ∧ RdR w p (some ⟨p, 0, none⟩) q l
  | .cells q l, v, w => ∃ p, v = .slice (some ⟨p, 0, none⟩) q q ∧ RdC w p (some ⟨p, 0, none⟩) q l
def HoldsI (Is : List Kd) (k : Nat) (v : Value) (w : World) : Prop := match Is[k]? with
  | some d => d.holds v w
  | none => True
theorem HoldsI.new {Is : List Kd} (k : Nat) (v : Value) (w w' : World) (h : HoldsI Is k v w) (hn : New w w') : HoldsI Is k v w' := by
  unfold HoldsI at *
  cases hd : Is[k]? with
  | none => trivial
  | some d =>
    rw [hd] at h
    cases d with
    | val u => exact h
    | runs q l => obtain ⟨p, h1, h2⟩ := h; exact ⟨p, h1, h2.new hn⟩
    | cells q l => obtain ⟨p, h1, h2⟩ := h; exact ⟨p, h1, h2.new hn⟩
theorem Env.add {N : Nat} {F : List (Nat × Value)} {a : Act} (he : Env N F a) {k : Nat} {v : Value} (h : a.eval (.tmp k) = v) : Env N ((k, v) :: F) a := by
  refine ⟨he.sz, he.df, fun j u hj => ?_⟩
  unfold lk at hj
  cases hb : Nat.beq k j with
  | true =>
    rw [hb] at hj
    simp only [cond_true, Option.some.injEq] at hj
    obtain rfl := Nat.eq_of_beq_eq_true hb
    rw [h, hj]
  | false =>
    rw [hb] at hj
    exact he.ev j u hj
section
variable {P : Program} {ops : Array Oper} {Q : Exit → Act → World → Prop} {S : World → Prop} {md : Region.Mode} {N k : Nat} {F : List (Nat × Value)} {I : Nat → Value → World → Prop} {o : Oper} {l : List Oper}
theorem StepsAll.cons (h : StepOk P md ops Q N F S I k o) (t : StepsAll P md ops Q N F S I (k + 1) l) : StepsAll P md ops Q N F S I k (o :: l) := ⟨h, t⟩
theorem StepsAll.nil : StepsAll P md ops Q N F S I k [] := trivial
end
/-- Cells of runs, words, and the errors, whatever the arguments. -/
def wordsO (c : Ce) : Wd := if cellB c then wordsI c else zeroW
def wordsE (c : Ce) : Int := if cellB c then 0 else 2
def cellO (x : Wd) : Ce := if goodB x then cellI x else zeroCe
def cellE (x : Wd) : Int := if goodB x then 0 else 12
def cellsE (l : List Rn) : Int := if goodR l then 0 else 12
theorem Words_all (c : Ce) (hp : c.p.Ok) (w : World) (hT : Tab w) : Calls Tryd.prog 26 #[c.v] w fun e w' => e = .returned (.tuple #[(wordsO c).v, .int .i64 (wordsE c)]) ∧ New w w' := by
  unfold wordsO wordsE
  cases h : cellB c with
  | true => exact Words_yes c h hp w hT
  | false => exact Words_no c h w hT
theorem PCell_all (x : Wd) (hx : x.Ok) (w : World) (hT : Tab w) : Calls Tryd.prog 33 #[x.v] w fun e w' => e = .returned (.tuple #[(cellO x).v, .int .i64 (cellE x)]) ∧ New w w' := by
  unfold cellO cellE
  cases h : goodB x with
  | true => exact PCell_yes x hx h w hT
  | false => exact PCell_no x hx h w hT
end Go.Proofs.YtaiijndldngnkaaDoor
