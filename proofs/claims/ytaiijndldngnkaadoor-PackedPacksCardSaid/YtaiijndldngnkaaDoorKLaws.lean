/-
  The small functions of the statements.
-/
import Derived.Test.YtaiijndldngnkaaDoorKD
import Derived.Test.YtaiijndldngnkaaDoorKSame
namespace Go.Proofs.YtaiijndldngnkaaDoor
open Go.RowKit

theorem SameC_b (la lb : List Ce) (b : Bool) (h : decide (la = lb) = b) (na nb ba bb ca cb : Nat) (A B : Option Addr) (w : World) (ha : RdC w ba A na la) (hb : RdC w bb B nb lb) (h1 : na ≤ 1000000) (h2 : nb ≤ 1000000) :
    Calls Tryd.prog 17 #[.slice A na ca, .slice B nb cb] w fun e w' => e = .returned (.bool b) ∧ New w w' := h ▸ RSame_any la lb na nb ba bb ca cb A B w ha hb h1 h2
theorem SameR_b (la lb : List Rn) (b : Bool) (h : decide (la = lb) = b) (na nb ba bb ca cb : Nat) (A B : Option Addr) (w : World) (ha : RdR w ba A na la) (hb : RdR w bb B nb lb) (h1 : na ≤ 1000000) (h2 : nb ≤ 1000000) :
    Calls Tryd.prog 24 #[.slice A na ca, .slice B nb cb] w fun e w' => e = .returned (.bool b) ∧ New w w' := h ▸ RSameR_any la lb na nb ba bb ca cb A B w ha hb h1 h2

set_option linter.unusedSimpArgs false in
set_option maxRecDepth 100000 in
set_option maxHeartbeats 1600000 in
theorem words_b (c : Ce) (hp : c.p.Ok) (want : Wd) (no : Int) (b : Bool) (hb : (decide (wordsO c = want) && (wordsE c == no)) = b) (w : World) (hT : Tab w) :
    Calls Tryd.prog 10 #[c.v, want.v, .int .i64 no] w fun e w' => e = .returned (.bool b) ∧ New w w' := by
  obtain ⟨e, he⟩ : ∃ e, decide (wordsO c = want) = e := ⟨_, rfl⟩
  rw [he] at hb
  refine calls_args (vl := [Ce.v c, Wd.v want, Value.int .i64 no]) 22 Tryd.func10 rfl Tryd.ntmps10 (by kernel_rfl) (fun a he => ?_)
  have he0 : Env 22 [(0, Ce.v c), (1, Wd.v want), (2, Value.int .i64 no)] a := he
  clear he
  have hH := Hp.start w
  refine wp_seq ?_
  refine wp_region_lit ?_
  refine lNew (fun p => .pointer (some ⟨p, 0, none⟩)) he0 hH rfl rfl (wanted_plain rfl _) (rn_boxC rfl (he0.op rfl) w) ?_
  intro p1 w1 a2 hn hH1 he2
  clear he0 a hH hn
  refine lNew (fun p => .pointer (some ⟨p, 0, none⟩)) he2 hH1 rfl rfl (wanted_plain rfl _) (rn_boxW rfl (he2.op rfl) w1) ?_
  intro p3 w3 a4 hn hH3 he4
  clear he2 a2 hH1 hn
  refine lV (Value.bool false) he4 rfl rfl (wanted_plain rfl _) (rn_asg rfl (he4.op rfl) w3) ?_
  intro a5 he5
  clear he4 a4
  refine wpList_nil ?_
  refine then_ok ?_
  refine wp_seq ?_
  refine wp_region_lit ?_
  refine lV (Ce.v c) he5 rfl rfl (wanted_plain rfl _) (rn_load rfl (he5.op rfl) (hH3.at (i := 1) rfl)) ?_
  intro a6 he6
  clear he5 a5
  refine lC he6 rfl rfl Tryd.func26 (by kernel_rfl) rfl rfl (wanted_plain rfl _) rfl (Words_all c hp w3 (hT.new hH3.new)) ?_
  intro w7 a8 hn he8
  have hH7 := hH3.call hn
  clear he6 a6 hH3 hn
  refine lV (Value.tuple #[Wd.v (wordsO c), Value.int .i64 (wordsE c)]) he8 rfl rfl (wanted_plain rfl _) (rn_mv rfl (he8.op rfl) w7) ?_
  intro a9 he9
  clear he8 a8
  refine lV (Wd.v (wordsO c)) he9 rfl rfl (wanted_plain rfl _) (rn_ext rfl (he9.op rfl) rfl w7) ?_
  intro a10 he10
  clear he9 a9
  refine lV (Value.int .i64 (wordsE c)) he10 rfl rfl (wanted_plain rfl _) (rn_ext rfl (he10.op rfl) rfl w7) ?_
  intro a11 he11
  clear he10 a10
  refine lNew (fun p => .pointer (some ⟨p, 0, none⟩)) he11 hH7 rfl rfl (wanted_plain rfl _) (rn_allocW rfl w7) ?_
  intro p12 w12 a13 hn hH12 he13
  clear he11 a11 hH7 hn
  refine lSetV 0 (Wd.cs (wordsO c)) (cs := (Wd.cs (wordsO c))) he13 hH12 rfl (wanted_plain rfl _) rfl rfl rfl rfl rfl (by kernel_rfl) (by kernel_rfl) (by kernel_rfl) rfl ?_
  intro w14 a15 hH14 he15
  replace hH14 : Hp w [⟨p12, 34, (Wd.cs (wordsO c))⟩, ⟨p3, 34, (Wd.cs want)⟩, ⟨p1, 30, (Ce.cs c)⟩] w14 := hH14
  clear he13 a13 hH12
  refine lV (Value.int .i64 (wordsE c)) he15 rfl rfl (wanted_plain rfl _) (rn_asg rfl (he15.op rfl) w14) ?_
  intro a16 he16
  clear he15 a15
  refine wpList_nil ?_
  refine then_ok ?_
  cases e with
  | false =>
    have hb2 : b = false := by simpa using hb.symm
    subst hb2
    refine wp_seq ?_
    refine wp_region_lit ?_
    refine lV (Wd.v (wordsO c)) he16 rfl rfl (wanted_plain rfl _) (rn_loadW rfl (he16.op rfl) (hH14.at (i := 0) rfl)) ?_
    intro a17 he17
    clear he16 a16
    refine lV (Wd.v want) he17 rfl rfl (wanted_plain rfl _) (rn_loadW rfl (he17.op rfl) (hH14.at (i := 1) rfl)) ?_
    intro a18 he18
    clear he17 a17
    refine lV (Value.bool false) he18 rfl rfl (wanted_plain rfl _) (rn_eqW rfl (he18.op rfl) (he18.op rfl) he w14) ?_
    intro a19 he19
    clear he18 a18
    refine lV (Value.bool false) he19 rfl rfl (wanted_plain rfl _) (rn_mv rfl (he19.op rfl) w14) ?_
    intro a20 he20
    clear he19 a19
    refine lSkip he20 rfl rfl (he20.wantNot rfl rfl rfl rfl rfl rfl) ?_
    intro a21 he21
    clear he20 a20
    refine lSkip he21 rfl rfl (he21.wantNot rfl rfl rfl rfl rfl rfl) ?_
    intro a22 he22
    clear he21 a21
    refine lSkip he22 rfl rfl (he22.wantNot rfl rfl rfl rfl rfl rfl) ?_
    intro a23 he23
    clear he22 a22
    refine lV (Value.bool false) he23 rfl rfl (wanted_plain rfl _) (rn_pk0 rfl (he23.op rfl) (he23.op rfl) w14) ?_
    intro a24 he24
    clear he23 a23
    refine lV (Value.bool false) he24 rfl rfl (wanted_plain rfl _) (rn_asg rfl (he24.op rfl) w14) ?_
    intro a25 he25
    clear he24 a24
    refine wpList_nil ?_
    refine then_ok ?_
    refine wp_ret ?_
    try simp only [Exit.then, Exit.inBlock]
    exact ret_env rfl he25 rfl ⟨rfl, hH14.new⟩
  | true =>
    have hb2 : (wordsE c == no) = b := by simpa using hb
    refine wp_seq ?_
    refine wp_region_lit ?_
    refine lV (Wd.v (wordsO c)) he16 rfl rfl (wanted_plain rfl _) (rn_loadW rfl (he16.op rfl) (hH14.at (i := 0) rfl)) ?_
    intro a26 he26
    clear he16 a16
    refine lV (Wd.v want) he26 rfl rfl (wanted_plain rfl _) (rn_loadW rfl (he26.op rfl) (hH14.at (i := 1) rfl)) ?_
    intro a27 he27
    clear he26 a26
    refine lV (Value.bool true) he27 rfl rfl (wanted_plain rfl _) (rn_eqW rfl (he27.op rfl) (he27.op rfl) he w14) ?_
    intro a28 he28
    clear he27 a27
    refine lV (Value.bool true) he28 rfl rfl (wanted_plain rfl _) (rn_mv rfl (he28.op rfl) w14) ?_
    intro a29 he29
    clear he28 a28
    refine lV (Value.int .i64 (wordsE c)) he29 rfl rfl (he29.want rfl rfl rfl rfl rfl) (rn_mv rfl (he29.op rfl) w14) ?_
    intro a30 he30
    clear he29 a29
    refine lV (Value.int .i64 no) he30 rfl rfl (he30.want rfl rfl rfl rfl rfl) (rn_mv rfl (he30.op rfl) w14) ?_
    intro a31 he31
    clear he30 a30
    refine lV (Value.bool b) he31 rfl rfl (he31.want rfl rfl rfl rfl rfl) (rn_eqE rfl (he31.op rfl) (he31.op rfl) hb2 w14) ?_
    intro a32 he32
    clear he31 a31
    refine lV (Value.bool b) he32 rfl rfl (wanted_plain rfl _) (rn_pk rfl (he32.op rfl) (he32.op rfl) w14) ?_
    intro a33 he33
    clear he32 a32
    refine lV (Value.bool b) he33 rfl rfl (wanted_plain rfl _) (rn_asg rfl (he33.op rfl) w14) ?_
    intro a34 he34
    clear he33 a33
    refine wpList_nil ?_
    refine then_ok ?_
    refine wp_ret ?_
    try simp only [Exit.then, Exit.inBlock]
    exact ret_env rfl he34 rfl ⟨rfl, hH14.new⟩

set_option linter.unusedSimpArgs false in
set_option maxRecDepth 100000 in
set_option maxHeartbeats 1600000 in
theorem cell_b (x : Wd) (hx : x.Ok) (want : Ce) (no : Int) (b : Bool) (hb : (decide (cellO x = want) && (cellE x == no)) = b) (w : World) (hT : Tab w) :
    Calls Tryd.prog 13 #[x.v, want.v, .int .i64 no] w fun e w' => e = .returned (.bool b) ∧ New w w' := by
  obtain ⟨e, he⟩ : ∃ e, decide (cellO x = want) = e := ⟨_, rfl⟩
  rw [he] at hb
  refine calls_args (vl := [Wd.v x, Ce.v want, Value.int .i64 no]) 22 Tryd.func13 rfl Tryd.ntmps13 (by kernel_rfl) (fun a he => ?_)
  have he0 : Env 22 [(0, Wd.v x), (1, Ce.v want), (2, Value.int .i64 no)] a := he
  clear he
  have hH := Hp.start w
  refine wp_seq ?_
  refine wp_region_lit ?_
  refine lNew (fun p => .pointer (some ⟨p, 0, none⟩)) he0 hH rfl rfl (wanted_plain rfl _) (rn_boxW rfl (he0.op rfl) w) ?_
  intro p1 w1 a2 hn hH1 he2
  clear he0 a hH hn
  refine lNew (fun p => .pointer (some ⟨p, 0, none⟩)) he2 hH1 rfl rfl (wanted_plain rfl _) (rn_boxC rfl (he2.op rfl) w1) ?_
  intro p3 w3 a4 hn hH3 he4
  clear he2 a2 hH1 hn
  refine lV (Value.bool false) he4 rfl rfl (wanted_plain rfl _) (rn_asg rfl (he4.op rfl) w3) ?_
  intro a5 he5
  clear he4 a4
  refine wpList_nil ?_
  refine then_ok ?_
  refine wp_seq ?_
  refine wp_region_lit ?_
  refine lV (Wd.v x) he5 rfl rfl (wanted_plain rfl _) (rn_loadW rfl (he5.op rfl) (hH3.at (i := 1) rfl)) ?_
  intro a6 he6
  clear he5 a5
  refine lC he6 rfl rfl Tryd.func33 (by kernel_rfl) rfl rfl (wanted_plain rfl _) rfl (PCell_all x hx w3 (hT.new hH3.new)) ?_
  intro w7 a8 hn he8
  have hH7 := hH3.call hn
  clear he6 a6 hH3 hn
  refine lV (Value.tuple #[Ce.v (cellO x), Value.int .i64 (cellE x)]) he8 rfl rfl (wanted_plain rfl _) (rn_mv rfl (he8.op rfl) w7) ?_
  intro a9 he9
  clear he8 a8
  refine lV (Ce.v (cellO x)) he9 rfl rfl (wanted_plain rfl _) (rn_ext rfl (he9.op rfl) rfl w7) ?_
  intro a10 he10
  clear he9 a9
  refine lV (Value.int .i64 (cellE x)) he10 rfl rfl (wanted_plain rfl _) (rn_ext rfl (he10.op rfl) rfl w7) ?_
  intro a11 he11
  clear he10 a10
  refine lNew (fun p => .pointer (some ⟨p, 0, none⟩)) he11 hH7 rfl rfl (wanted_plain rfl _) (rn_alloc rfl w7) ?_
  intro p12 w12 a13 hn hH12 he13
  clear he11 a11 hH7 hn
  refine lSetV 0 (Ce.cs (cellO x)) (cs := (Ce.cs (cellO x))) he13 hH12 rfl (wanted_plain rfl _) rfl rfl rfl rfl rfl (by kernel_rfl) (by kernel_rfl) (by kernel_rfl) rfl ?_
  intro w14 a15 hH14 he15
  replace hH14 : Hp w [⟨p12, 30, (Ce.cs (cellO x))⟩, ⟨p3, 30, (Ce.cs want)⟩, ⟨p1, 34, (Wd.cs x)⟩] w14 := hH14
  clear he13 a13 hH12
  refine lV (Value.int .i64 (cellE x)) he15 rfl rfl (wanted_plain rfl _) (rn_asg rfl (he15.op rfl) w14) ?_
  intro a16 he16
  clear he15 a15
  refine wpList_nil ?_
  refine then_ok ?_
  cases e with
  | false =>
    have hb2 : b = false := by simpa using hb.symm
    subst hb2
    refine wp_seq ?_
    refine wp_region_lit ?_
    refine lV (Ce.v (cellO x)) he16 rfl rfl (wanted_plain rfl _) (rn_load rfl (he16.op rfl) (hH14.at (i := 0) rfl)) ?_
    intro a17 he17
    clear he16 a16
    refine lV (Ce.v want) he17 rfl rfl (wanted_plain rfl _) (rn_load rfl (he17.op rfl) (hH14.at (i := 1) rfl)) ?_
    intro a18 he18
    clear he17 a17
    refine lV (Value.bool false) he18 rfl rfl (wanted_plain rfl _) (rn_eqC rfl (he18.op rfl) (he18.op rfl) he w14) ?_
    intro a19 he19
    clear he18 a18
    refine lV (Value.bool false) he19 rfl rfl (wanted_plain rfl _) (rn_mv rfl (he19.op rfl) w14) ?_
    intro a20 he20
    clear he19 a19
    refine lSkip he20 rfl rfl (he20.wantNot rfl rfl rfl rfl rfl rfl) ?_
    intro a21 he21
    clear he20 a20
    refine lSkip he21 rfl rfl (he21.wantNot rfl rfl rfl rfl rfl rfl) ?_
    intro a22 he22
    clear he21 a21
    refine lSkip he22 rfl rfl (he22.wantNot rfl rfl rfl rfl rfl rfl) ?_
    intro a23 he23
    clear he22 a22
    refine lV (Value.bool false) he23 rfl rfl (wanted_plain rfl _) (rn_pk0 rfl (he23.op rfl) (he23.op rfl) w14) ?_
    intro a24 he24
    clear he23 a23
    refine lV (Value.bool false) he24 rfl rfl (wanted_plain rfl _) (rn_asg rfl (he24.op rfl) w14) ?_
    intro a25 he25
    clear he24 a24
    refine wpList_nil ?_
    refine then_ok ?_
    refine wp_ret ?_
    try simp only [Exit.then, Exit.inBlock]
    exact ret_env rfl he25 rfl ⟨rfl, hH14.new⟩
  | true =>
    have hb2 : (cellE x == no) = b := by simpa using hb
    refine wp_seq ?_
    refine wp_region_lit ?_
    refine lV (Ce.v (cellO x)) he16 rfl rfl (wanted_plain rfl _) (rn_load rfl (he16.op rfl) (hH14.at (i := 0) rfl)) ?_
    intro a26 he26
    clear he16 a16
    refine lV (Ce.v want) he26 rfl rfl (wanted_plain rfl _) (rn_load rfl (he26.op rfl) (hH14.at (i := 1) rfl)) ?_
    intro a27 he27
    clear he26 a26
    refine lV (Value.bool true) he27 rfl rfl (wanted_plain rfl _) (rn_eqC rfl (he27.op rfl) (he27.op rfl) he w14) ?_
    intro a28 he28
    clear he27 a27
    refine lV (Value.bool true) he28 rfl rfl (wanted_plain rfl _) (rn_mv rfl (he28.op rfl) w14) ?_
    intro a29 he29
    clear he28 a28
    refine lV (Value.int .i64 (cellE x)) he29 rfl rfl (he29.want rfl rfl rfl rfl rfl) (rn_mv rfl (he29.op rfl) w14) ?_
    intro a30 he30
    clear he29 a29
    refine lV (Value.int .i64 no) he30 rfl rfl (he30.want rfl rfl rfl rfl rfl) (rn_mv rfl (he30.op rfl) w14) ?_
    intro a31 he31
    clear he30 a30
    refine lV (Value.bool b) he31 rfl rfl (he31.want rfl rfl rfl rfl rfl) (rn_eqE rfl (he31.op rfl) (he31.op rfl) hb2 w14) ?_
    intro a32 he32
    clear he31 a31
    refine lV (Value.bool b) he32 rfl rfl (wanted_plain rfl _) (rn_pk rfl (he32.op rfl) (he32.op rfl) w14) ?_
    intro a33 he33
    clear he32 a32
    refine lV (Value.bool b) he33 rfl rfl (wanted_plain rfl _) (rn_asg rfl (he33.op rfl) w14) ?_
    intro a34 he34
    clear he33 a33
    refine wpList_nil ?_
    refine then_ok ?_
    refine wp_ret ?_
    try simp only [Exit.then, Exit.inBlock]
    exact ret_env rfl he34 rfl ⟨rfl, hH14.new⟩

theorem cellsO_le (l : List Rn) : (cellsO l).length ≤ 100000 := by
  unfold cellsO
  cases h : goodR l with
  | true => have := count_len h; simp only [if_true]; omega
  | false => simp
theorem joinO_le (l m : List Rn) : (joinO l m).length ≤ l.length + m.length := by
  unfold joinO
  split
  · exact fold_len m l
  · simp

set_option linter.unusedSimpArgs false in
set_option maxRecDepth 100000 in
set_option maxHeartbeats 1600000 in
theorem packs_b (l : List Ce) (n bl cl : Nat) (A : Option Addr) (no : Int) (want : List Rn) (q bq cq : Nat) (Aq : Option Addr) (b : Bool) (hb : (decide (packO l = want) && (packE l == no)) = b) (w : World) (hl : RdC w bl A n l) (hok : ∀ c ∈ l, c.p.Ok) (hn : n ≤ 1000000) (hq : RdR w bq Aq q want) (hql : q ≤ 1000000) (hT : Tab w) :
    Calls Tryd.prog 16 #[.slice A n cl, .int .i64 no, .slice Aq q cq] w fun e w' => e = .returned (.bool b) ∧ New w w' := by
  obtain ⟨e, he⟩ : ∃ e, decide (packO l = want) = e := ⟨_, rfl⟩
  rw [he] at hb
  refine calls_args (vl := [Value.slice A n cl, Value.int .i64 no, Value.slice Aq q cq]) 22 Tryd.func16 rfl Tryd.ntmps16 (by kernel_rfl) (fun a he => ?_)
  have he0 : Env 22 [(0, Value.slice A n cl), (1, Value.int .i64 no), (2, Value.slice Aq q cq)] a := he
  clear he
  have hH := Hp.start w
  refine wp_seq ?_
  refine wp_region_lit ?_
  refine lV (Value.bool false) he0 rfl rfl (wanted_plain rfl _) (rn_asg rfl (he0.op rfl) w) ?_
  intro a1 he1
  clear he0 a
  refine wpList_nil ?_
  refine then_ok ?_
  refine wp_seq ?_
  refine wp_region_lit ?_
  refine lV (Value.slice A n cl) he1 rfl rfl (wanted_plain rfl _) (rn_mv rfl (he1.op rfl) w) ?_
  intro a2 he2
  clear he1 a1
  refine lCx he2 rfl rfl Tryd.func25 (by kernel_rfl) rfl rfl (wanted_plain rfl _) rfl (Pack_any l n bl cl A w (hl.new hH.new) hok hn (hT.new hH.new)) ?_
  rintro _ w3 ⟨⟨Ax, cx, bx, rfl, hx⟩, hn⟩
  refine ⟨_, rfl, ?_⟩
  intro a4 he4
  have hH3 := hH.call hn
  clear he2 a2 hH
  clear hn
  refine lV (Value.tuple #[Value.slice Ax (packO l).length cx, Value.int .i64 (packE l)]) he4 rfl rfl (wanted_plain rfl _) (rn_mv rfl (he4.op rfl) w3) ?_
  intro a5 he5
  clear he4 a4
  refine lV (Value.slice Ax (packO l).length cx) he5 rfl rfl (wanted_plain rfl _) (rn_ext rfl (he5.op rfl) rfl w3) ?_
  intro a6 he6
  clear he5 a5
  refine lV (Value.int .i64 (packE l)) he6 rfl rfl (wanted_plain rfl _) (rn_ext rfl (he6.op rfl) rfl w3) ?_
  intro a7 he7
  clear he6 a6
  refine lV (Value.slice Ax (packO l).length cx) he7 rfl rfl (wanted_plain rfl _) (rn_asg rfl (he7.op rfl) w3) ?_
  intro a8 he8
  clear he7 a7
  refine lV (Value.int .i64 (packE l)) he8 rfl rfl (wanted_plain rfl _) (rn_asg rfl (he8.op rfl) w3) ?_
  intro a9 he9
  clear he8 a8
  refine wpList_nil ?_
  refine then_ok ?_
  cases e with
  | false =>
    have hb2 : b = false := by simpa using hb.symm
    subst hb2
    refine wp_seq ?_
    refine wp_region_lit ?_
    refine lV (Value.slice Ax (packO l).length cx) he9 rfl rfl (wanted_plain rfl _) (rn_mv rfl (he9.op rfl) w3) ?_
    intro a10 he10
    clear he9 a9
    refine lV (Value.slice Aq q cq) he10 rfl rfl (wanted_plain rfl _) (rn_mv rfl (he10.op rfl) w3) ?_
    intro a11 he11
    clear he10 a10
    refine lC he11 rfl rfl Tryd.func24 (by kernel_rfl) rfl rfl (wanted_plain rfl _) rfl (SameR_b (packO l) want false he _ q bx bq cx cq Ax Aq w3 hx (hq.new hH3.new) (by have h1 := pack_le l; have h2 := hl.1; have h3 : (packO l).length ≤ (packL l).length := (by unfold packO; split <;> simp); omega) hql) ?_
    intro w12 a13 hn he13
    have hH12 := hH3.call hn
    replace hx := hx.new hn
    clear he11 a11 hH3 hn
    refine lV (Value.bool false) he13 rfl rfl (wanted_plain rfl _) (rn_mv rfl (he13.op rfl) w12) ?_
    intro a14 he14
    clear he13 a13
    refine lSkip he14 rfl rfl (he14.wantNot rfl rfl rfl rfl rfl rfl) ?_
    intro a15 he15
    clear he14 a14
    refine lSkip he15 rfl rfl (he15.wantNot rfl rfl rfl rfl rfl rfl) ?_
    intro a16 he16
    clear he15 a15
    refine lSkip he16 rfl rfl (he16.wantNot rfl rfl rfl rfl rfl rfl) ?_
    intro a17 he17
    clear he16 a16
    refine lV (Value.bool false) he17 rfl rfl (wanted_plain rfl _) (rn_pk0 rfl (he17.op rfl) (he17.op rfl) w12) ?_
    intro a18 he18
    clear he17 a17
    refine lV (Value.bool false) he18 rfl rfl (wanted_plain rfl _) (rn_asg rfl (he18.op rfl) w12) ?_
    intro a19 he19
    clear he18 a18
    refine wpList_nil ?_
    refine then_ok ?_
    refine wp_ret ?_
    try simp only [Exit.then, Exit.inBlock]
    exact ret_env rfl he19 rfl ⟨rfl, hH12.new⟩
  | true =>
    have hb2 : (packE l == no) = b := by simpa using hb
    refine wp_seq ?_
    refine wp_region_lit ?_
    refine lV (Value.slice Ax (packO l).length cx) he9 rfl rfl (wanted_plain rfl _) (rn_mv rfl (he9.op rfl) w3) ?_
    intro a20 he20
    clear he9 a9
    refine lV (Value.slice Aq q cq) he20 rfl rfl (wanted_plain rfl _) (rn_mv rfl (he20.op rfl) w3) ?_
    intro a21 he21
    clear he20 a20
    refine lC he21 rfl rfl Tryd.func24 (by kernel_rfl) rfl rfl (wanted_plain rfl _) rfl (SameR_b (packO l) want true he _ q bx bq cx cq Ax Aq w3 hx (hq.new hH3.new) (by have h1 := pack_le l; have h2 := hl.1; have h3 : (packO l).length ≤ (packL l).length := (by unfold packO; split <;> simp); omega) hql) ?_
    intro w22 a23 hn he23
    have hH22 := hH3.call hn
    replace hx := hx.new hn
    clear he21 a21 hH3 hn
    refine lV (Value.bool true) he23 rfl rfl (wanted_plain rfl _) (rn_mv rfl (he23.op rfl) w22) ?_
    intro a24 he24
    clear he23 a23
    refine lV (Value.int .i64 (packE l)) he24 rfl rfl (he24.want rfl rfl rfl rfl rfl) (rn_mv rfl (he24.op rfl) w22) ?_
    intro a25 he25
    clear he24 a24
    refine lV (Value.int .i64 no) he25 rfl rfl (he25.want rfl rfl rfl rfl rfl) (rn_mv rfl (he25.op rfl) w22) ?_
    intro a26 he26
    clear he25 a25
    refine lV (Value.bool b) he26 rfl rfl (he26.want rfl rfl rfl rfl rfl) (rn_eqE rfl (he26.op rfl) (he26.op rfl) hb2 w22) ?_
    intro a27 he27
    clear he26 a26
    refine lV (Value.bool b) he27 rfl rfl (wanted_plain rfl _) (rn_pk rfl (he27.op rfl) (he27.op rfl) w22) ?_
    intro a28 he28
    clear he27 a27
    refine lV (Value.bool b) he28 rfl rfl (wanted_plain rfl _) (rn_asg rfl (he28.op rfl) w22) ?_
    intro a29 he29
    clear he28 a28
    refine wpList_nil ?_
    refine then_ok ?_
    refine wp_ret ?_
    try simp only [Exit.then, Exit.inBlock]
    exact ret_env rfl he29 rfl ⟨rfl, hH22.new⟩

set_option linter.unusedSimpArgs false in
set_option maxRecDepth 100000 in
set_option maxHeartbeats 1600000 in
theorem unpacks_b (l : List Rn) (n bl cl : Nat) (A : Option Addr) (no : Int) (want : List Ce) (q bq cq : Nat) (Aq : Option Addr) (b : Bool) (hb : (decide (cellsO l = want) && (cellsE l == no)) = b) (w : World) (hl : RdR w bl A n l) (hok : ∀ r ∈ l, r.Ok) (hn : n ≤ 1000000) (hq : RdC w bq Aq q want) (hql : q ≤ 1000000) (hT : Tab w) :
    Calls Tryd.prog 22 #[.slice A n cl, .int .i64 no, .slice Aq q cq] w fun e w' => e = .returned (.bool b) ∧ New w w' := by
  obtain ⟨e, he⟩ : ∃ e, decide (cellsO l = want) = e := ⟨_, rfl⟩
  rw [he] at hb
  refine calls_args (vl := [Value.slice A n cl, Value.int .i64 no, Value.slice Aq q cq]) 22 Tryd.func22 rfl Tryd.ntmps22 (by kernel_rfl) (fun a he => ?_)
  have he0 : Env 22 [(0, Value.slice A n cl), (1, Value.int .i64 no), (2, Value.slice Aq q cq)] a := he
  clear he
  have hH := Hp.start w
  refine wp_seq ?_
  refine wp_region_lit ?_
  refine lV (Value.bool false) he0 rfl rfl (wanted_plain rfl _) (rn_asg rfl (he0.op rfl) w) ?_
  intro a1 he1
  clear he0 a
  refine wpList_nil ?_
  refine then_ok ?_
  refine wp_seq ?_
  refine wp_region_lit ?_
  refine lV (Value.slice A n cl) he1 rfl rfl (wanted_plain rfl _) (rn_mv rfl (he1.op rfl) w) ?_
  intro a2 he2
  clear he1 a1
  refine lCx he2 rfl rfl Tryd.func36 (by kernel_rfl) rfl rfl (wanted_plain rfl _) rfl (Unpack_any l n bl cl A w (hl.new hH.new) hok hn (hT.new hH.new)) ?_
  rintro _ w3 ⟨⟨Ax, cx, bx, rfl, hx⟩, hn⟩
  refine ⟨_, rfl, ?_⟩
  intro a4 he4
  have hH3 := hH.call hn
  clear he2 a2 hH
  clear hn
  replace he4 : Env 22 [(11, Value.tuple #[Value.slice Ax (cellsO l).length cx, Value.int .i64 (cellsE l)]), (10, Value.slice A n cl), (6, Value.bool false), (0, Value.slice A n cl), (1, Value.int .i64 no), (2, Value.slice Aq q cq)] a4 := he4
  refine lV (Value.tuple #[Value.slice Ax (cellsO l).length cx, Value.int .i64 (cellsE l)]) he4 rfl rfl (wanted_plain rfl _) (rn_mv rfl (he4.op rfl) w3) ?_
  intro a5 he5
  clear he4 a4
  refine lV (Value.slice Ax (cellsO l).length cx) he5 rfl rfl (wanted_plain rfl _) (rn_ext rfl (he5.op rfl) rfl w3) ?_
  intro a6 he6
  clear he5 a5
  refine lV (Value.int .i64 (cellsE l)) he6 rfl rfl (wanted_plain rfl _) (rn_ext rfl (he6.op rfl) rfl w3) ?_
  intro a7 he7
  clear he6 a6
  refine lV (Value.slice Ax (cellsO l).length cx) he7 rfl rfl (wanted_plain rfl _) (rn_asg rfl (he7.op rfl) w3) ?_
  intro a8 he8
  clear he7 a7
  refine lV (Value.int .i64 (cellsE l)) he8 rfl rfl (wanted_plain rfl _) (rn_asg rfl (he8.op rfl) w3) ?_
  intro a9 he9
  clear he8 a8
  refine wpList_nil ?_
  refine then_ok ?_
  cases e with
  | false =>
    have hb2 : b = false := by simpa using hb.symm
    subst hb2
    refine wp_seq ?_
    refine wp_region_lit ?_
    refine lV (Value.slice Ax (cellsO l).length cx) he9 rfl rfl (wanted_plain rfl _) (rn_mv rfl (he9.op rfl) w3) ?_
    intro a10 he10
    clear he9 a9
    refine lV (Value.slice Aq q cq) he10 rfl rfl (wanted_plain rfl _) (rn_mv rfl (he10.op rfl) w3) ?_
    intro a11 he11
    clear he10 a10
    refine lC he11 rfl rfl Tryd.func17 (by kernel_rfl) rfl rfl (wanted_plain rfl _) rfl (SameC_b (cellsO l) want false he _ q bx bq cx cq Ax Aq w3 hx (hq.new hH3.new) (by have := cellsO_le l; omega) hql) ?_
    intro w12 a13 hn he13
    have hH12 := hH3.call hn
    replace hx := hx.new hn
    clear he11 a11 hH3 hn
    refine lV (Value.bool false) he13 rfl rfl (wanted_plain rfl _) (rn_mv rfl (he13.op rfl) w12) ?_
    intro a14 he14
    clear he13 a13
    refine lSkip he14 rfl rfl (he14.wantNot rfl rfl rfl rfl rfl rfl) ?_
    intro a15 he15
    clear he14 a14
    refine lSkip he15 rfl rfl (he15.wantNot rfl rfl rfl rfl rfl rfl) ?_
    intro a16 he16
    clear he15 a15
    refine lSkip he16 rfl rfl (he16.wantNot rfl rfl rfl rfl rfl rfl) ?_
    intro a17 he17
    clear he16 a16
    refine lV (Value.bool false) he17 rfl rfl (wanted_plain rfl _) (rn_pk0 rfl (he17.op rfl) (he17.op rfl) w12) ?_
    intro a18 he18
    clear he17 a17
    refine lV (Value.bool false) he18 rfl rfl (wanted_plain rfl _) (rn_asg rfl (he18.op rfl) w12) ?_
    intro a19 he19
    clear he18 a18
    refine wpList_nil ?_
    refine then_ok ?_
    refine wp_ret ?_
    try simp only [Exit.then, Exit.inBlock]
    exact ret_env rfl he19 rfl ⟨rfl, hH12.new⟩
  | true =>
    have hb2 : (cellsE l == no) = b := by simpa using hb
    refine wp_seq ?_
    refine wp_region_lit ?_
    refine lV (Value.slice Ax (cellsO l).length cx) he9 rfl rfl (wanted_plain rfl _) (rn_mv rfl (he9.op rfl) w3) ?_
    intro a20 he20
    clear he9 a9
    refine lV (Value.slice Aq q cq) he20 rfl rfl (wanted_plain rfl _) (rn_mv rfl (he20.op rfl) w3) ?_
    intro a21 he21
    clear he20 a20
    refine lC he21 rfl rfl Tryd.func17 (by kernel_rfl) rfl rfl (wanted_plain rfl _) rfl (SameC_b (cellsO l) want true he _ q bx bq cx cq Ax Aq w3 hx (hq.new hH3.new) (by have := cellsO_le l; omega) hql) ?_
    intro w22 a23 hn he23
    have hH22 := hH3.call hn
    replace hx := hx.new hn
    clear he21 a21 hH3 hn
    refine lV (Value.bool true) he23 rfl rfl (wanted_plain rfl _) (rn_mv rfl (he23.op rfl) w22) ?_
    intro a24 he24
    clear he23 a23
    refine lV (Value.int .i64 (cellsE l)) he24 rfl rfl (he24.want rfl rfl rfl rfl rfl) (rn_mv rfl (he24.op rfl) w22) ?_
    intro a25 he25
    clear he24 a24
    refine lV (Value.int .i64 no) he25 rfl rfl (he25.want rfl rfl rfl rfl rfl) (rn_mv rfl (he25.op rfl) w22) ?_
    intro a26 he26
    clear he25 a25
    refine lV (Value.bool b) he26 rfl rfl (he26.want rfl rfl rfl rfl rfl) (rn_eqE rfl (he26.op rfl) (he26.op rfl) hb2 w22) ?_
    intro a27 he27
    clear he26 a26
    refine lV (Value.bool b) he27 rfl rfl (wanted_plain rfl _) (rn_pk rfl (he27.op rfl) (he27.op rfl) w22) ?_
    intro a28 he28
    clear he27 a27
    refine lV (Value.bool b) he28 rfl rfl (wanted_plain rfl _) (rn_asg rfl (he28.op rfl) w22) ?_
    intro a29 he29
    clear he28 a28
    refine wpList_nil ?_
    refine then_ok ?_
    refine wp_ret ?_
    try simp only [Exit.then, Exit.inBlock]
    exact ret_env rfl he29 rfl ⟨rfl, hH22.new⟩

set_option linter.unusedSimpArgs false in
set_option maxRecDepth 100000 in
set_option maxHeartbeats 1600000 in
theorem joins_b (l m : List Rn) (n k bl cl bm cm : Nat) (A M : Option Addr) (no : Int) (want : List Rn) (q bq cq : Nat) (Aq : Option Addr) (b : Bool) (hb : (decide (joinO l m = want) && (joinE l m == no)) = b) (w : World) (hl : RdR w bl A n l) (hm : RdR w bm M k m) (hok : ∀ r ∈ l, r.Ok) (hom : ∀ r ∈ m, r.Ok) (hn : n ≤ 200000) (hk : k ≤ 200000) (hq : RdR w bq Aq q want) (hql : q ≤ 1000000) (hT : Tab w) :
    Calls Tryd.prog 23 #[.slice A n cl, .slice M k cm, .int .i64 no, .slice Aq q cq] w fun e w' => e = .returned (.bool b) ∧ New w w' := by
  obtain ⟨e, he⟩ : ∃ e, decide (joinO l m = want) = e := ⟨_, rfl⟩
  rw [he] at hb
  refine calls_args (vl := [Value.slice A n cl, Value.slice M k cm, Value.int .i64 no, Value.slice Aq q cq]) 25 Tryd.func23 rfl Tryd.ntmps23 (by kernel_rfl) (fun a he => ?_)
  have he0 : Env 25 [(0, Value.slice A n cl), (1, Value.slice M k cm), (2, Value.int .i64 no), (3, Value.slice Aq q cq)] a := he
  clear he
  have hH := Hp.start w
  refine wp_seq ?_
  refine wp_region_lit ?_
  refine lV (Value.bool false) he0 rfl rfl (wanted_plain rfl _) (rn_asg rfl (he0.op rfl) w) ?_
  intro a1 he1
  clear he0 a
  refine wpList_nil ?_
  refine then_ok ?_
  refine wp_seq ?_
  refine wp_region_lit ?_
  refine lV (Value.slice A n cl) he1 rfl rfl (wanted_plain rfl _) (rn_mv rfl (he1.op rfl) w) ?_
  intro a2 he2
  clear he1 a1
  refine lV (Value.slice M k cm) he2 rfl rfl (wanted_plain rfl _) (rn_mv rfl (he2.op rfl) w) ?_
  intro a3 he3
  clear he2 a2
  refine lCx he3 rfl rfl Tryd.func37 (by kernel_rfl) rfl rfl (wanted_plain rfl _) rfl (Join_any l m n k bl bm cl cm A M w (hl.new hH.new) (hm.new hH.new) hok hom hn hk (hT.new hH.new)) ?_
  rintro _ w4 ⟨⟨Ax, cx, bx, rfl, hx⟩, hn⟩
  refine ⟨_, rfl, ?_⟩
  intro a5 he5
  have hH4 := hH.call hn
  clear he3 a3 hH
  clear hn
  refine lV (Value.tuple #[Value.slice Ax (joinO l m).length cx, Value.int .i64 (joinE l m)]) he5 rfl rfl (wanted_plain rfl _) (rn_mv rfl (he5.op rfl) w4) ?_
  intro a6 he6
  clear he5 a5
  refine lV (Value.slice Ax (joinO l m).length cx) he6 rfl rfl (wanted_plain rfl _) (rn_ext rfl (he6.op rfl) rfl w4) ?_
  intro a7 he7
  clear he6 a6
  refine lV (Value.int .i64 (joinE l m)) he7 rfl rfl (wanted_plain rfl _) (rn_ext rfl (he7.op rfl) rfl w4) ?_
  intro a8 he8
  clear he7 a7
  refine lV (Value.slice Ax (joinO l m).length cx) he8 rfl rfl (wanted_plain rfl _) (rn_asg rfl (he8.op rfl) w4) ?_
  intro a9 he9
  clear he8 a8
  refine lV (Value.int .i64 (joinE l m)) he9 rfl rfl (wanted_plain rfl _) (rn_asg rfl (he9.op rfl) w4) ?_
  intro a10 he10
  clear he9 a9
  refine wpList_nil ?_
  refine then_ok ?_
  cases e with
  | false =>
    have hb2 : b = false := by simpa using hb.symm
    subst hb2
    refine wp_seq ?_
    refine wp_region_lit ?_
    refine lV (Value.slice Ax (joinO l m).length cx) he10 rfl rfl (wanted_plain rfl _) (rn_mv rfl (he10.op rfl) w4) ?_
    intro a11 he11
    clear he10 a10
    refine lV (Value.slice Aq q cq) he11 rfl rfl (wanted_plain rfl _) (rn_mv rfl (he11.op rfl) w4) ?_
    intro a12 he12
    clear he11 a11
    refine lC he12 rfl rfl Tryd.func24 (by kernel_rfl) rfl rfl (wanted_plain rfl _) rfl (SameR_b (joinO l m) want false he _ q bx bq cx cq Ax Aq w4 hx (hq.new hH4.new) (by have := joinO_le l m; have := hl.1; have := hm.1; omega) hql) ?_
    intro w13 a14 hn he14
    have hH13 := hH4.call hn
    replace hx := hx.new hn
    clear he12 a12 hH4 hn
    refine lV (Value.bool false) he14 rfl rfl (wanted_plain rfl _) (rn_mv rfl (he14.op rfl) w13) ?_
    intro a15 he15
    clear he14 a14
    refine lSkip he15 rfl rfl (he15.wantNot rfl rfl rfl rfl rfl rfl) ?_
    intro a16 he16
    clear he15 a15
    refine lSkip he16 rfl rfl (he16.wantNot rfl rfl rfl rfl rfl rfl) ?_
    intro a17 he17
    clear he16 a16
    refine lSkip he17 rfl rfl (he17.wantNot rfl rfl rfl rfl rfl rfl) ?_
    intro a18 he18
    clear he17 a17
    refine lV (Value.bool false) he18 rfl rfl (wanted_plain rfl _) (rn_pk0 rfl (he18.op rfl) (he18.op rfl) w13) ?_
    intro a19 he19
    clear he18 a18
    refine lV (Value.bool false) he19 rfl rfl (wanted_plain rfl _) (rn_asg rfl (he19.op rfl) w13) ?_
    intro a20 he20
    clear he19 a19
    refine wpList_nil ?_
    refine then_ok ?_
    refine wp_ret ?_
    try simp only [Exit.then, Exit.inBlock]
    exact ret_env rfl he20 rfl ⟨rfl, hH13.new⟩
  | true =>
    have hb2 : (joinE l m == no) = b := by simpa using hb
    refine wp_seq ?_
    refine wp_region_lit ?_
    refine lV (Value.slice Ax (joinO l m).length cx) he10 rfl rfl (wanted_plain rfl _) (rn_mv rfl (he10.op rfl) w4) ?_
    intro a21 he21
    clear he10 a10
    refine lV (Value.slice Aq q cq) he21 rfl rfl (wanted_plain rfl _) (rn_mv rfl (he21.op rfl) w4) ?_
    intro a22 he22
    clear he21 a21
    refine lC he22 rfl rfl Tryd.func24 (by kernel_rfl) rfl rfl (wanted_plain rfl _) rfl (SameR_b (joinO l m) want true he _ q bx bq cx cq Ax Aq w4 hx (hq.new hH4.new) (by have := joinO_le l m; have := hl.1; have := hm.1; omega) hql) ?_
    intro w23 a24 hn he24
    have hH23 := hH4.call hn
    replace hx := hx.new hn
    clear he22 a22 hH4 hn
    refine lV (Value.bool true) he24 rfl rfl (wanted_plain rfl _) (rn_mv rfl (he24.op rfl) w23) ?_
    intro a25 he25
    clear he24 a24
    refine lV (Value.int .i64 (joinE l m)) he25 rfl rfl (he25.want rfl rfl rfl rfl rfl) (rn_mv rfl (he25.op rfl) w23) ?_
    intro a26 he26
    clear he25 a25
    refine lV (Value.int .i64 no) he26 rfl rfl (he26.want rfl rfl rfl rfl rfl) (rn_mv rfl (he26.op rfl) w23) ?_
    intro a27 he27
    clear he26 a26
    refine lV (Value.bool b) he27 rfl rfl (he27.want rfl rfl rfl rfl rfl) (rn_eqE rfl (he27.op rfl) (he27.op rfl) hb2 w23) ?_
    intro a28 he28
    clear he27 a27
    refine lV (Value.bool b) he28 rfl rfl (wanted_plain rfl _) (rn_pk rfl (he28.op rfl) (he28.op rfl) w23) ?_
    intro a29 he29
    clear he28 a28
    refine lV (Value.bool b) he29 rfl rfl (wanted_plain rfl _) (rn_asg rfl (he29.op rfl) w23) ?_
    intro a30 he30
    clear he29 a29
    refine wpList_nil ?_
    refine then_ok ?_
    refine wp_ret ?_
    try simp only [Exit.then, Exit.inBlock]
    exact ret_env rfl he30 rfl ⟨rfl, hH23.new⟩

set_option linter.unusedSimpArgs false in
set_option maxRecDepth 100000 in
set_option maxHeartbeats 1600000 in
theorem run_any (n : Int) (x : Wd) (w : World) : Calls Tryd.prog 31 #[.int .i64 n, x.v] w fun e w' => e = .returned (Rn.v ⟨n, x⟩) ∧ New w w' := by
  refine calls_args (vl := [Value.int .i64 n, Wd.v x]) 8 Tryd.func31 rfl Tryd.ntmps31 (by kernel_rfl) (fun a he => ?_)
  have he0 : Env 8 [(0, Value.int .i64 n), (1, Wd.v x)] a := he
  clear he
  have hH := Hp.start w
  refine wp_seq ?_
  refine wp_region_lit ?_
  refine lNew (fun p => .pointer (some ⟨p, 0, none⟩)) he0 hH rfl rfl (wanted_plain rfl _) (rn_boxW rfl (he0.op rfl) w) ?_
  intro p1 w1 a2 hn hH1 he2
  clear he0 a hH hn
  refine lNew (fun p => .pointer (some ⟨p, 0, none⟩)) he2 hH1 rfl rfl (wanted_plain rfl _) (rn_allocR rfl w1) ?_
  intro p3 w3 a4 hn hH3 he4
  clear he2 a2 hH1 hn
  refine wpList_nil ?_
  refine then_ok ?_
  refine wp_seq ?_
  refine wp_region_lit ?_
  refine lV (Value.int .i64 n) he4 rfl rfl (wanted_plain rfl _) (rn_mv rfl (he4.op rfl) w3) ?_
  intro a5 he5
  clear he4 a4
  refine lV (Wd.v x) he5 rfl rfl (wanted_plain rfl _) (rn_loadW rfl (he5.op rfl) (hH3.at (i := 1) rfl)) ?_
  intro a6 he6
  clear he5 a5
  refine lV (Rn.v ⟨n, x⟩) he6 rfl rfl (wanted_plain rfl _) (rn_bR rfl (he6.op rfl) (he6.op rfl) w3) ?_
  intro a7 he7
  clear he6 a6
  refine lSetV 0 (Rn.cs ⟨n, x⟩) (cs := (Rn.cs ⟨n, x⟩)) he7 hH3 rfl (wanted_plain rfl _) rfl rfl rfl rfl rfl (by kernel_rfl) (by kernel_rfl) (by kernel_rfl) rfl ?_
  intro w8 a9 hH8 he9
  replace hH8 : Hp w [⟨p3, 67, (Rn.cs ⟨n, x⟩)⟩, ⟨p1, 34, (Wd.cs x)⟩] w8 := hH8
  clear he7 a7 hH3
  refine wpList_nil ?_
  refine then_ok ?_
  refine wp_ret ?_
  try simp only [Exit.then, Exit.inBlock]
  exact ret_row rfl he9 rfl (hH8.at (i := 0) rfl) undR rfl infoR4 ⟨rfl, hH8.new⟩

set_option linter.unusedSimpArgs false in
set_option maxRecDepth 100000 in
set_option maxHeartbeats 1600000 in
theorem runs_any (v : Value) (w : World) : Calls Tryd.prog 30 #[v] w fun e w' => e = .returned v ∧ New w w' := by
  refine calls_args (vl := [v]) 4 Tryd.func30 rfl Tryd.ntmps30 (by kernel_rfl) (fun a he => ?_)
  have he0 : Env 4 [(0, v)] a := he
  clear he
  have hH := Hp.start w
  refine wp_seq ?_
  refine wp_region_lit ?_
  refine lV (Value.slice none 0 0) he0 rfl rfl (wanted_plain rfl _) (rn_asg rfl (he0.op rfl) w) ?_
  intro a1 he1
  clear he0 a
  refine wpList_nil ?_
  refine then_ok ?_
  refine wp_seq ?_
  refine wp_region_lit ?_
  refine lV (v) he1 rfl rfl (wanted_plain rfl _) (rn_mv rfl (he1.op rfl) w) ?_
  intro a2 he2
  clear he1 a1
  refine lV (v) he2 rfl rfl (wanted_plain rfl _) (rn_asg rfl (he2.op rfl) w) ?_
  intro a3 he3
  clear he2 a2
  refine wpList_nil ?_
  refine then_ok ?_
  refine wp_ret ?_
  try simp only [Exit.then, Exit.inBlock]
  exact ret_env rfl he3 rfl ⟨rfl, hH.new⟩

set_option linter.unusedSimpArgs false in
set_option maxRecDepth 100000 in
set_option maxHeartbeats 1600000 in
theorem few_any (l : List Rn) (n b cap : Nat) (A : Option Addr) (w : World) (hr : RdR w b A n l) : Calls Tryd.prog 18 #[.slice A n cap] w fun e w' => (∃ z : Bool, e = .returned (.bool z) ∧ (z = true → n ≤ 10)) ∧ New w w' := by
  have hl := hr.1
  refine calls_args (vl := [Value.slice A n cap]) 31 Tryd.func18 rfl Tryd.ntmps18 (by kernel_rfl) (fun a he => ?_)
  have he0 : Env 31 [(0, Value.slice A n cap)] a := he
  clear he
  have hH := Hp.start w
  refine wp_seq ?_
  refine wp_region_lit ?_
  refine lV (Value.bool false) he0 rfl rfl (wanted_plain rfl _) (rn_asg rfl (he0.op rfl) w) ?_
  intro a1 he1
  clear he0 a
  refine wpList_nil ?_
  refine then_ok ?_
  refine wp_seq ?_
  refine wp_seq ?_
  refine wp_region_lit ?_
  refine lV (Value.int .i64 0) he1 rfl rfl (wanted_plain rfl _) (rn_asg rfl (he1.op rfl) w) ?_
  intro a2 he2
  clear he1 a1
  refine wpList_nil ?_
  refine then_ok ?_
  refine wp_block ?_
  refine loop_nat (fun q a w' => ∃ (k : Nat), q = 11 - k ∧ k ≤ 11 ∧ Env 31 [(0, Value.slice A n cap), (3, Value.int .i64 (k : Int))] a ∧ Hp w [] w') 11 ⟨0, by omega, by omega, he2.mem ⟨rfl, rfl, trivial⟩, hH⟩ ?_
  clear he2 hH
  rintro q a3 w3 ⟨k, rfl, hk, he3, hH3⟩
  as_aux_lemma =>
    by_cases hkn : k < n
    · skip
      by_cases hk1 : k < 11
      · skip
        refine wp_seq ?_
        refine wp_seq ?_
        refine wp_region_lit ?_
        refine lV (Value.int .i64 (k : Int)) he3 rfl rfl (wanted_plain rfl _) (rn_mv rfl (he3.op rfl) w3) ?_
        intro a4 he4
        clear he3 a3
        refine lV (Value.slice A n cap) he4 rfl rfl (wanted_plain rfl _) (rn_mv rfl (he4.op rfl) w3) ?_
        intro a5 he5
        clear he4 a4
        refine lV (Value.int .i64 (n : Nat)) he5 rfl rfl (wanted_plain rfl _) (rn_lenR rfl (he5.op rfl) w3) ?_
        intro a6 he6
        clear he5 a5
        refine lV (Value.bool true) he6 rfl rfl (wanted_plain rfl _) (rn_lss rfl (he6.op rfl) (he6.op rfl) (decide_eq_true (by omega)) w3) ?_
        intro a7 he7
        clear he6 a6
        refine lV (Value.bool true) he7 rfl rfl (wanted_plain rfl _) (rn_mv rfl (he7.op rfl) w3) ?_
        intro a8 he8
        clear he7 a7
        refine lV (Value.int .i64 (k : Int)) he8 rfl rfl (he8.want rfl rfl rfl rfl rfl) (rn_mv rfl (he8.op rfl) w3) ?_
        intro a9 he9
        clear he8 a8
        refine lV (Value.bool true) he9 rfl rfl (he9.want rfl rfl rfl rfl rfl) (rn_lss rfl (he9.op rfl) (he9.op rfl) (decide_eq_true (by omega)) w3) ?_
        intro a10 he10
        clear he9 a9
        refine lV (Value.bool true) he10 rfl rfl (wanted_plain rfl _) (rn_pk rfl (he10.op rfl) (he10.op rfl) w3) ?_
        intro a11 he11
        clear he10 a10
        refine wpList_nil ?_
        refine then_ok ?_
        refine wp_cond_true (he11.op rfl) ?_
        refine wp_skip ?_
        refine then_ok ?_
        obtain ⟨o0, rfl⟩ := hr.base (by omega)
        obtain ⟨c, hc⟩ : ∃ c, l[k]? = some c := ⟨_, List.getElem?_eq_getElem (by have := hr.1; omega)⟩
        refine wp_seq ?_
        refine wp_block ?_
        by_cases h60 : 60 < c.n
        · skip
          by_cases h99 : c.n < 99990
          · skip
            refine wp_seq ?_
            refine wp_region_lit ?_
            refine lV (Value.slice (some ⟨b, o0, none⟩) n cap) he11 rfl rfl (wanted_plain rfl _) (rn_mv rfl (he11.op rfl) w3) ?_
            intro a12 he12
            clear he11 a11
            refine lV (Value.int .i64 (k : Int)) he12 rfl rfl (wanted_plain rfl _) (rn_mv rfl (he12.op rfl) w3) ?_
            intro a13 he13
            clear he12 a12
            refine lV (Value.pointer (some ⟨b, o0 + k * 4, none⟩)) he13 rfl rfl (wanted_plain rfl _) (rn_idxR (i := k) rfl (he13.op rfl) (he13.op rfl) hkn (by rw [addr_add]) w3) ?_
            intro a14 he14
            clear he13 a13
            refine lV (Value.pointer (some ⟨b, o0 + k * 4 + 0, none⟩)) he14 rfl rfl (wanted_plain rfl _) (rn_faR0 rfl (he14.op rfl) rfl w3) ?_
            intro a15 he15
            clear he14 a14
            refine lV (Value.int .i64 c.n) he15 rfl rfl (wanted_plain rfl _) (rn_sRn (i := k) rfl (he15.op rfl) (hr.new hH3.new) rfl hc) ?_
            intro a16 he16
            clear he15 a15
            refine lV (Value.bool true) he16 rfl rfl (wanted_plain rfl _) (rn_gtr rfl (he16.op rfl) (he16.op rfl) (decide_eq_true (by omega)) w3) ?_
            intro a17 he17
            clear he16 a16
            refine lV (Value.bool true) he17 rfl rfl (wanted_plain rfl _) (rn_mv rfl (he17.op rfl) w3) ?_
            intro a18 he18
            clear he17 a17
            refine lV (Value.slice (some ⟨b, o0, none⟩) n cap) he18 rfl rfl (he18.want rfl rfl rfl rfl rfl) (rn_mv rfl (he18.op rfl) w3) ?_
            intro a19 he19
            clear he18 a18
            refine lV (Value.int .i64 (k : Int)) he19 rfl rfl (he19.want rfl rfl rfl rfl rfl) (rn_mv rfl (he19.op rfl) w3) ?_
            intro a20 he20
            clear he19 a19
            refine lV (Value.pointer (some ⟨b, o0 + k * 4, none⟩)) he20 rfl rfl (he20.want rfl rfl rfl rfl rfl) (rn_idxR (i := k) rfl (he20.op rfl) (he20.op rfl) hkn (by rw [addr_add]) w3) ?_
            intro a21 he21
            clear he20 a20
            refine lV (Value.pointer (some ⟨b, o0 + k * 4 + 0, none⟩)) he21 rfl rfl (he21.want rfl rfl rfl rfl rfl) (rn_faR0 rfl (he21.op rfl) rfl w3) ?_
            intro a22 he22
            clear he21 a21
            refine lV (Value.int .i64 c.n) he22 rfl rfl (he22.want rfl rfl rfl rfl rfl) (rn_sRn (i := k) rfl (he22.op rfl) (hr.new hH3.new) rfl hc) ?_
            intro a23 he23
            clear he22 a22
            refine lV (Value.bool true) he23 rfl rfl (he23.want rfl rfl rfl rfl rfl) (rn_lss rfl (he23.op rfl) (he23.op rfl) (decide_eq_true (by omega)) w3) ?_
            intro a24 he24
            clear he23 a23
            refine lV (Value.bool true) he24 rfl rfl (wanted_plain rfl _) (rn_pk rfl (he24.op rfl) (he24.op rfl) w3) ?_
            intro a25 he25
            clear he24 a24
            refine wpList_nil ?_
            refine then_ok ?_
            refine wp_cond_true (he25.op rfl) ?_
            refine wp_seq ?_
            refine wp_region_lit ?_
            refine lV (Value.bool false) he25 rfl rfl (wanted_plain rfl _) (rn_asg rfl (he25.op rfl) w3) ?_
            intro a26 he26
            clear he25 a25
            refine wpList_nil ?_
            refine then_ok ?_
            refine wp_ret ?_
            try simp only [Exit.then, Exit.inBlock]
            exact ret_env rfl he26 rfl ⟨⟨false, rfl, fun e => by cases e⟩, hH3.new⟩
          · skip
            refine wp_seq ?_
            refine wp_region_lit ?_
            refine lV (Value.slice (some ⟨b, o0, none⟩) n cap) he11 rfl rfl (wanted_plain rfl _) (rn_mv rfl (he11.op rfl) w3) ?_
            intro a27 he27
            clear he11 a11
            refine lV (Value.int .i64 (k : Int)) he27 rfl rfl (wanted_plain rfl _) (rn_mv rfl (he27.op rfl) w3) ?_
            intro a28 he28
            clear he27 a27
            refine lV (Value.pointer (some ⟨b, o0 + k * 4, none⟩)) he28 rfl rfl (wanted_plain rfl _) (rn_idxR (i := k) rfl (he28.op rfl) (he28.op rfl) hkn (by rw [addr_add]) w3) ?_
            intro a29 he29
            clear he28 a28
            refine lV (Value.pointer (some ⟨b, o0 + k * 4 + 0, none⟩)) he29 rfl rfl (wanted_plain rfl _) (rn_faR0 rfl (he29.op rfl) rfl w3) ?_
            intro a30 he30
            clear he29 a29
            refine lV (Value.int .i64 c.n) he30 rfl rfl (wanted_plain rfl _) (rn_sRn (i := k) rfl (he30.op rfl) (hr.new hH3.new) rfl hc) ?_
            intro a31 he31
            clear he30 a30
            refine lV (Value.bool true) he31 rfl rfl (wanted_plain rfl _) (rn_gtr rfl (he31.op rfl) (he31.op rfl) (decide_eq_true (by omega)) w3) ?_
            intro a32 he32
            clear he31 a31
            refine lV (Value.bool true) he32 rfl rfl (wanted_plain rfl _) (rn_mv rfl (he32.op rfl) w3) ?_
            intro a33 he33
            clear he32 a32
            refine lV (Value.slice (some ⟨b, o0, none⟩) n cap) he33 rfl rfl (he33.want rfl rfl rfl rfl rfl) (rn_mv rfl (he33.op rfl) w3) ?_
            intro a34 he34
            clear he33 a33
            refine lV (Value.int .i64 (k : Int)) he34 rfl rfl (he34.want rfl rfl rfl rfl rfl) (rn_mv rfl (he34.op rfl) w3) ?_
            intro a35 he35
            clear he34 a34
            refine lV (Value.pointer (some ⟨b, o0 + k * 4, none⟩)) he35 rfl rfl (he35.want rfl rfl rfl rfl rfl) (rn_idxR (i := k) rfl (he35.op rfl) (he35.op rfl) hkn (by rw [addr_add]) w3) ?_
            intro a36 he36
            clear he35 a35
            refine lV (Value.pointer (some ⟨b, o0 + k * 4 + 0, none⟩)) he36 rfl rfl (he36.want rfl rfl rfl rfl rfl) (rn_faR0 rfl (he36.op rfl) rfl w3) ?_
            intro a37 he37
            clear he36 a36
            refine lV (Value.int .i64 c.n) he37 rfl rfl (he37.want rfl rfl rfl rfl rfl) (rn_sRn (i := k) rfl (he37.op rfl) (hr.new hH3.new) rfl hc) ?_
            intro a38 he38
            clear he37 a37
            refine lV (Value.bool false) he38 rfl rfl (he38.want rfl rfl rfl rfl rfl) (rn_lss rfl (he38.op rfl) (he38.op rfl) (decide_eq_false (by omega)) w3) ?_
            intro a39 he39
            clear he38 a38
            refine lV (Value.bool false) he39 rfl rfl (wanted_plain rfl _) (rn_pk rfl (he39.op rfl) (he39.op rfl) w3) ?_
            intro a40 he40
            clear he39 a39
            refine wpList_nil ?_
            refine then_ok ?_
            refine wp_cond_false (he40.op rfl) ?_
            refine wp_skip ?_
            refine block_ok ?_
            refine then_ok ?_
            refine wp_region_lit ?_
            refine lV (Value.int .i64 (k : Int)) he40 rfl rfl (wanted_plain rfl _) (rn_mv rfl (he40.op rfl) w3) ?_
            intro a41 he41
            clear he40 a40
            refine lV (Value.int .i64 ((k + 1 : Nat) : Int)) he41 rfl rfl (wanted_plain rfl _) (rn_add1 rfl (he41.op rfl) (he41.op rfl) (by rw [IntWalk.i64_in _ ⟨by omega, by omega⟩]; rfl) w3) ?_
            intro a42 he42
            clear he41 a41
            refine lV (Value.int .i64 ((k + 1 : Nat) : Int)) he42 rfl rfl (wanted_plain rfl _) (rn_asg rfl (he42.op rfl) w3) ?_
            intro a43 he43
            clear he42 a42
            refine wpList_nil ?_
            refine then_ok ?_
            exact ⟨11 - (k + 1), by omega, k + 1, rfl, by omega, he43.mem ⟨rfl, rfl, trivial⟩, hH3⟩
        · skip
          refine wp_seq ?_
          refine wp_region_lit ?_
          refine lV (Value.slice (some ⟨b, o0, none⟩) n cap) he11 rfl rfl (wanted_plain rfl _) (rn_mv rfl (he11.op rfl) w3) ?_
          intro a44 he44
          clear he11 a11
          refine lV (Value.int .i64 (k : Int)) he44 rfl rfl (wanted_plain rfl _) (rn_mv rfl (he44.op rfl) w3) ?_
          intro a45 he45
          clear he44 a44
          refine lV (Value.pointer (some ⟨b, o0 + k * 4, none⟩)) he45 rfl rfl (wanted_plain rfl _) (rn_idxR (i := k) rfl (he45.op rfl) (he45.op rfl) hkn (by rw [addr_add]) w3) ?_
          intro a46 he46
          clear he45 a45
          refine lV (Value.pointer (some ⟨b, o0 + k * 4 + 0, none⟩)) he46 rfl rfl (wanted_plain rfl _) (rn_faR0 rfl (he46.op rfl) rfl w3) ?_
          intro a47 he47
          clear he46 a46
          refine lV (Value.int .i64 c.n) he47 rfl rfl (wanted_plain rfl _) (rn_sRn (i := k) rfl (he47.op rfl) (hr.new hH3.new) rfl hc) ?_
          intro a48 he48
          clear he47 a47
          refine lV (Value.bool false) he48 rfl rfl (wanted_plain rfl _) (rn_gtr rfl (he48.op rfl) (he48.op rfl) (decide_eq_false (by omega)) w3) ?_
          intro a49 he49
          clear he48 a48
          refine lV (Value.bool false) he49 rfl rfl (wanted_plain rfl _) (rn_mv rfl (he49.op rfl) w3) ?_
          intro a50 he50
          clear he49 a49
          refine lSkip he50 rfl rfl (he50.wantNot rfl rfl rfl rfl rfl rfl) ?_
          intro a51 he51
          clear he50 a50
          refine lSkip he51 rfl rfl (he51.wantNot rfl rfl rfl rfl rfl rfl) ?_
          intro a52 he52
          clear he51 a51
          refine lSkip he52 rfl rfl (he52.wantNot rfl rfl rfl rfl rfl rfl) ?_
          intro a53 he53
          clear he52 a52
          refine lSkip he53 rfl rfl (he53.wantNot rfl rfl rfl rfl rfl rfl) ?_
          intro a54 he54
          clear he53 a53
          refine lSkip he54 rfl rfl (he54.wantNot rfl rfl rfl rfl rfl rfl) ?_
          intro a55 he55
          clear he54 a54
          refine lSkip he55 rfl rfl (he55.wantNot rfl rfl rfl rfl rfl rfl) ?_
          intro a56 he56
          clear he55 a55
          refine lV (Value.bool false) he56 rfl rfl (wanted_plain rfl _) (rn_pk0 rfl (he56.op rfl) (he56.op rfl) w3) ?_
          intro a57 he57
          clear he56 a56
          refine wpList_nil ?_
          refine then_ok ?_
          refine wp_cond_false (he57.op rfl) ?_
          refine wp_skip ?_
          refine block_ok ?_
          refine then_ok ?_
          refine wp_region_lit ?_
          refine lV (Value.int .i64 (k : Int)) he57 rfl rfl (wanted_plain rfl _) (rn_mv rfl (he57.op rfl) w3) ?_
          intro a58 he58
          clear he57 a57
          refine lV (Value.int .i64 ((k + 1 : Nat) : Int)) he58 rfl rfl (wanted_plain rfl _) (rn_add1 rfl (he58.op rfl) (he58.op rfl) (by rw [IntWalk.i64_in _ ⟨by omega, by omega⟩]; rfl) w3) ?_
          intro a59 he59
          clear he58 a58
          refine lV (Value.int .i64 ((k + 1 : Nat) : Int)) he59 rfl rfl (wanted_plain rfl _) (rn_asg rfl (he59.op rfl) w3) ?_
          intro a60 he60
          clear he59 a59
          refine wpList_nil ?_
          refine then_ok ?_
          exact ⟨11 - (k + 1), by omega, k + 1, rfl, by omega, he60.mem ⟨rfl, rfl, trivial⟩, hH3⟩
      · skip
        refine wp_seq ?_
        refine wp_seq ?_
        refine wp_region_lit ?_
        refine lV (Value.int .i64 (k : Int)) he3 rfl rfl (wanted_plain rfl _) (rn_mv rfl (he3.op rfl) w3) ?_
        intro a61 he61
        clear he3 a3
        refine lV (Value.slice A n cap) he61 rfl rfl (wanted_plain rfl _) (rn_mv rfl (he61.op rfl) w3) ?_
        intro a62 he62
        clear he61 a61
        refine lV (Value.int .i64 (n : Nat)) he62 rfl rfl (wanted_plain rfl _) (rn_lenR rfl (he62.op rfl) w3) ?_
        intro a63 he63
        clear he62 a62
        refine lV (Value.bool true) he63 rfl rfl (wanted_plain rfl _) (rn_lss rfl (he63.op rfl) (he63.op rfl) (decide_eq_true (by omega)) w3) ?_
        intro a64 he64
        clear he63 a63
        refine lV (Value.bool true) he64 rfl rfl (wanted_plain rfl _) (rn_mv rfl (he64.op rfl) w3) ?_
        intro a65 he65
        clear he64 a64
        refine lV (Value.int .i64 (k : Int)) he65 rfl rfl (he65.want rfl rfl rfl rfl rfl) (rn_mv rfl (he65.op rfl) w3) ?_
        intro a66 he66
        clear he65 a65
        refine lV (Value.bool false) he66 rfl rfl (he66.want rfl rfl rfl rfl rfl) (rn_lss rfl (he66.op rfl) (he66.op rfl) (decide_eq_false (by omega)) w3) ?_
        intro a67 he67
        clear he66 a66
        refine lV (Value.bool false) he67 rfl rfl (wanted_plain rfl _) (rn_pk rfl (he67.op rfl) (he67.op rfl) w3) ?_
        intro a68 he68
        clear he67 a67
        refine wpList_nil ?_
        refine then_ok ?_
        refine wp_cond_false (he68.op rfl) ?_
        refine wp_exit ?_
        simp only [Exit.then, Exit.inBlock, if_true]
        obtain ⟨z, hz⟩ : ∃ z, decide ((n : Int) ≤ 10) = z := ⟨_, rfl⟩
        refine wp_seq ?_
        refine wp_region_lit ?_
        refine lV (Value.slice A n cap) he68 rfl rfl (wanted_plain rfl _) (rn_mv rfl (he68.op rfl) w3) ?_
        intro a69 he69
        clear he68 a68
        refine lV (Value.int .i64 (n : Nat)) he69 rfl rfl (wanted_plain rfl _) (rn_lenR rfl (he69.op rfl) w3) ?_
        intro a70 he70
        clear he69 a69
        refine lV (Value.bool z) he70 rfl rfl (wanted_plain rfl _) (rn_leq rfl (he70.op rfl) (he70.op rfl) hz w3) ?_
        intro a71 he71
        clear he70 a70
        refine lV (Value.bool z) he71 rfl rfl (wanted_plain rfl _) (rn_asg rfl (he71.op rfl) w3) ?_
        intro a72 he72
        clear he71 a71
        refine wpList_nil ?_
        refine then_ok ?_
        refine wp_ret ?_
        try simp only [Exit.then, Exit.inBlock]
        exact ret_env rfl he72 rfl ⟨⟨z, rfl, fun e => by rw [e] at hz; have := of_decide_eq_true hz; omega⟩, hH3.new⟩
    · skip
      refine wp_seq ?_
      refine wp_seq ?_
      refine wp_region_lit ?_
      refine lV (Value.int .i64 (k : Int)) he3 rfl rfl (wanted_plain rfl _) (rn_mv rfl (he3.op rfl) w3) ?_
      intro a73 he73
      clear he3 a3
      refine lV (Value.slice A n cap) he73 rfl rfl (wanted_plain rfl _) (rn_mv rfl (he73.op rfl) w3) ?_
      intro a74 he74
      clear he73 a73
      refine lV (Value.int .i64 (n : Nat)) he74 rfl rfl (wanted_plain rfl _) (rn_lenR rfl (he74.op rfl) w3) ?_
      intro a75 he75
      clear he74 a74
      refine lV (Value.bool false) he75 rfl rfl (wanted_plain rfl _) (rn_lss rfl (he75.op rfl) (he75.op rfl) (decide_eq_false (by omega)) w3) ?_
      intro a76 he76
      clear he75 a75
      refine lV (Value.bool false) he76 rfl rfl (wanted_plain rfl _) (rn_mv rfl (he76.op rfl) w3) ?_
      intro a77 he77
      clear he76 a76
      refine lSkip he77 rfl rfl (he77.wantNot rfl rfl rfl rfl rfl rfl) ?_
      intro a78 he78
      clear he77 a77
      refine lSkip he78 rfl rfl (he78.wantNot rfl rfl rfl rfl rfl rfl) ?_
      intro a79 he79
      clear he78 a78
      refine lV (Value.bool false) he79 rfl rfl (wanted_plain rfl _) (rn_pk0 rfl (he79.op rfl) (he79.op rfl) w3) ?_
      intro a80 he80
      clear he79 a79
      refine wpList_nil ?_
      refine then_ok ?_
      refine wp_cond_false (he80.op rfl) ?_
      refine wp_exit ?_
      simp only [Exit.then, Exit.inBlock, if_true]
      obtain ⟨z, hz⟩ : ∃ z, decide ((n : Int) ≤ 10) = z := ⟨_, rfl⟩
      refine wp_seq ?_
      refine wp_region_lit ?_
      refine lV (Value.slice A n cap) he80 rfl rfl (wanted_plain rfl _) (rn_mv rfl (he80.op rfl) w3) ?_
      intro a81 he81
      clear he80 a80
      refine lV (Value.int .i64 (n : Nat)) he81 rfl rfl (wanted_plain rfl _) (rn_lenR rfl (he81.op rfl) w3) ?_
      intro a82 he82
      clear he81 a81
      refine lV (Value.bool z) he82 rfl rfl (wanted_plain rfl _) (rn_leq rfl (he82.op rfl) (he82.op rfl) hz w3) ?_
      intro a83 he83
      clear he82 a82
      refine lV (Value.bool z) he83 rfl rfl (wanted_plain rfl _) (rn_asg rfl (he83.op rfl) w3) ?_
      intro a84 he84
      clear he83 a83
      refine wpList_nil ?_
      refine then_ok ?_
      refine wp_ret ?_
      try simp only [Exit.then, Exit.inBlock]
      exact ret_env rfl he84 rfl ⟨⟨z, rfl, fun e => by rw [e] at hz; have := of_decide_eq_true hz; omega⟩, hH3.new⟩

end Go.Proofs.YtaiijndldngnkaaDoor
