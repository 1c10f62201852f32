/-
  Data in memory and the blocks that they take up: what lies apart stays as it is when one of them turns.
  Rows of records that a call may write, wherever they begin: append, cut, store, clear, make.
  Lines as records; cells, rows of lines and lists of lines as data.
-/
import Derived.Test.YtlpjhaghphmbeaaDoorNStain
namespace Go.Proofs.YtlpjhaghphmbeaaDoor
open Go.RowKit

abbrev FP := Nat → Prop
/-- A datum: what is to be read in a world, out of these blocks alone. -/
structure Dat where
  P : World → FP → Prop
  fr : ∀ {w w' : World} {F S : FP}, P w F → Fr S w w' → (∀ k, F k → ¬ S k) → P w' F
  up : ∀ {w : World} {F G : FP}, P w F → (∀ k, F k → G k) → P w G
/-- Data that lie apart. -/
def SepL : List Dat → World → FP → Prop
  | [], _, _ => True
  | d :: D, w, G => ∃ F H : FP, d.P w F ∧ SepL D w H ∧ (∀ k, F k → H k → False) ∧ (∀ k, F k → G k) ∧ (∀ k, H k → G k)

section
variable {w w' : World} {F G S : FP} {A B D : List Dat} {d : Dat}
theorem SepL.up (h : SepL D w F) (hs : ∀ k, F k → G k) : SepL D w G := by
  cases D with
  | nil => trivial
  | cons d D =>
    obtain ⟨A, B, h1, h2, h3, h4, h5⟩ := h
    exact ⟨A, B, h1, h2, h3, fun k hk => hs k (h4 k hk), fun k hk => hs k (h5 k hk)⟩
theorem SepL.fr (h : SepL D w F) (hf : Fr S w w') (hn : ∀ k, F k → ¬ S k) : SepL D w' F := by
  induction D generalizing F with
  | nil => trivial
  | cons d D ih =>
    obtain ⟨A, B, h1, h2, h3, h4, h5⟩ := h
    exact ⟨A, B, d.fr h1 hf (fun k hk => hn k (h4 k hk)), ih h2 (fun k hk => hn k (h5 k hk)), h3, h4, h5⟩
theorem SepL.append (ha : SepL A w F) (hb : SepL B w G) (hd : ∀ k, F k → G k → False) : SepL (A ++ B) w (fun k => F k ∨ G k) := by
  induction A generalizing F with
  | nil => exact hb.up (fun k hk => .inr hk)
  | cons d A ih =>
    obtain ⟨X, Y, h1, h2, h3, h4, h5⟩ := ha
    refine ⟨X, fun k => Y k ∨ G k, h1, ih h2 (fun k hk hg => hd k (h5 k hk) hg), fun k hx hy => ?_, fun k hk => .inl (h4 k hk), fun k hk => hk.elim (fun h => .inl (h5 k h)) .inr⟩
    rcases hy with hy | hy
    · exact h3 k hx hy
    · exact hd k (h4 k hx) hy
theorem SepL.split (h : SepL (A ++ B) w G) : ∃ F H : FP, SepL A w F ∧ SepL B w H ∧ (∀ k, F k → H k → False) ∧ (∀ k, F k → G k) ∧ (∀ k, H k → G k) := by
  induction A generalizing G with
  | nil => exact ⟨fun _ => False, G, trivial, h, fun _ h => h.elim, fun _ h => h.elim, fun _ h => h⟩
  | cons d A ih =>
    obtain ⟨X, Y, h1, h2, h3, h4, h5⟩ := h
    obtain ⟨F, H, k1, k2, k3, k4, k5⟩ := ih h2
    refine ⟨fun k => X k ∨ F k, H, ⟨X, F, h1, k1, fun k hx hf => h3 k hx (k4 k hf), fun k hk => .inl hk, fun k hk => .inr hk⟩, k2, fun k hk hh => ?_, fun k hk => hk.elim (h4 k) (fun h => h5 k (k4 k h)), fun k hk => h5 k (k5 k hk)⟩
    rcases hk with hk | hk
    · exact h3 k hk (k5 k hh)
    · exact k3 k hk hh
theorem SepL.perm (hp : A.Perm B) (h : SepL A w G) : SepL B w G := by
  induction hp generalizing G with
  | nil => trivial
  | cons d _ ih =>
    obtain ⟨X, Y, h1, h2, h3, h4, h5⟩ := h
    exact ⟨X, Y, h1, ih h2, h3, h4, h5⟩
  | swap d e L =>
    obtain ⟨X, Y, h1, ⟨X', Y', k1, k2, k3, k4, k5⟩, h3, h4, h5⟩ := h
    refine ⟨X', fun k => X k ∨ Y' k, k1, ⟨X, Y', h1, k2, fun k hx hy => h3 k hx (k5 k hy), fun k hk => .inl hk, fun k hk => .inr hk⟩, fun k hk hx => ?_, fun k hk => h5 k (k4 k hk), fun k hk => hk.elim (h4 k) (fun h => h5 k (k5 k h))⟩
    rcases hx with hx | hx
    · exact h3 k hx (k4 k hk)
    · exact k3 k hk hx
  | trans _ _ ih1 ih2 => exact ih2 (ih1 h)
theorem SepL.one (h : d.P w F) : SepL [d] w F := ⟨F, fun _ => False, h, trivial, fun _ _ h => h, fun _ h => h, fun _ h => h.elim⟩
theorem SepL.the (h : SepL [d] w F) : d.P w F := by
  obtain ⟨X, Y, h1, _, _, h4, _⟩ := h
  exact d.up h1 h4
theorem SepL.two {e : Dat} (h1 : d.P w F) (h2 : e.P w G) (hd : ∀ k, F k → G k → False) : SepL [d, e] w (fun k => F k ∨ G k) := (SepL.one h1).append (SepL.one h2) hd
end

theorem pick_perm {α : Type _} {l : List α} {i : Nat} {d : α} (h : l[i]? = some d) : l.Perm (d :: l.eraseIdx i) := by
  induction l generalizing i with
  | nil => simp at h
  | cons c l ih =>
    cases i with
    | zero => simp at h; subst h; exact List.Perm.refl _
    | succ i => exact ((ih (by simpa using h)).cons c).trans (List.Perm.swap d c _)
/-- A call leaves these data, made out of the blocks of F and of new ones; no other block has turned. -/
def Turned (A : List Dat) (F : FP) (w w' : World) : Prop := Fr F w w' ∧ ∃ F' : FP, SepL A w' F' ∧ ∀ k, F' k → F k ∨ (w.heap.size ≤ k ∧ k < w'.heap.size)
abbrev Made (A : List Dat) (w w' : World) : Prop := Turned A (fun _ => False) w w'
theorem Made.new {A : List Dat} {w w' : World} (h : Made A w w') : New w w' := h.1
theorem Turned.nil {F : FP} {w w' : World} (h : Fr F w w') : Turned [] F w w' := ⟨h, fun _ => False, trivial, fun _ h => h.elim⟩
theorem Turned.up {A : List Dat} {F G : FP} {w w' : World} (h : Turned A F w w') (hs : ∀ k, F k → G k) : Turned A G w w' := by
  obtain ⟨h1, F', h2, h3⟩ := h
  exact ⟨h1.weak (fun k _ hk => hs k hk), F', h2, fun k hk => (h3 k hk).imp (hs k) id⟩
theorem Turned.map {A B : List Dat} {F : FP} {w w' : World} (h : Turned A F w w') (hm : ∀ G, SepL A w' G → SepL B w' G) : Turned B F w w' := by
  obtain ⟨h1, F', h2, h3⟩ := h
  exact ⟨h1, F', hm _ h2, h3⟩

/-- What lies apart from what turns stays. -/
theorem Turned.frame {A B : List Dat} {X Y F : FP} {w w' : World} (ht : Turned A X w w') (hB : SepL B w Y) (hd : ∀ k, X k → Y k → False) (hX : ∀ k, X k → F k) (hY : ∀ k, Y k → F k) (hF : ∀ k, F k → k < w.heap.size) : Turned (A ++ B) F w w' := by
  obtain ⟨hf, F', h1, h2⟩ := ht
  refine ⟨hf.weak (fun k _ hk => hX k hk), _, h1.append (hB.fr hf (fun k hk hx => hd k hx hk)) (fun k hk hy => ?_), fun k hk => ?_⟩
  · rcases h2 k hk with h | h
    · exact hd k h hy
    · have := hF k (hY k hy)
      omega
  · rcases hk with hk | hk
    · exact (h2 k hk).imp (hX k) id
    · exact .inl (hY k hk)
/-- What a walk knows of its data: since the call's begin (world e) only blocks of S0 have turned, and new ones; the data D lie apart from each other and from the walk's blocks ps, of which the last m are read alone. -/
structure Dt (r e : World) (S0 : FP) (m : Nat) (ps : List Nat) (D : List Dat) (w : World) : Prop where
  fr : Fr S0 e w
  tab : Tab w
  s0 : ∀ k, S0 k → 2 ≤ k
  rt : ∀ k, (S0 k ∨ e.heap.size ≤ k) → r.heap.size ≤ k
  es : 2 ≤ e.heap.size
  wr : ∀ (i p : Nat), ps[i]? = some p → i + m < ps.length → S0 p ∨ e.heap.size ≤ p
  lt : ∀ p ∈ ps, p < w.heap.size
  ex : ∃ G : FP, SepL D w G ∧ ∀ k, G k → (S0 k ∨ e.heap.size ≤ k) ∧ k < w.heap.size ∧ k ∉ ps

section
variable {r e w w' : World} {S0 : FP} {m : Nat} {ps : List Nat} {D A B : List Dat} {H : List Bk}
theorem tab_size {w : World} (h : Tab w) : 2 ≤ w.heap.size := h.wide.1
theorem Tab.fr {S : FP} (h : Tab w) (hf : Fr S w w') (hs : ∀ k, S k → 2 ≤ k) : Tab w' := by
  have h0 := h.marks.1
  have h1 := h.wide.1
  obtain ⟨t, f, hm⟩ := h.m
  obtain ⟨s, g, hw⟩ := h.w
  exact ⟨⟨t, f, (hf.block 0 h0 (fun h => by have := hs 0 h; omega)).trans hm⟩, ⟨s, g, (hf.block 1 h1 (fun h => by have := hs 1 h; omega)).trans hw⟩⟩
theorem Dt.start (hT : Tab w) : Dt w w (fun _ => False) 0 [] [] w :=
  ⟨Fr.refl _ _, hT, fun _ h => h.elim, fun _ h => h.elim (fun h => h.elim) id, tab_size hT, fun i p h => by simp at h, fun p h => (by cases h), fun _ => False, trivial, fun _ h => h.elim⟩
theorem Dt.new (h : Dt r e S0 m ps D w) (hn : New w w') : Dt r e S0 m ps D w' := by
  obtain ⟨G, h1, h2⟩ := h.ex
  exact ⟨Fr.trans h.fr hn (fun _ _ h => h.elim), h.tab.new hn, h.s0, h.rt, h.es, h.wr, fun p hp => Nat.lt_of_lt_of_le (h.lt p hp) hn.size, G, h1.fr hn (fun _ _ h => h), fun k hk => ⟨(h2 k hk).1, Nat.lt_of_lt_of_le (h2 k hk).2.1 hn.size, (h2 k hk).2.2⟩⟩
/-- One block more. -/
theorem Dt.cons (h : Dt r e S0 m ps D w) {p : Nat} (hn : New w w') (hp : w.heap.size ≤ p) (hl : p < w'.heap.size) : Dt r e S0 m (p :: ps) D w' := by
  have h' := h.new hn
  obtain ⟨G, h1, h2⟩ := h.ex
  refine ⟨h'.fr, h'.tab, h.s0, h.rt, h.es, fun i q hi hlt => ?_, fun q hq => ?_, G, h1.fr hn (fun _ _ h => h), fun k hk => ⟨(h2 k hk).1, Nat.lt_of_lt_of_le (h2 k hk).2.1 hn.size, fun hm => ?_⟩⟩
  · cases i with
    | zero =>
      simp only [List.getElem?_cons_zero, Option.some.injEq] at hi
      subst hi
      exact .inr (Nat.le_trans h.fr.size hp)
    | succ i => exact h.wr i q (by simpa using hi) (by simp only [List.length_cons] at hlt; omega)
  · rcases List.mem_cons.1 hq with rfl | hq
    · exact hl
    · exact h'.lt q hq
  · have hlt := (h2 k hk).2.1
    rcases List.mem_cons.1 hm with rfl | hm
    · omega
    · exact (h2 k hk).2.2 hm
/-- The newest block is not read again. -/
theorem Dt.tail {p : Nat} (h : Dt r e S0 m (p :: ps) D w) : Dt r e S0 m ps D w := by
  obtain ⟨G, h1, h2⟩ := h.ex
  exact ⟨h.fr, h.tab, h.s0, h.rt, h.es, fun i q hi hlt => h.wr (i + 1) q (by simpa using hi) (by simp only [List.length_cons]; omega), fun q hq => h.lt q (List.mem_cons_of_mem _ hq), G, h1, fun k hk => ⟨(h2 k hk).1, (h2 k hk).2.1, fun hm => (h2 k hk).2.2 (List.mem_cons_of_mem _ hm)⟩⟩
/-- A store into a block of the walk. -/
theorem Dt.setb (h : Dt r e S0 m ps D w) {i p : Nat} (hi : ps[i]? = some p) (hm : Nat.blt (i + m) ps.length = true) (hf : Fr (fun k => k = p) w w') : Dt r e S0 m ps D w' := by
  have hm' : i + m < ps.length := by simpa [Nat.blt_eq] using hm
  have hp := h.wr i p hi hm'
  have hmem := List.mem_of_getElem? hi
  obtain ⟨G, h1, h2⟩ := h.ex
  have h2p : 2 ≤ p := hp.elim (h.s0 p) (fun hp => Nat.le_trans h.es hp)
  refine ⟨Fr.trans h.fr hf (fun i hi hk => ?_), h.tab.fr hf (fun k hk => by omega), h.s0, h.rt, h.es, h.wr, fun q hq => Nat.lt_of_lt_of_le (h.lt q hq) hf.size, G, h1.fr hf (fun k hk e => (h2 k hk).2.2 (e ▸ hmem)), fun k hk => ⟨(h2 k hk).1, Nat.lt_of_lt_of_le (h2 k hk).2.1 hf.size, (h2 k hk).2.2⟩⟩
  subst hk
  exact hp.elim id (fun h => by omega)
theorem Dt.get (h : Dt r e S0 m ps D w) {i : Nat} {d : Dat} (hi : D[i]? = some d) : ∃ F, d.P w F := by
  obtain ⟨G, h1, _⟩ := h.ex
  obtain ⟨X, _, h3, _⟩ := h1.perm (pick_perm hi)
  exact ⟨X, h3⟩
/-- Other data out of the same blocks. -/
theorem Dt.map (h : Dt r e S0 m ps A w) (hm : ∀ G, SepL A w G → SepL B w G) : Dt r e S0 m ps B w := by
  obtain ⟨G, h1, h2⟩ := h.ex
  exact ⟨h.fr, h.tab, h.s0, h.rt, h.es, h.wr, h.lt, G, hm G h1, h2⟩
theorem Dt.front (h : Dt r e S0 m ps (A ++ D) w) (hm : ∀ G, SepL A w G → SepL B w G) : Dt r e S0 m ps (B ++ D) w := h.map (fun G hG => by
  obtain ⟨X, Y, h1, h2, h3, h4, h5⟩ := hG.split
  exact ((hm X h1).append h2 h3).up (fun k hk => hk.elim (h4 k) (h5 k)))
theorem Dt.pick (h : Dt r e S0 m ps D w) {d : Dat} (i : Nat) (hi : D[i]? = some d) : Dt r e S0 m ps (d :: D.eraseIdx i) w := h.map (fun _ hG => hG.perm (pick_perm hi))
theorem Dt.drop {d : Dat} (h : Dt r e S0 m ps (d :: D) w) : Dt r e S0 m ps D w := h.map (fun G hG => by
  obtain ⟨X, Y, h1, h2, h3, h4, h5⟩ := hG
  exact h2.up h5)
theorem Dt.first (h : Dt r e S0 m ps (A ++ D) w) : Dt r e S0 m ps A w := h.map (fun G hG => by
  obtain ⟨X, Y, h1, h2, h3, h4, h5⟩ := hG.split
  exact h1.up h4)
/-- A call turns the data at the front. -/
theorem Dt.step (hD : Dt r e S0 m ps (A ++ D) w) : ∃ F : FP, SepL A w F ∧ (∀ k, F k → 2 ≤ k ∧ k < w.heap.size) ∧ ∀ A' w', Turned A' F w w' → Dt r e S0 m ps (A' ++ D) w' ∧ ∀ H : List Bk, H.map (·.p) = ps → Hp r H w → Hp r H w' := by
  obtain ⟨G, h1, h2⟩ := hD.ex
  obtain ⟨F, Y, k1, k2, k3, k4, k5⟩ := h1.split
  have hF2 : ∀ k, F k → 2 ≤ k := fun k hk => (h2 k (k4 k hk)).1.elim (hD.s0 k) (fun h => Nat.le_trans hD.es h)
  refine ⟨F, k1, fun k hk => ⟨hF2 k hk, (h2 k (k4 k hk)).2.1⟩, fun A' w' ht => ?_⟩
  obtain ⟨hf, F', t1, t2⟩ := ht
  have hY : SepL D w' Y := k2.fr hf (fun k hy hk => k3 k hk hy)
  refine ⟨⟨Fr.trans hD.fr hf (fun k hk hF => ((h2 k (k4 k hF)).1).elim id (fun h => by omega)), hD.tab.fr hf hF2, hD.s0, hD.rt, hD.es, hD.wr, fun p hp => Nat.lt_of_lt_of_le (hD.lt p hp) hf.size, _, t1.append hY (fun k hk hy => ?_), fun k hk => ?_⟩, fun H hH h => ?_⟩
  · rcases t2 k hk with h | h
    · exact k3 k h hy
    · have := (h2 k (k5 k hy)).2.1
      omega
  · rcases hk with hk | hk
    · rcases t2 k hk with h | h
      · exact ⟨(h2 k (k4 k h)).1, Nat.lt_of_lt_of_le (h2 k (k4 k h)).2.1 hf.size, (h2 k (k4 k h)).2.2⟩
      · exact ⟨.inr (Nat.le_trans hD.fr.size h.1), h.2, fun hp => by have := hD.lt k hp; omega⟩
    · exact ⟨(h2 k (k5 k hk)).1, Nat.lt_of_lt_of_le (h2 k (k5 k hk)).2.1 hf.size, (h2 k (k5 k hk)).2.2⟩
  · refine h.own hf (fun k hk => hD.rt k (h2 k (k4 k hk)).1) (fun b hb hk => (h2 _ (k4 _ hk)).2.2 ?_)
    exact hH ▸ List.mem_map.2 ⟨b, hb, rfl⟩
/-- The same, and where the blocks lie. -/
theorem Dt.stepL (hD : Dt r e S0 m ps (A ++ D) w) : ∃ F : FP, SepL A w F ∧ (∀ k, F k → 2 ≤ k ∧ k < w.heap.size) ∧ (∀ k, F k → S0 k ∨ e.heap.size ≤ k) ∧ ∀ A' w', Turned A' F w w' → Dt r e S0 m ps (A' ++ D) w' ∧ ∀ H : List Bk, H.map (·.p) = ps → Hp r H w → Hp r H w' := by
  obtain ⟨G, h1, h2⟩ := hD.ex
  obtain ⟨F, Y, k1, k2, k3, k4, k5⟩ := h1.split
  have hF2 : ∀ k, F k → 2 ≤ k := fun k hk => (h2 k (k4 k hk)).1.elim (hD.s0 k) (fun h => Nat.le_trans hD.es h)
  refine ⟨F, k1, fun k hk => ⟨hF2 k hk, (h2 k (k4 k hk)).2.1⟩, fun k hk => (h2 k (k4 k hk)).1, fun A' w' ht => ?_⟩
  obtain ⟨hf, F', t1, t2⟩ := ht
  have hY : SepL D w' Y := k2.fr hf (fun k hy hk => k3 k hk hy)
  refine ⟨⟨Fr.trans hD.fr hf (fun k hk hF => ((h2 k (k4 k hF)).1).elim id (fun h => by omega)), hD.tab.fr hf hF2, hD.s0, hD.rt, hD.es, hD.wr, fun p hp => Nat.lt_of_lt_of_le (hD.lt p hp) hf.size, _, t1.append hY (fun k hk hy => ?_), fun k hk => ?_⟩, fun H hH h => ?_⟩
  · rcases t2 k hk with h | h
    · exact k3 k h hy
    · have := (h2 k (k5 k hy)).2.1
      omega
  · rcases hk with hk | hk
    · rcases t2 k hk with h | h
      · exact ⟨(h2 k (k4 k h)).1, Nat.lt_of_lt_of_le (h2 k (k4 k h)).2.1 hf.size, (h2 k (k4 k h)).2.2⟩
      · exact ⟨.inr (Nat.le_trans hD.fr.size h.1), h.2, fun hp => by have := hD.lt k hp; omega⟩
    · exact ⟨(h2 k (k5 k hk)).1, Nat.lt_of_lt_of_le (h2 k (k5 k hk)).2.1 hf.size, (h2 k (k5 k hk)).2.2⟩
  · refine h.own hf (fun k hk => hD.rt k (h2 k (k4 k hk)).1) (fun b hb hk => (h2 _ (k4 _ hk)).2.2 ?_)
    exact hH ▸ List.mem_map.2 ⟨b, hb, rfl⟩
/-- The same, and the datum behind them is read meanwhile. -/
theorem Dt.stepR {d : Dat} (hD : Dt r e S0 m ps (A ++ d :: D) w) : ∃ F G : FP, SepL A w F ∧ d.P w G ∧ (∀ k, G k → ¬ F k) ∧ (∀ k, F k → 2 ≤ k ∧ k < w.heap.size) ∧ ∀ A' w', Turned A' F w w' → Dt r e S0 m ps (A' ++ d :: D) w' ∧ ∀ H : List Bk, H.map (·.p) = ps → Hp r H w → Hp r H w' := by
  obtain ⟨G, h1, h2⟩ := hD.ex
  obtain ⟨F, Y, k1, k2, k3, k4, k5⟩ := h1.split
  obtain ⟨X, Z, q1, q2, q3, q4, q5⟩ := k2
  have hF2 : ∀ k, F k → 2 ≤ k := fun k hk => (h2 k (k4 k hk)).1.elim (hD.s0 k) (fun h => Nat.le_trans hD.es h)
  refine ⟨F, X, k1, q1, fun k hx hf => k3 k hf (q4 k hx), fun k hk => ⟨hF2 k hk, (h2 k (k4 k hk)).2.1⟩, fun A' w' ht => ?_⟩
  obtain ⟨hf, F', t1, t2⟩ := ht
  have hY : SepL (d :: D) w' Y := SepL.fr (D := d :: D) ⟨X, Z, q1, q2, q3, q4, q5⟩ hf (fun k hy hk => k3 k hk hy)
  refine ⟨⟨Fr.trans hD.fr hf (fun k hk hF => ((h2 k (k4 k hF)).1).elim id (fun h => by omega)), hD.tab.fr hf hF2, hD.s0, hD.rt, hD.es, hD.wr, fun p hp => Nat.lt_of_lt_of_le (hD.lt p hp) hf.size, _, t1.append hY (fun k hk hy => ?_), fun k hk => ?_⟩, fun H hH h => ?_⟩
  · rcases t2 k hk with h | h
    · exact k3 k h hy
    · have := (h2 k (k5 k hy)).2.1
      omega
  · rcases hk with hk | hk
    · rcases t2 k hk with h | h
      · exact ⟨(h2 k (k4 k h)).1, Nat.lt_of_lt_of_le (h2 k (k4 k h)).2.1 hf.size, (h2 k (k4 k h)).2.2⟩
      · exact ⟨.inr (Nat.le_trans hD.fr.size h.1), h.2, fun hp => by have := hD.lt k hp; omega⟩
    · exact ⟨(h2 k (k5 k hk)).1, Nat.lt_of_lt_of_le (h2 k (k5 k hk)).2.1 hf.size, (h2 k (k5 k hk)).2.2⟩
  · refine h.own hf (fun k hk => hD.rt k (h2 k (k4 k hk)).1) (fun b hb hk => (h2 _ (k4 _ hk)).2.2 ?_)
    exact hH ▸ List.mem_map.2 ⟨b, hb, rfl⟩
theorem Dt.made (hD : Dt r e S0 m ps D w) {A' : List Dat} (ht : Made A' w w') : Dt r e S0 m ps (A' ++ D) w' := by
  obtain ⟨F, _, _, h⟩ := Dt.step (A := []) hD
  exact (h A' w' (ht.up (fun _ h => h.elim))).1
/-- What a call leaves. -/
theorem Dt.turned (hD : Dt r e S0 m ps D w) : Turned D S0 e w := by
  obtain ⟨G, h1, h2⟩ := hD.ex
  exact ⟨hD.fr, G, h1, fun k hk => (h2 k hk).1.imp id (fun h => ⟨h, (h2 k hk).2.1⟩)⟩
end
/-- A root below all blocks. -/
def bare (w : World) : World := { w with heap := #[] }
theorem Hp.bare (w : World) : Hp (bare w) [] w := ⟨⟨rfl, rfl, rfl, Nat.zero_le _, fun k hk => by simp [Go.Proofs.YtlpjhaghphmbeaaDoor.bare] at hk⟩, by simp, by simp⟩
theorem Hp.bare1 {w : World} {p : Nat} {t : TypeId} {cs : Array Value} (h : Blk w p t cs) : Hp (Go.Proofs.YtlpjhaghphmbeaaDoor.bare w) [⟨p, t, cs⟩] w :=
  ⟨⟨rfl, rfl, rfl, Nat.zero_le _, fun k hk => by simp [Go.Proofs.YtlpjhaghphmbeaaDoor.bare] at hk⟩, fun i j b c hi hj hij => by
    match i, j, hi, hj, hij with
    | 0, 0, _, _, e => exact absurd rfl e
    | 0, j + 1, _, hj, _ => simp at hj
    | i + 1, _, hi, _, _ => simp at hi, fun b hb => by
    rcases List.mem_cons.1 hb with rfl | hb
    · exact ⟨Nat.zero_le _, h⟩
    · cases hb⟩
/-- A walk begins that turns the data A, which lie in F. -/
theorem Dt.begin {w : World} {F : FP} {A : List Dat} (hT : Tab w) (hA : SepL A w F) (hF : ∀ k, F k → 2 ≤ k ∧ k < w.heap.size) : Dt (bare w) w F 0 [] A w :=
  ⟨Fr.refl _ _, hT, fun k hk => (hF k hk).1, fun _ _ => Nat.zero_le _, tab_size hT, fun i p h => by simp at h, fun p h => (by cases h), F, hA, fun k hk => ⟨.inl hk, (hF k hk).2, fun h => by cases h⟩⟩
/-- The same with a block that it turns, too. -/
theorem Dt.begin1 {w : World} {F G : FP} {A : List Dat} {p : Nat} (hT : Tab w) (hA : SepL A w G) (hG : ∀ k, G k → F k) (hF : ∀ k, F k → 2 ≤ k ∧ k < w.heap.size) (hp : F p) (hpG : ¬ G p) : Dt (bare w) w F 0 [p] A w :=
  ⟨Fr.refl _ _, hT, fun k hk => (hF k hk).1, fun _ _ => Nat.zero_le _, tab_size hT, fun i q h _ => by
    cases i with
    | zero => simp at h; subst h; exact .inl hp
    | succ i => simp at h, fun q h => by
    simp at h
    subst h
    exact (hF _ hp).2, G, hA, fun k hk => ⟨.inl (hG k hk), (hF k (hG k hk)).2, fun h => by simp at h; subst h; exact hpG hk⟩⟩
/-- The same with a block that it reads alone. -/
theorem Dt.read1 {w : World} {p : Nat} (hT : Tab w) (hp : p < w.heap.size) : Dt (bare w) w (fun _ => False) 1 [p] [] w :=
  ⟨Fr.refl _ _, hT, fun k hk => hk.elim, fun _ _ => Nat.zero_le _, tab_size hT, fun i q h hi => by simp at hi, fun q h => by
    simp at h
    subst h
    exact hp, fun _ => False, trivial, fun k hk => hk.elim⟩

/-! ### Steps -/
section
variable {DF : List Deferred} {P : Program} {ops : Array Oper} {Q : Exit → Act → World → Prop} {a : Act} {w : World} {rest : List Oper} {o : Oper} {N k : Nat} {F : List (Nat × Value)}
/-- An operation that makes a block. -/
theorem lNewP (mk : Nat → Value) {t : TypeId} {cs : Array Value} {w0 : World} {H : List Bk} (he : EnvD DF N F a) (hH : Hp w0 H w) (hd : o.dst = some k) (hk : Nat.blt k N = true)
    (hw : Region.wanted o (yielded ops a.tmps) = true) (h : (execOp a.eval o).run P w = .ok (.value (mk w.heap.size)) (w.alloc (.cells cs t)))
    (next : ∀ p w' a', w.heap.size ≤ p → New w w' → Hp w0 (⟨p, t, cs⟩ :: H) w' → EnvD DF N ((k, mk p) :: F) a' → wpList P ops Q rest a' w') : wpList P ops Q (o :: rest) a w :=
  wpList_step fun K hK => by rw [if_pos hw]; exact wp_valw h (hK _ _ (by rw [hd]; exact next _ _ _ (Nat.le_refl _) ((Fr.refl _ _).alloc _) (hH.alloc t cs) (he.put hk _)))
theorem hNewP {md : Region.Mode} {S : World → Prop} {fuel : Nat} {listed : Array Bool} {i : Nat} (mk : Nat → Value) {t : TypeId} {cs : Array Value} {w0 : World} {H : List Bk} (he : EnvD DF N F a) (hH : Hp w0 H w) (hr : Region.ready md ops listed = [i]) (hoi : ops[i]? = some o) (hd : o.dst = some k) (hk : Nat.blt k N = true)
    (hw : Region.wanted o (yielded ops a.tmps) = true) (h : (execOp a.eval o).run P w = .ok (.value (mk w.heap.size)) (w.alloc (.cells cs t)))
    (next : ∀ p w' a', w.heap.size ≤ p → New w w' → Hp w0 (⟨p, t, cs⟩ :: H) w' → EnvD DF N ((k, mk p) :: F) a' → S w' ∧ wpAnyH P md ops Q S fuel (listed.setIfInBounds i true) a' w') : wpAnyH P md ops Q S (fuel + 1) listed a w :=
  allH hr hoi hw (fun _ hK => wp_valw h (by
    have := next w.heap.size _ _ (Nat.le_refl _) ((Fr.refl _ _).alloc _) (hH.alloc t cs) (he.put hk (mk w.heap.size))
    rw [hd]
    exact hK _ _ this.1 this.2))
/-- Two operations that may come up in either order: what is known behind both is I. -/
theorem hPair {md : Region.Mode} {S : World → Prop} {fuel : Nat} {listed : Array Bool} {i j : Nat} (I : Act → World → Prop) (hij : i ≠ j) (hr : Region.ready md ops listed = [i, j]) (hr1 : Region.ready md ops (listed.setIfInBounds i true) = [j]) (hr2 : Region.ready md ops (listed.setIfInBounds j true) = [i])
    (h1 : wpOp P ops Q i (fun a' w' => S w' ∧ wpOp P ops Q j (fun a'' w'' => S w'' ∧ I a'' w'') a' w') a w) (h2 : wpOp P ops Q j (fun a' w' => S w' ∧ wpOp P ops Q i (fun a'' w'' => S w'' ∧ I a'' w'') a' w') a w)
    (next : ∀ a w, I a w → wpAnyH P md ops Q S fuel ((listed.setIfInBounds i true).setIfInBounds j true) a w) : wpAnyH P md ops Q S (fuel + 2) listed a w := by
  refine wpAnyH_all hr (by simp) (fun q hq => ?_)
  simp only [List.mem_cons, List.not_mem_nil, or_false] at hq
  rcases hq with rfl | rfl
  · refine wpOp_mono (fun a' w' h => ⟨h.1, ?_⟩) h1
    refine wpAnyH_all hr1 (by simp) (fun q hq => ?_)
    obtain rfl : q = j := by simpa using hq
    exact wpOp_mono (fun a'' w'' h => ⟨h.1, next _ _ h.2⟩) h.2
  · refine wpOp_mono (fun a' w' h => ⟨h.1, ?_⟩) h2
    refine wpAnyH_all hr2 (by simp) (fun r hr' => ?_)
    obtain rfl : r = i := by simpa using hr'
    refine wpOp_mono (fun a'' w'' h => ⟨h.1, ?_⟩) h.2
    rw [Array.setIfInBounds_comm _ _ (Ne.symm hij)]
    exact next _ _ h.2
theorem kStep {i : Nat} {K : Act → World → Prop} (ho : ops[i]? = some o) (hw : Region.wanted o (yielded ops a.tmps) = true) (h : ∀ K' : Act → World → Prop, (∀ a' w', K a' w' → K' a' w') → Oper.wp P o a w K' Q) : wpOp P ops Q i K a w :=
  wpOp_step ho (fun K' hK => by rw [if_pos hw]; exact h K' (fun a w h => hK a w h))
theorem kNewP {i : Nat} {K : Act → World → Prop} (mk : Nat → Value) {t : TypeId} {cs : Array Value} {w0 : World} {H : List Bk} (he : EnvD DF N F a) (hH : Hp w0 H w) (hoi : ops[i]? = some o) (hd : o.dst = some k) (hk : Nat.blt k N = true)
    (hw : Region.wanted o (yielded ops a.tmps) = true) (h : (execOp a.eval o).run P w = .ok (.value (mk w.heap.size)) (w.alloc (.cells cs t)))
    (next : ∀ p w' a', w.heap.size ≤ p → New w w' → Hp w0 (⟨p, t, cs⟩ :: H) w' → EnvD DF N ((k, mk p) :: F) a' → K a' w') : wpOp P ops Q i K a w :=
  kStep hoi hw (fun K' hK => wp_valw h (hK _ _ (by rw [hd]; exact next w.heap.size _ _ (Nat.le_refl _) ((Fr.refl _ _).alloc _) (hH.alloc t cs) (he.put hk (mk w.heap.size)))))
/-- An operation without a slot. -/
theorem lEx0 {R : Value → World → Prop} (he : EnvD DF N F a) (hd : o.dst = none) (hw : Region.wanted o (yielded ops a.tmps) = true)
    (hrun : ∃ v' w', (execOp a.eval o).run P w = .ok (.value v') w' ∧ R v' w') (next : ∀ v' w', R v' w' → ∀ a', EnvD DF N F a' → wpList P ops Q rest a' w') : wpList P ops Q (o :: rest) a w := by
  obtain ⟨v', w', h1, h2⟩ := hrun
  exact wpList_step fun K hK => by rw [if_pos hw]; exact wp_valw h1 (hK _ _ (by rw [hd]; exact next _ _ h2 _ (he.put0 _)))
end
end Go.Proofs.YtlpjhaghphmbeaaDoor
namespace Go.Proofs.YtlpjhaghphmbeaaDoor
open Go.RowKit

section
variable {α : Type} (R : Rec α)
/-- The slice v holds the records xs; its array lies in F, behind it there is room up to its capacity. -/
def OwnO (w : World) (F : FP) (v : Value) (xs : List α) : Prop :=
  (∃ A, v = .slice A 0 0 ∧ xs = []) ∨ ∃ g off cap cur, v = .slice (some ⟨g, off, none⟩) xs.length cap ∧ F g ∧ Blk w g R.ty cur ∧ xs.length ≤ cap ∧ cap ≤ maxLen ∧ cur.size = off + cap * R.sz ∧ (cur.toList.drop off).take (xs.length * R.sz) = flatG R xs
variable {R}
variable {w w' : World} {F G S : FP} {v : Value} {xs : List α} {A : Option Addr} {n c k : Nat}
theorem OwnO.fr (h : OwnO R w F v xs) (hf : Fr S w w') (hn : ∀ k, F k → ¬ S k) : OwnO R w' F v xs := by
  rcases h with h | ⟨g, off, cap, cur, h1, h2, h3, h4⟩
  · exact .inl h
  · exact .inr ⟨g, off, cap, cur, h1, h2, h3.fr hf (hn g h2), h4⟩
theorem OwnO.up (h : OwnO R w F v xs) (hs : ∀ k, F k → G k) : OwnO R w G v xs := by
  rcases h with h | ⟨g, off, cap, cur, h1, h2, h3⟩
  · exact .inl h
  · exact .inr ⟨g, off, cap, cur, h1, hs g h2, h3⟩
theorem OwnO.nil (w : World) (F : FP) : OwnO R w F (.slice none 0 0) [] := .inl ⟨none, rfl, rfl⟩
theorem OwnO.shape (h : OwnO R w F v xs) : ∃ A c, v = .slice A xs.length c ∧ xs.length ≤ c := by
  rcases h with ⟨A, rfl, rfl⟩ | ⟨g, off, cap, cur, rfl, _, _, h4, _⟩
  · exact ⟨A, 0, rfl, Nat.le_refl _⟩
  · exact ⟨_, cap, rfl, h4⟩
theorem OwnO.rdg (h : OwnO R w F (.slice A n c) xs) : ∃ b, RdG R w b A n xs ∧ n = xs.length ∧ n ≤ c ∧ (0 < n → F b) := by
  rcases h with ⟨A', h1, rfl⟩ | ⟨g, off, cap, cur, h1, h2, h3, h4, h5, h6, h7⟩
  · simp only [Value.slice.injEq] at h1
    obtain ⟨-, rfl, rfl⟩ := h1
    exact ⟨0, RdG.nil _ _ _, rfl, Nat.le_refl _, fun h => absurd h (by omega)⟩
  · simp only [Value.slice.injEq] at h1
    obtain ⟨rfl, rfl, rfl⟩ := h1
    refine ⟨g, ⟨rfl, fun _ => ⟨off, rfl, h3.lt, fun j hj => ?_⟩⟩, rfl, h4, fun _ => h2⟩
    rw [h3.cell, ← h7, List.getElem?_take, if_pos hj, List.getElem?_drop, Array.getElem?_toList]
theorem rdg_cells {b m : Nat} {news : List α} (hr : RdG R w b A m news) (hm : 0 < m) : ∃ a, A = some a ∧ ∀ j u, (flatG R news)[j]? = some u → w.cell? (a.add j) = some u := by
  obtain ⟨o, rfl, _, hc⟩ := hr.2 hm
  refine ⟨_, rfl, fun j u hu => ?_⟩
  have hj : j < m * R.sz := by
    have := (List.getElem?_eq_some_iff.1 hu).1
    rw [flatG_len, hr.1] at this
    exact this
  rw [addr_add, hc j hj, hu]
set_option maxRecDepth 8000 in
/-- append onto a row. -/
theorem run_appO (ty : TypeId) (h : OwnO R w F v xs) {b m cx : Nat} {B : Option Addr} {news : List α} (hr : RdG R w b B m news) (hm : 0 < m) (hnm : xs.length + m ≤ 100000000) :
    ∃ v' w', (Builtin.append_ #[R.sl, R.sl] ty #[v, .slice B m cx]).run Tryd.prog w = .ok v' w' ∧ (∃ A' c', v' = .slice A' (xs ++ news).length c' ∧ (xs ++ news).length ≤ c') ∧ Fr F w w' ∧ ∃ F', OwnO R w' F' v' (xs ++ news) ∧ ∀ k, F' k → F k ∨ (w.heap.size ≤ k ∧ k < w'.heap.size) := by
  obtain ⟨i, hi, hz, hsize, hby⟩ := info_parts R.info
  have ht := R.und
  have hmb : (xs.length + m) * R.by_ ≤ 140737488355328 := Nat.le_trans (Nat.mul_le_mul hnm R.small) (by decide)
  obtain ⟨a, rfl, hnews⟩ := rdg_cells hr hm
  have hl : (flatG R news).length = m * R.sz := by rw [flatG_len, hr.1]
  have hlen : (xs ++ news).length = xs.length + m := by rw [List.length_append, hr.1]
  have grown : ∀ old, ∃ w', w' = w.drew.alloc (.cells ((flatG R xs).toArray ++ (flatG R news).toArray ++ Builtin.zeroCells R.z.cells (grownCap w (xs.length + m) old R.ty - (xs.length + m))) R.ty) ∧
      (∃ A' c', Value.slice (some ⟨w.heap.size, 0, none⟩) (xs.length + m) (grownCap w (xs.length + m) old R.ty) = .slice A' (xs ++ news).length c' ∧ (xs ++ news).length ≤ c') ∧ Fr F w w' ∧
      ∃ F', OwnO R w' F' (.slice (some ⟨w.heap.size, 0, none⟩) (xs.length + m) (grownCap w (xs.length + m) old R.ty)) (xs ++ news) ∧ ∀ k, F' k → F k ∨ (w.heap.size ≤ k ∧ k < w'.heap.size) := by
    intro old
    have hge := grownCap_ge w (xs.length + m) old R.ty
    refine ⟨_, rfl, ⟨_, _, by rw [hlen], by rw [hlen]; exact hge⟩, ((Fr.refl _ w).drew).alloc _, fun k => k = w.heap.size, .inr ⟨w.heap.size, 0, _, _, by rw [hlen], rfl, Blk.new w.drew _ _, by rw [hlen]; exact hge, grownCap_le_maxLen _ _ _ _ (by unfold maxLen; omega), ?_, ?_⟩, fun k hk => .inr (by subst hk; simp)⟩
    · simp only [Array.size_append, List.size_toArray, zeroCells_size, flatG_len, hr.1, R.zc]
      rw [Nat.zero_add, ← Nat.add_mul, ← Nat.add_mul]
      congr 1
      omega
    · simp only [Array.toList_append, List.append_assoc, List.drop_zero]
      rw [← List.append_assoc, flatG_append, List.take_left' (by rw [List.length_append, flatG_len, hl, List.length_append, hr.1, Nat.add_mul])]
  have emp : ∀ A0 : Option Addr, xs = [] → v = .slice A0 0 0 → ∃ v' w', (Builtin.append_ #[R.sl, R.sl] ty #[v, .slice (some a) m cx]).run Tryd.prog w = .ok v' w' ∧ (∃ A' c', v' = .slice A' (xs ++ news).length c' ∧ (xs ++ news).length ≤ c') ∧ Fr F w w' ∧ ∃ F', OwnO R w' F' v' (xs ++ news) ∧ ∀ k, F' k → F k ∨ (w.heap.size ≤ k ∧ k < w'.heap.size) := by
    intro A0 hx hv
    subst hx hv
    obtain ⟨w', hw', g1, g2, g3⟩ := grown 0
    refine ⟨_, w', ?_, g1, g2, g3⟩
    subst hw'
    cases A0 with
    | none =>
      have hrun := run_append_nil (P := Tryd.prog) w R.sl ty R.ty i _ ht hi hz a m cx (flatG R news) (by rw [hl, hsize]) hnews hm (by omega) (by rw [hby]; have := hmb; simp only [List.length_nil, Nat.zero_add] at this; omega)
      rw [hrun]
      simp [flatG]
    | some a0 =>
      have hrun := run_append_grow (P := Tryd.prog) w R.sl ty R.ty i _ ht hi hz a0 0 0 [] (by simp) (by simp) a m cx (flatG R news) (by rw [hl, hsize]) hnews (by omega) (by omega) (by rw [hby]; exact growslice_fits (by omega) (by simpa using hmb))
      rw [hrun]
      simp [flatG]
  rcases h with ⟨A0, hv, hx⟩ | ⟨g, off, cap, cur, rfl, h2, h3, h4, h5, h6, h7⟩
  · exact emp A0 hx hv
  · by_cases hroom : xs.length + m ≤ cap
    · have hf := run_firstCells_some (P := Tryd.prog) w i.size m a m cx (flatG R news) (by rw [hl, hsize]) hnews
      have hmul : xs.length * R.sz + m * R.sz ≤ cap * R.sz := by rw [← Nat.add_mul]; exact Nat.mul_le_mul_right _ hroom
      have hst := run_storeCells_at Tryd.prog g (off + xs.length * R.sz) R.ty (flatG R news) 0 cur w h3 (by rw [hl, h6]; omega) (flatG_one R news)
      simp only [Nat.add_zero] at hst
      refine ⟨.slice (some ⟨g, off, none⟩) (xs.length + m) cap, w.setRow g (cur.toList.take (off + xs.length * R.sz) ++ flatG R news ++ cur.toList.drop (off + xs.length * R.sz + (flatG R news).length)).toArray, ?_, ⟨_, _, by rw [hlen], by omega⟩, (fr_setRow w g _).weak (fun k _ hk => by subst hk; exact h2), F, .inr ⟨g, off, cap, _, by rw [hlen], h2, setRow_heap w g cur _ R.ty _ h3, by omega, h5, ?_, ?_⟩, fun k hk => .inl hk⟩
      · simp [Builtin.append_, run_underlying ht, sizeOf, typeInfo, hi, Builtin.lenOf, hroom, hsize ▸ hf, addr_add, hsize, hst]
      · simp only [List.size_toArray, List.length_append, List.length_take, List.length_drop, Array.length_toList, hl, h6]
        omega
      · have e1 : cur.toList.take (off + xs.length * R.sz) = cur.toList.take off ++ flatG R xs := by rw [List.take_add, h7]
        have e2 : (cur.toList.take off).length = off := by rw [List.length_take, Array.length_toList, h6]; omega
        rw [e1, List.append_assoc, List.append_assoc, List.drop_append, e2, Nat.sub_self, List.drop_zero, List.drop_eq_nil_of_le (by omega), List.nil_append, ← List.append_assoc, flatG_append, List.take_left' (by rw [List.length_append, flatG_len, hl, hlen, Nat.add_mul])]
    · obtain ⟨w', hw', g1, g2, g3⟩ := grown cap
      refine ⟨_, w', ?_, g1, g2, g3⟩
      subst hw'
      have hrun := run_append_grow (P := Tryd.prog) w R.sl ty R.ty i _ ht hi hz ⟨g, off, none⟩ xs.length cap (flatG R xs) (by rw [flatG_len, hsize]) (fun j u hu => by
        have hj : j < xs.length * R.sz := by
          have := (List.getElem?_eq_some_iff.1 hu).1
          rwa [flatG_len] at this
        rw [← h7, List.getElem?_take, if_pos hj, List.getElem?_drop, Array.getElem?_toList] at hu
        rw [addr_add, h3.cell, hu]) a m cx (flatG R news) (by rw [hl, hsize]) hnews (by omega) (by omega) (by rw [hby]; exact growslice_fits (by omega) hmb)
      rw [hrun]
/-- A row cut. -/
theorem OwnO.cutl (h : OwnO R w F (.slice A n c) xs) (hk : k ≤ n) : ∃ A', sliced A k n c R.sz = .slice A' (n - k) (c - k) ∧ OwnO R w F (.slice A' (n - k) (c - k)) (xs.drop k) := by
  rcases h with ⟨A0, h1, rfl⟩ | ⟨g, off, cap, cur, h1, h2, h3, h4, h5, h6, h7⟩
  · simp only [Value.slice.injEq] at h1
    obtain ⟨rfl, rfl, rfl⟩ := h1
    obtain rfl : k = 0 := by omega
    exact ⟨_, rfl, .inl ⟨_, rfl, by simp⟩⟩
  · simp only [Value.slice.injEq] at h1
    obtain ⟨rfl, rfl, rfl⟩ := h1
    refine ⟨_, rfl, ?_⟩
    by_cases hc : c = k
    · subst hc
      have e : xs.length = c := by omega
      exact .inl ⟨_, by rw [e, Nat.sub_self], List.drop_eq_nil_of_le (by omega)⟩
    · refine .inr ⟨g, off + k * R.sz, c - k, cur, by rw [if_neg hc, Option.map_some, addr_add, List.length_drop], h2, h3, by rw [List.length_drop]; omega, by omega, ?_, ?_⟩
      · rw [h6, Nat.add_assoc, ← Nat.add_mul]
        congr 2
        omega
      · rw [← flatG_drop, ← h7, ← List.drop_drop, List.length_drop, List.drop_take, Nat.sub_mul]
theorem OwnO.cuth (h : OwnO R w F (.slice A n c) xs) (hk : k ≤ n) : ∃ A', sliced A 0 k c R.sz = .slice A' k c ∧ OwnO R w F (.slice A' k c) (xs.take k) := by
  rcases h with ⟨A0, h1, rfl⟩ | ⟨g, off, cap, cur, h1, h2, h3, h4, h5, h6, h7⟩
  · simp only [Value.slice.injEq] at h1
    obtain ⟨rfl, rfl, rfl⟩ := h1
    obtain rfl : k = 0 := by omega
    exact ⟨_, rfl, .inl ⟨_, rfl, by simp⟩⟩
  · simp only [Value.slice.injEq] at h1
    obtain ⟨rfl, rfl, rfl⟩ := h1
    have e : min k xs.length = k := Nat.min_eq_left hk
    refine ⟨if c = 0 then some ⟨g, off, none⟩ else (some (⟨g, off, none⟩ : Addr)).map (·.add (0 * R.sz)), by simp [sliced], .inr ⟨g, off, c, cur, ?_, h2, h3, by rw [List.length_take]; omega, h5, h6, ?_⟩⟩
    · rw [List.length_take, e]
      split
      · rfl
      · rw [Option.map_some, addr_add]; simp
    · rw [List.length_take, e, ← flatG_take, ← h7, List.take_take, Nat.min_eq_left (Nat.mul_le_mul_right _ hk)]
/-- A record stored. -/
theorem OwnO.at_ (h : OwnO R w F (.slice A n c) xs) (hi : k < n) : ∃ g off cur, A = some ⟨g, off, none⟩ ∧ F g ∧ Blk w g R.ty cur ∧ off + k * R.sz + R.sz ≤ cur.size ∧
    ∀ w' u, Blk w' g R.ty (lay cur (off + k * R.sz) (R.ls u).toArray) → OwnO R w' F (.slice A n c) (xs.set k u) := by
  rcases h with ⟨A0, h1, rfl⟩ | ⟨g, off, cap, cur, h1, h2, h3, h4, h5, h6, h7⟩
  · simp only [Value.slice.injEq] at h1
    omega
  · simp only [Value.slice.injEq] at h1
    obtain ⟨rfl, rfl, rfl⟩ := h1
    have hk : (k + 1) * R.sz ≤ xs.length * R.sz := Nat.mul_le_mul_right _ hi
    have hc : xs.length * R.sz ≤ c * R.sz := Nat.mul_le_mul_right _ h4
    rw [Nat.add_mul, Nat.one_mul] at hk
    refine ⟨g, off, cur, rfl, h2, h3, by rw [h6]; omega, fun w' u hB => .inr ⟨g, off, c, _, by rw [List.length_set], h2, hB, by rw [List.length_set]; exact h4, h5, ?_, ?_⟩⟩
    · rw [lay_size _ _ _ (by rw [List.size_toArray, R.len]; omega)]
      exact h6
    · have e2 : (cur.toList.take off).length = off := by rw [List.length_take, Array.length_toList, h6]; omega
      have e1 : cur.toList.take (off + k * R.sz) = cur.toList.take off ++ flatG R (xs.take k) := by
        rw [List.take_add, ← flatG_take, ← h7, List.take_take, Nat.min_eq_left (by omega)]
      have e3 : cur.toList.drop (off + k * R.sz + R.sz) = (cur.toList.drop off).drop ((k + 1) * R.sz) := by rw [List.drop_drop, Nat.add_mul, Nat.one_mul, Nat.add_assoc]
      have e4 : ((cur.toList.drop off).drop ((k + 1) * R.sz)).take (xs.length * R.sz - (k + 1) * R.sz) = flatG R (xs.drop (k + 1)) := by rw [← flatG_drop, ← h7, List.drop_take]
      have e5 : xs.set k u = xs.take k ++ u :: xs.drop (k + 1) := List.set_eq_take_append_cons_drop .. |>.trans (if_pos hi)
      unfold lay
      simp only [List.size_toArray, R.len]
      rw [List.length_set, e1, e3, e5, flatG_append, flatG_cons, List.append_assoc, List.append_assoc, List.drop_append, e2, Nat.sub_self, List.drop_zero, List.drop_eq_nil_of_le (Nat.le_of_eq e2), List.nil_append, ← List.append_assoc, List.take_append, List.take_of_length_le (by rw [List.length_append, flatG_len, List.length_take, R.len, Nat.min_eq_left (by omega)]; omega), List.append_assoc, ← e4]
      congr 3
      rw [List.length_append, flatG_len, List.length_take, R.len, Nat.min_eq_left (by omega), Nat.add_mul, Nat.one_mul]
section
variable {ρ : Operand → Value} {o : Oper} {x y : Operand}
theorem szG (w : World) : (sizeOf R.ty).run Tryd.prog w = .ok R.sz w := by
  obtain ⟨i, hi, _, hs, _⟩ := info_parts R.info
  simp [sizeOf, typeInfo, hi, hs]
theorem elemG : Tryd.prog.elem R.sl = R.ty := by simp [Program.elem, R.und]
theorem undG : Tryd.prog.underlying R.sl = some (.slice (Tryd.prog.elem R.sl)) := by rw [elemG]; exact R.und
theorem rg_cuth {v : Value} (h : o.op = .slice R.sl x none (some y) none) (hx : ρ x = .slice A n c) (hy : ρ y = .int .i64 k) (hk : k ≤ c) (hv : sliced A 0 k c R.sz = v) (w : World) : (execOp ρ o).run Tryd.prog w = .ok (.value v) w := by
  subst hv
  have e : (Instr.sliceAt R.sl (.slice A n c) none (some (.int .i64 k)) none).run Tryd.prog w = .ok (sliced A 0 k c R.sz) w := by
    rw [run_sliceAt_slice w _ _ _ _ _ undG, run_slice_h w _ A n c undG .i64 k (by omega) (by omega), elemG, szG]
    simp
  unfold execOp
  simp only [h, hx, Option.map_some, Option.map_none, hy, e, Sem.run_bind, Sem.run_pure, Result.andThen_ok]
theorem rg_cutl {v : Value} (h : o.op = .slice R.sl x (some y) none none) (hx : ρ x = .slice A n c) (hy : ρ y = .int .i64 k) (hk : k ≤ n) (hv : sliced A k n c R.sz = v) (w : World) : (execOp ρ o).run Tryd.prog w = .ok (.value v) w := by
  subst hv
  have e : (Instr.sliceAt R.sl (.slice A n c) (some (.int .i64 k)) none none).run Tryd.prog w = .ok (sliced A k n c R.sz) w := by
    rw [run_sliceAt_slice w _ _ _ _ _ undG, run_slice_l w _ A n c undG .i64 k (by omega) (by omega), elemG, szG]
    simp
  unfold execOp
  simp only [h, hx, Option.map_some, Option.map_none, hy, e, Sem.run_bind, Sem.run_pure, Result.andThen_ok]
theorem rg_append (hO : OwnO R w F v xs) {b m cx : Nat} {B : Option Addr} {news : List α} (hr : RdG R w b B m news) (hm : 0 < m) (hnm : xs.length + m ≤ 100000000)
    (h : o.op = .call { callee := .builtin .append, args := #[x, y], argTypes := #[R.sl, R.sl] }) (hx : ρ x = v) (hy : ρ y = .slice B m cx) :
    ∃ v' w', (execOp ρ o).run Tryd.prog w = .ok (.value v') w' ∧ (∃ A' c', v' = .slice A' (xs ++ news).length c' ∧ (xs ++ news).length ≤ c') ∧ Fr F w w' ∧ ∃ F', OwnO R w' F' v' (xs ++ news) ∧ ∀ k, F' k → F k ∨ (w.heap.size ≤ k ∧ k < w'.heap.size) := by
  obtain ⟨v', w', hrun, h2⟩ := run_appO o.type hO hr hm hnm (cx := cx)
  refine ⟨v', w', ?_, h2⟩
  unfold execOp
  simp only [h, resolve, invoke, builtin, Sem.run_bind, Sem.run_pure, Result.andThen_ok, List.map_toArray, List.map_cons, List.map_nil, hx, hy, hrun]
/-- clear of a part of a row. -/
theorem zeros_flat {z0 : α} (hz0 : R.z.cells.toList = R.ls z0) (m : Nat) : (Builtin.zeroCells R.z.cells m).toList = flatG R (List.replicate m z0) := by
  have hsz : R.z.cells.size = R.sz := R.zc
  have hpos := R.pos
  apply List.ext_getElem?
  intro j
  by_cases hj : j < m * R.sz
  · have hi : j / R.sz < m := Nat.div_lt_of_lt_mul (by rw [Nat.mul_comm]; exact hj)
    have hmd : j % R.sz < R.sz := Nat.mod_lt _ hpos
    have e := flatG_at R (List.replicate m z0) (j / R.sz) (j % R.sz) (by simpa using hi) hmd
    rw [show j / R.sz * R.sz + j % R.sz = j by rw [Nat.mul_comm]; exact Nat.div_add_mod j R.sz] at e
    rw [e, List.getElem_replicate, ← hz0, Array.getElem?_toList, Array.getElem?_toList, Array.getElem?_eq_getElem (by rw [zeroCells_size, hsz]; exact hj), Array.getElem?_eq_getElem (by rw [hsz]; exact hmd)]
    simp only [Builtin.zeroCells, Array.getElem_map, Array.getElem_range, hsz]
    rw [getElem!_pos R.z.cells (j % R.sz) (by rw [hsz]; exact hmd)]
  · rw [List.getElem?_eq_none (by rw [Array.length_toList, zeroCells_size, hsz]; omega), List.getElem?_eq_none (by rw [flatG_len, List.length_replicate]; omega)]
theorem OwnO.part {z : List α} (hO : OwnO R w F (.slice A n c) xs) (hn : 0 < n) (hkm : k + z.length ≤ n) : ∃ g off cur, A = some ⟨g, off, none⟩ ∧ F g ∧ Blk w g R.ty cur ∧ off + k * R.sz + z.length * R.sz ≤ cur.size ∧
    ∀ w', Blk w' g R.ty (cur.toList.take (off + k * R.sz) ++ flatG R z ++ cur.toList.drop (off + k * R.sz + z.length * R.sz)).toArray → OwnO R w' F (.slice A n c) (xs.take k ++ z ++ xs.drop (k + z.length)) := by
  rcases hO with ⟨A0, h1, rfl⟩ | ⟨g, off, cap, cur, h1, h2, h3, h4, h5, h6, h7⟩
  · simp only [Value.slice.injEq] at h1
    omega
  · simp only [Value.slice.injEq] at h1
    obtain ⟨rfl, rfl, rfl⟩ := h1
    have hk : (k + z.length) * R.sz ≤ xs.length * R.sz := Nat.mul_le_mul_right _ hkm
    have hc : xs.length * R.sz ≤ c * R.sz := Nat.mul_le_mul_right _ h4
    rw [Nat.add_mul] at hk
    have hl : (xs.take k ++ z ++ xs.drop (k + z.length)).length = xs.length := by simp only [List.length_append, List.length_take, List.length_drop]; omega
    refine ⟨g, off, cur, rfl, h2, h3, by rw [h6]; omega, fun w' hB => .inr ⟨g, off, c, _, by rw [hl], h2, hB, by rw [hl]; exact h4, h5, ?_, ?_⟩⟩
    · simp only [List.size_toArray, List.length_append, List.length_take, List.length_drop, Array.length_toList, flatG_len]
      omega
    · have e2 : (cur.toList.take off).length = off := by rw [List.length_take, Array.length_toList, h6]; omega
      have e1 : cur.toList.take (off + k * R.sz) = cur.toList.take off ++ flatG R (xs.take k) := by
        rw [List.take_add, ← flatG_take, ← h7, List.take_take, Nat.min_eq_left (by omega)]
      have e3 : cur.toList.drop (off + k * R.sz + z.length * R.sz) = (cur.toList.drop off).drop ((k + z.length) * R.sz) := by rw [List.drop_drop, Nat.add_mul, Nat.add_assoc]
      have e4 : ((cur.toList.drop off).drop ((k + z.length) * R.sz)).take (xs.length * R.sz - (k + z.length) * R.sz) = flatG R (xs.drop (k + z.length)) := by rw [← flatG_drop, ← h7, List.drop_take]
      have e6 : (flatG R (xs.take k) ++ flatG R z).length = (k + z.length) * R.sz := by rw [List.length_append, flatG_len, flatG_len, List.length_take, Nat.min_eq_left (by omega), Nat.add_mul]
      rw [hl, e1, e3, flatG_append, flatG_append]
      simp only [List.append_assoc]
      rw [List.drop_append, e2, Nat.sub_self, List.drop_zero, List.drop_eq_nil_of_le (Nat.le_of_eq e2), List.nil_append, ← List.append_assoc, List.take_append, e6, List.take_of_length_le (by rw [e6, Nat.add_mul]; omega), e4, List.append_assoc]
theorem rg_clear {z0 : α} (hz0 : R.z.cells.toList = R.ls z0) (hO : OwnO R w F (.slice A n c) xs) {B : Option Addr} {m cx : Nat} (hB : ∀ g off, 0 < m → A = some ⟨g, off, none⟩ → B = some ⟨g, off + k * R.sz, none⟩) (hkm : k + m ≤ n)
    (h : o.op = .call { callee := .builtin .clear, args := #[x], argTypes := #[R.sl] }) (hx : ρ x = .slice B m cx) :
    ∃ v' w', (execOp ρ o).run Tryd.prog w = .ok (.value v') w' ∧ v' = .tuple #[] ∧ Fr F w w' ∧ OwnO R w' F (.slice A n c) (xs.take k ++ List.replicate m z0 ++ xs.drop (k + m)) ∧ w'.heap.size = w.heap.size := by
  obtain ⟨i, hi, hz, hsize, hby⟩ := info_parts R.info
  have hu := R.und
  have hrunOf : ∀ w', (Builtin.clear_ #[R.sl] o.type #[.slice B m cx]).run Tryd.prog w = .ok (.tuple #[]) w' → (execOp ρ o).run Tryd.prog w = .ok (.value (.tuple #[])) w' := fun w' e => by
    unfold execOp
    simp only [h, resolve, invoke, builtin, Sem.run_bind, Sem.run_pure, Result.andThen_ok, List.map_toArray, List.map_cons, List.map_nil, hx, e]
  rcases Nat.eq_zero_or_pos m with rfl | hm
  · refine ⟨_, w, hrunOf w ?_, rfl, Fr.refl _ _, ?_, rfl⟩
    · cases B <;> simp [Builtin.clear_, run_underlying hu]
    · rw [List.replicate_zero, List.append_nil, Nat.add_zero, List.take_append_drop]
      exact hO
  · obtain ⟨g, off, cur, rfl, h2, h3, h4, h5⟩ := hO.part (z := List.replicate m z0) (k := k) (by omega) (by rw [List.length_replicate]; exact hkm)
    obtain rfl := hB g off hm rfl
    rw [List.length_replicate] at h4 h5
    have hst := run_storeCells_at Tryd.prog g (off + k * R.sz) R.ty (flatG R (List.replicate m z0)) 0 cur w h3 (by rw [flatG_len, List.length_replicate]; omega) (flatG_one R _)
    simp only [Nat.add_zero] at hst
    refine ⟨_, _, hrunOf _ ?_, rfl, (fr_setRow w g _).weak (fun k _ hk => by subst hk; exact h2), h5 _ (by
      have := setRow_heap w g cur (cur.toList.take (off + k * R.sz) ++ flatG R (List.replicate m z0) ++ cur.toList.drop (off + k * R.sz + (flatG R (List.replicate m z0)).length)).toArray R.ty _ h3
      rw [flatG_len, List.length_replicate] at this
      exact this), by simp⟩
    obtain ⟨q, rfl⟩ : ∃ q, m = q + 1 := ⟨m - 1, by omega⟩
    rw [flatG_len, List.length_replicate] at hst
    simp [Builtin.clear_, run_underlying hu, zeroValue, typeInfo, hi, hz, zeros_flat hz0, hst]
/-- A row made of zeros. -/
theorem rg_make {z0 : α} (hz0 : R.z.cells.toList = R.ls z0) (h : o.op = .makeSlice R.sl x y) (hx : ρ x = .int .i64 c) (hy : ρ y = .int .i64 c) (hc : c ≤ 1000000) :
    ∃ v' w', (execOp ρ o).run Tryd.prog w = .ok (.value v') w' ∧ v' = .slice (some ⟨w.heap.size, 0, none⟩) c c ∧ New w w' ∧ OwnO R w' (fun k => k = w.heap.size) (.slice (some ⟨w.heap.size, 0, none⟩) c c) (List.replicate c z0) ∧ w'.heap.size = w.heap.size + 1 := by
  obtain ⟨i, hi, hz, hsize, hby⟩ := info_parts R.info
  have hby' : i.bytes * c ≤ 281474976710656 := by rw [hby]; exact Nat.le_trans (Nat.mul_le_mul R.small hc) (by decide)
  have hrun := run_make (P := Tryd.prog) w R.sl R.ty i _ R.und hi hz .i64 .i64 (c : Int) (c : Int) (by omega) (by omega) (by rw [← Int.natCast_mul]; generalize i.bytes * c = m at *; omega) (by omega)
  rw [Int.toNat_natCast, hsize] at hrun
  have hcs : (madeCells R.z.cells (c * R.sz)).toList = flatG R (List.replicate c z0) := by
    rw [← zeros_flat hz0]
    unfold madeCells Builtin.zeroCells
    rw [R.zc]
  refine ⟨_, w.alloc (.cells (madeCells R.z.cells (c * R.sz)) R.ty), ?_, rfl, New.alloc _, .inr ⟨w.heap.size, 0, c, _, by rw [List.length_replicate], rfl, Blk.new w _ _, by rw [List.length_replicate]; exact Nat.le_refl _, by unfold maxLen; omega, by rw [size_madeCells, Nat.zero_add], ?_⟩, by simp⟩
  · unfold execOp
    simp only [h, hx, hy, Sem.run_bind, hrun, Result.andThen_ok, Sem.run_pure]
  · rw [List.drop_zero, hcs, List.take_of_length_le (by rw [flatG_len]; exact Nat.le_refl _)]
end
end
end Go.Proofs.YtlpjhaghphmbeaaDoor
namespace Go.Proofs.YtlpjhaghphmbeaaDoor
open Go.RowKit

/-- A line as it lies in memory, and as it is meant. -/
structure LV where
  A : Option Addr
  n : Nat
  c : Nat
  s : Bool
abbrev LV.v (x : LV) : Value := .slice x.A x.n x.c
abbrev Ln := List Ce × Bool
def LV.ls (x : LV) : List Value := [x.v, .bool x.s]
def rL : Rec LV where
  sz := 2
  ty := 36
  sl := 30
  ls := LV.ls
  z := .agg #[.slice none 0 0, .bool false]
  by_ := 32
  len _ := rfl
  pos := by decide
  one x u hu := by
    simp only [LV.ls, List.mem_cons, List.not_mem_nil, or_false] at hu
    rcases hu with rfl | rfl <;> rfl
  info := by kernel_rfl
  zc := rfl
  small := by decide
  und := Tryd.underlying30
  row _ := ⟨_, undL, rfl⟩
def zL : LV := ⟨none, 0, 0, false⟩
theorem zL_ls : rL.z.cells.toList = rL.ls zL := rfl

/-- What is read of a slice of cells, and in which block. -/
def SlF (w : World) (F : FP) (v : Value) (l : List Ce) : Prop := ∃ A c b, v = .slice A l.length c ∧ l.length ≤ c ∧ RdC w b A l.length l ∧ (0 < l.length → F b)
section
variable {w w' : World} {F G S : FP} {v : Value} {l : List Ce}
theorem SlF.sl (h : SlF w F v l) : SlC w v l := by
  obtain ⟨A, c, b, h1, h2, h3, _⟩ := h
  exact ⟨A, c, b, h1, h2, h3⟩
theorem SlF.up (h : SlF w F v l) (hs : ∀ k, F k → G k) : SlF w G v l := by
  obtain ⟨A, c, b, h1, h2, h3, h4⟩ := h
  exact ⟨A, c, b, h1, h2, h3, fun h => hs _ (h4 h)⟩
theorem SlF.fr (h : SlF w F v l) (hf : Fr S w w') (hn : ∀ k, F k → ¬ S k) : SlF w' F v l := by
  obtain ⟨A, c, b, h1, h2, h3, h4⟩ := h
  refine ⟨A, c, b, h1, h2, ⟨h3.1, fun h0 => ?_⟩, h4⟩
  exact (h3.fr hf (hn b (h4 h0))).2 h0
theorem SlC.f (h : SlC w v l) : SlF w (fun _ => True) v l := by
  obtain ⟨A, c, b, h1, h2, h3⟩ := h
  exact ⟨A, c, b, h1, h2, h3, fun _ => trivial⟩
theorem SlC.fl (h : SlC w v l) : SlF w (fun k => k < w.heap.size) v l := by
  obtain ⟨A, c, b, h1, h2, h3⟩ := h
  refine ⟨A, c, b, h1, h2, h3, fun h => ?_⟩
  obtain ⟨o, _, hb, _⟩ := h3.2 h
  exact hb
theorem SlC.shape (h : SlC w v l) : ∃ A c, v = .slice A l.length c := by
  obtain ⟨A, c, b, h1, _⟩ := h
  exact ⟨A, c, h1⟩
end

/-- A row of cells of its own. -/
def cellsD (v : Value) (l : List Ce) : Dat where
  P w F := OwnC w 0 v l.length l ∧ ∀ k, v.ownBlock = some k → F k
  fr h hf hn := ⟨own_fr h.1 hf (fun k hk => hn k (h.2 k hk)), h.2⟩
  up h hs := ⟨h.1, fun k hk => hs k (h.2 k hk)⟩
theorem cells_nil (w : World) (F : FP) : (cellsD (.slice none 0 0) []).P w F := ⟨own_nil w 0, fun k hk => by simp [Value.ownBlock] at hk⟩
theorem cells_f {w : World} {F : FP} {v : Value} {l : List Ce} (h : (cellsD v l).P w F) : SlF w F v l := by
  obtain ⟨b, A, c, rfl, h2, h3⟩ := own_rdg (R := rC) h.1
  refine ⟨A, c, b, rfl, h2, rdc_of h3, fun h0 => ?_⟩
  obtain ⟨o, rfl, _⟩ := h3.2 h0
  exact h.2 b rfl
theorem cells_sl {w : World} {F : FP} {v : Value} {l : List Ce} (h : (cellsD v l).P w F) : SlC w v l := (cells_f h).sl
theorem own_zero {w : World} {base n : Nat} {v : Value} {l : List Ce} (h : OwnC w base v n l) : OwnC w 0 v n l := by
  refine ⟨h.1, h.2.imp id ?_⟩
  rintro ⟨g, cap, cur, h1, _, h3⟩
  exact ⟨g, cap, cur, h1, Nat.zero_le _, h3⟩
/-- What a copy of the kit's way says, as a datum. -/
theorem made_cellsD {w w' : World} {A : Option Addr} {c : Nat} {l : List Ce} (h : OwnC w' w.heap.size (.slice A l.length c) l.length l) (hn : New w w') : Made [cellsD (.slice A l.length c) l] w w' :=
  ⟨hn, fun k => w.heap.size ≤ k ∧ k < w'.heap.size, SepL.one ⟨own_zero h, fun k hk => ⟨own_blk h k hk, own_lt h k hk⟩⟩, fun _ hk => .inr hk⟩
/-- A block of cells as a datum. -/
theorem blk_cells {w : World} {g : Nat} {cs : Array Value} {l : List Ce} (hB : Blk w g 95 cs) (hc : cs.toList = flatC l) (hl : l.length ≤ 1000000) : (cellsD (.slice (some ⟨g, 0, none⟩) l.length l.length) l).P w (fun k => k = g) := by
  have hs : cs.size = l.length * 16 := by rw [← Array.length_toList, hc, flatC_len]
  refine ⟨⟨by rw [flatG_len]; rfl, .inr ⟨g, l.length, cs, rfl, Nat.zero_le _, hB, Nat.le_refl _, by unfold maxLen; omega, hs, ?_⟩⟩, fun k hk => by simpa [Value.ownBlock] using hk.symm⟩
  rw [hc, List.take_of_length_le (by rw [flatC_len]; exact Nat.le_refl _)]
  rfl
theorem made_ln {l : List Ce} {s : Bool} {w w' : World} {e : Ending} (h : LnSaid l s w e w') : ∃ A c, e = .returned (.agg #[.slice A l.length c, .bool s]) ∧ Made [cellsD (.slice A l.length c) l] w w' := by
  obtain ⟨⟨A, c, h1, h2⟩, h3⟩ := h
  exact ⟨A, c, h1, made_cellsD h2 h3⟩
theorem copy_d (x : Value) (l : List Ce) (so : Bool) (hn : l.length ≤ 1000000) (w : World) (hx : SlC w x l) : Calls Tryd.prog 65 #[.agg #[x, .bool so]] w fun e w' => ∃ A c, e = .returned (.agg #[.slice A l.length c, .bool so]) ∧ Made [cellsD (.slice A l.length c) l] w w' :=
  (copy_l x l so hn w hx).mono (fun _ _ h => made_ln h)
theorem rcopy_d (x : Value) (l : List Ce) (so : Bool) (hn : l.length ≤ 1000000) (w : World) (hx : SlC w x l) : Calls Tryd.prog 34 #[.agg #[x, .bool so]] w fun e w' => ∃ A c, e = .returned (.agg #[.slice A l.length c, .bool so]) ∧ Made [cellsD (.slice A l.length c) l] w w' :=
  (rcopy_l x l so hn w hx).mono (fun _ _ h => made_ln h)
section
variable {ρ : Operand → Value} {o : Oper} {x y : Operand}
theorem rn_ldLn {w : World} {b off o0 i n : Nat} {xs : List LV} {A : Option Addr} {n' c : Nat} {s : Bool} (h : o.op = .load 36 x) (hx : ρ x = .pointer (some ⟨b, off, none⟩)) (hr : RdG rL w b (some ⟨b, o0, none⟩) n xs) (hoff : off = o0 + i * 2) (hc : xs[i]? = some ⟨A, n', c, s⟩) :
    (execOp ρ o).run Tryd.prog w = .ok (.value (.agg #[.slice A n' c, .bool s])) w := rn_loadG hr h hx hoff hc
theorem rn_ldLn0 {w : World} {b off o0 i n : Nat} {xs : List LV} {A : Option Addr} {n' c : Nat} {s : Bool} (h : o.op = .load 34 x) (hx : ρ x = .pointer (some ⟨b, off, none⟩)) (hr : RdG rL w b (some ⟨b, o0, none⟩) n xs) (hoff : off = o0 + i * 2 + 0) (hc : xs[i]? = some ⟨A, n', c, s⟩) :
    (execOp ρ o).run Tryd.prog w = .ok (.value (.slice A n' c)) w := by
  have hcell := (hr.cells hc) 0 (.slice A n' c) rfl
  subst hoff
  unfold execOp
  simp only [h, hx, run_loadS w (show w.cell? ⟨b, o0 + i * 2 + 0, none⟩ = _ from hcell), Sem.run_bind, Sem.run_pure, Result.andThen_ok]
theorem rn_bsL1 {A : Option Addr} {n c : Nat} {s : Bool} (h : o.op = .buildSlice 30 1 #[(0, x)]) (hx : ρ x = .agg #[.slice A n c, .bool s]) (w : World) : (execOp ρ o).run Tryd.prog w = .ok (.value (.slice (some ⟨w.heap.size, 0, none⟩) 1 1)) (w.alloc (.cells #[.slice A n c, .bool s] 36)) := by
  have e : (Instr.buildSlice 30 1 #[(0, .agg #[.slice A n c, .bool s])]).run Tryd.prog w = .ok (.slice (some ⟨w.heap.size, 0, none⟩) 1 1) (w.alloc (.cells #[.slice A n c, .bool s] 36)) := by kernel_rfl
  unfold execOp
  simp only [h, List.map_toArray, List.map_cons, List.map_nil, hx, Sem.run_bind, e, Result.andThen_ok, Sem.run_pure]
end
/-- Stain leaves nothing of a row of cells. -/
theorem stain_d {w : World} {F : FP} {A : Option Addr} {n c : Nat} {l : List Ce} (h : (cellsD (.slice A n c) l).P w F) (hn : l.length ≤ 1000000) :
    Calls Tryd.prog 37 #[.slice A n c] w fun e w' => e = .returned (.tuple #[]) ∧ Turned [] F w w' := by
  obtain ⟨A', c', h1⟩ := (cells_sl h).shape
  simp only [Value.slice.injEq] at h1
  obtain ⟨rfl, rfl, rfl⟩ := h1
  exact (stainP h.1 hn).mono (fun e w' k => ⟨k.1, Turned.nil (k.2.weak (fun i _ hi => h.2 i hi))⟩)

/-- A row of lines that may be written; its lines' cells are not of it. -/
def rowD (v : Value) (xs : List LV) : Dat where
  P w F := OwnO rL w F v xs
  fr h hf hn := h.fr hf hn
  up h hs := h.up hs
def elsL (xs : List LV) (L : List Ln) : List Dat := List.zipWith (fun x l => cellsD x.v l.1) xs L
/-- The cells of lines. -/
def elsD (xs : List LV) (L : List Ln) : Dat where
  P w F := xs.length = L.length ∧ (∀ (i : Nat) (x : LV) (l : Ln), xs[i]? = some x → L[i]? = some l → x.s = l.2) ∧ SepL (elsL xs L) w F
  fr h hf hn := ⟨h.1, h.2.1, h.2.2.fr hf hn⟩
  up h hs := ⟨h.1, h.2.1, h.2.2.up hs⟩
section
variable {w : World} {F G : FP} {xs ys : List LV} {L M : List Ln} {x : LV} {l : Ln}
theorem els_nil (w : World) (F : FP) : (elsD [] []).P w F := ⟨rfl, fun i x l h => by simp at h, trivial⟩
theorem els_one (h : (cellsD x.v l.1).P w F) (hs : x.s = l.2) : (elsD [x] [l]).P w F := ⟨rfl, fun i y m h1 h2 => by
  cases i with
  | zero => simp at h1 h2; subst h1 h2; exact hs
  | succ i => simp at h1, SepL.one h⟩
theorem els_app (h : SepL [elsD xs L, elsD ys M] w G) : (elsD (xs ++ ys) (L ++ M)).P w G := by
  obtain ⟨X, Y, ⟨h1, h2, h3⟩, k, h4, h5, h6⟩ := h
  obtain ⟨k1, k2, k3⟩ := k.the
  refine ⟨by simp [h1, k1], fun i x l hx hl => ?_, ?_⟩
  · rcases Nat.lt_or_ge i xs.length with hi | hi
    · rw [List.getElem?_append_left hi] at hx
      rw [List.getElem?_append_left (by omega)] at hl
      exact h2 i x l hx hl
    · rw [List.getElem?_append_right hi] at hx
      rw [List.getElem?_append_right (by omega), ← h1] at hl
      exact k2 _ x l hx hl
  · unfold elsL
    rw [List.zipWith_append h1]
    exact (h3.append k3 h4).up (fun k hk => hk.elim (h5 k) (h6 k))
theorem els_snoc (h : SepL [elsD xs L, cellsD x.v l.1] w G) (hs : x.s = l.2) : (elsD (xs ++ [x]) (L ++ [l])).P w G := by
  obtain ⟨X, Y, h1, k, h4, h5, h6⟩ := h
  exact els_app ⟨X, Y, h1, SepL.one (els_one k.the hs), h4, h5, h6⟩
theorem els_cut (h : (elsD xs L).P w G) (k : Nat) : SepL [elsD (xs.take k) (L.take k), elsD (xs.drop k) (L.drop k)] w G := by
  obtain ⟨h1, h2, h3⟩ := h
  have e : elsL xs L = elsL (xs.take k) (L.take k) ++ elsL (xs.drop k) (L.drop k) := by
    unfold elsL
    rw [← List.zipWith_append (by simp [h1]), List.take_append_drop, List.take_append_drop]
  rw [e] at h3
  obtain ⟨X, Y, k1, k2, k3, k4, k5⟩ := h3.split
  refine ⟨X, Y, ⟨by simp [h1], fun i x l hx hl => ?_, k1⟩, SepL.one ⟨by simp [h1], fun i x l hx hl => ?_, k2⟩, k3, k4, k5⟩
  · rw [List.getElem?_take] at hx hl
    split at hx
    · rename_i hi
      rw [if_pos hi] at hl
      exact h2 i x l hx hl
    · cases hx
  · rw [List.getElem?_drop] at hx hl
    exact h2 _ x l hx hl
theorem els_drop (h : (elsD xs L).P w G) (k : Nat) : (elsD (xs.drop k) (L.drop k)).P w G := by
  obtain ⟨X, Y, h1, h2, h3, h4, h5⟩ := els_cut h k
  exact (elsD _ _).up h2.the h5
theorem els_head (h : (elsD (x :: xs) (l :: L)).P w G) : x.s = l.2 ∧ SepL [cellsD x.v l.1, elsD xs L] w G := by
  obtain ⟨h1, h2, X, Y, h3, h4, h5, h6, h7⟩ := h
  exact ⟨h2 0 x l rfl rfl, X, Y, h3, SepL.one ⟨by simpa using h1, fun i x l hx hl => h2 (i + 1) x l (by simpa using hx) (by simpa using hl), h4⟩, h5, h6, h7⟩
/-- The line with an index, and the others. -/
theorem els_get {i : Nat} (h : (elsD xs L).P w G) (hx : xs[i]? = some x) (hl : L[i]? = some l) : x.s = l.2 ∧ SlF w G x.v l.1 := by
  have h' := els_drop h i
  obtain ⟨hi, rfl⟩ := List.getElem?_eq_some_iff.1 hx
  obtain ⟨hj, rfl⟩ := List.getElem?_eq_some_iff.1 hl
  rw [List.drop_eq_getElem_cons hi, List.drop_eq_getElem_cons hj] at h'
  obtain ⟨h1, X, Y, h2, _, _, h5, _⟩ := els_head h'
  exact ⟨h1, (cells_f h2).up h5⟩
theorem els_set {i : Nat} (h : SepL [cellsD x.v l.1, elsD xs L] w G) (hs : x.s = l.2) (hi : i < xs.length) : (elsD (xs.set i x) (L.set i l)).P w G := by
  obtain ⟨X, Y, h1, k, h3, h4, h5⟩ := h
  have hk := k.the
  have hlen := hk.1
  obtain ⟨Y1, Y2, c1, c2, c3, c4, c5⟩ := els_cut hk i
  have c2' := els_drop c2.the 1
  rw [List.drop_drop, List.drop_drop] at c2'
  have e1 : xs.set i x = xs.take i ++ ([x] ++ xs.drop (i + 1)) := (List.set_eq_take_append_cons_drop ..).trans (if_pos hi)
  have e2 : L.set i l = L.take i ++ ([l] ++ L.drop (i + 1)) := (List.set_eq_take_append_cons_drop ..).trans (if_pos (by omega))
  rw [e1, e2]
  refine (elsD _ _).up (F := fun k => Y1 k ∨ (X k ∨ Y2 k)) (els_app (SepL.two c1 (els_app (SepL.two (els_one h1 hs) c2' (fun k hx hy => h3 k hx (c5 k hy)))) (fun k hk hx => ?_))) (fun k hk => ?_)
  · rcases hx with hx | hx
    · exact h3 k hx (c4 k hk)
    · exact c3 k hk hx
  · rcases hk with hk | hk | hk
    · exact h5 k (c4 k hk)
    · exact h4 k hk
    · exact h5 k (c5 k hk)
theorem els_zero (w : World) (F : FP) (n : Nat) : (elsD (List.replicate n zL) (List.replicate n ([], false))).P w F := by
  induction n with
  | zero => exact els_nil w F
  | succ n ih =>
    refine ⟨by simp, fun i x l hx hl => ?_, ?_⟩
    · rw [List.getElem?_replicate] at hx hl
      split at hx
      · rename_i hi
        rw [if_pos hi] at hl
        simp only [Option.some.injEq] at hx hl
        subst hx hl
        rfl
      · cases hx
    · exact ⟨fun _ => False, F, cells_nil w _, ih.2.2, fun _ h => h.elim, fun _ h => h.elim, fun _ h => h⟩
end

/-- What is read of a slice of lines. -/
def LnsF (w : World) (F : FP) (v : Value) (L : List Ln) : Prop :=
  ∃ A c b xs, v = .slice A L.length c ∧ L.length ≤ c ∧ RdG rL w b A L.length xs ∧ (0 < L.length → F b) ∧ ∀ (i : Nat) (x : LV) (l : Ln), xs[i]? = some x → L[i]? = some l → x.s = l.2 ∧ SlF w F x.v l.1
abbrev LnsR (w : World) (v : Value) (L : List Ln) : Prop := LnsF w (fun _ => True) v L
section
variable {w w' : World} {F G S : FP} {v : Value} {L : List Ln} {xs : List LV}
theorem LnsF.up (h : LnsF w F v L) (hs : ∀ k, F k → G k) : LnsF w G v L := by
  obtain ⟨A, c, b, xs, h1, h2, h3, h4, h5⟩ := h
  exact ⟨A, c, b, xs, h1, h2, h3, fun h => hs _ (h4 h), fun i x l hx hl => ⟨(h5 i x l hx hl).1, (h5 i x l hx hl).2.up hs⟩⟩
theorem LnsF.r (h : LnsF w F v L) : LnsR w v L := h.up (fun _ _ => trivial)
theorem LnsF.fr (h : LnsF w F v L) (hf : Fr S w w') (hn : ∀ k, F k → ¬ S k) : LnsF w' F v L := by
  obtain ⟨A, c, b, xs, h1, h2, h3, h4, h5⟩ := h
  refine ⟨A, c, b, xs, h1, h2, ⟨h3.1, fun h0 => ?_⟩, h4, fun i x l hx hl => ⟨(h5 i x l hx hl).1, (h5 i x l hx hl).2.fr hf hn⟩⟩
  exact (h3.fr hf (hn b (h4 h0))).2 h0
theorem LnsF.new (h : LnsF w F v L) (hn : New w w') : LnsF w' F v L := h.fr hn (fun _ _ h => h)
theorem LnsF.shape (h : LnsF w F v L) : ∃ A c, v = .slice A L.length c ∧ L.length ≤ c := by
  obtain ⟨A, c, b, xs, h1, h2, _⟩ := h
  exact ⟨A, c, h1, h2⟩
theorem LnsF.nil (w : World) (F : FP) : LnsF w F (.slice none 0 0) [] := ⟨none, 0, 0, [], rfl, Nat.le_refl _, RdG.nil _ _ _, fun h => absurd h (by simp), fun i x l h => by simp at h⟩
theorem own_lns (ho : OwnO rL w F v xs) (he : (elsD xs L).P w G) : LnsF w (fun k => F k ∨ G k) v L := by
  obtain ⟨A, c, rfl, hc⟩ := ho.shape
  obtain ⟨b, hr, hn, hc, hb⟩ := ho.rdg
  have hl := he.1
  refine ⟨A, c, b, xs, by rw [hl], by omega, hl ▸ hr, fun h => .inl (hb (by omega)), fun i x l hx hl => ?_⟩
  obtain ⟨h1, h2⟩ := els_get he hx hl
  exact ⟨h1, h2.up (fun _ h => .inr h)⟩
/-- The cells of lines, read alone. -/
def rdX (xs : List LV) (L : List Ln) : Dat where
  P w F := xs.length = L.length ∧ ∀ (i : Nat) (x : LV) (l : Ln), xs[i]? = some x → L[i]? = some l → x.s = l.2 ∧ SlF w F x.v l.1
  fr h hf hn := ⟨h.1, fun i x l hx hl => ⟨(h.2 i x l hx hl).1, (h.2 i x l hx hl).2.fr hf hn⟩⟩
  up h hs := ⟨h.1, fun i x l hx hl => ⟨(h.2 i x l hx hl).1, (h.2 i x l hx hl).2.up hs⟩⟩
theorem rdX_take {xs : List LV} {L : List Ln} {w : World} {F : FP} (h : (rdX xs L).P w F) (k : Nat) : (rdX (xs.take k) (L.take k)).P w F := ⟨by simp [h.1], fun i x l hx hl => by
  rw [List.getElem?_take] at hx hl
  split at hx
  · rename_i hi
    rw [if_pos hi] at hl
    exact h.2 i x l hx hl
  · cases hx⟩
theorem rdX_snoc {xs : List LV} {L : List Ln} {x : LV} {l : Ln} {w : World} {F : FP} (h : (rdX xs L).P w F) (hx : SlF w F x.v l.1) (hs : x.s = l.2) : (rdX (xs ++ [x]) (L ++ [l])).P w F := ⟨by simp [h.1], fun i y m hy hm => by
  have h1 := h.1
  rcases Nat.lt_trichotomy i xs.length with hi | hi | hi
  · rw [List.getElem?_append_left hi] at hy
    rw [List.getElem?_append_left (by omega)] at hm
    exact h.2 i y m hy hm
  · subst hi
    rw [List.getElem?_append_right (Nat.le_refl _), Nat.sub_self] at hy
    rw [List.getElem?_append_right (by omega), h1, Nat.sub_self] at hm
    simp at hy hm
    subst hy hm
    exact ⟨hs, hx⟩
  · rw [List.getElem?_eq_none (by simp; omega)] at hy
    cases hy⟩
theorem rdX_set {xs : List LV} {L : List Ln} {x : LV} {l : Ln} {w : World} {F : FP} (h : (rdX xs L).P w F) (hx : SlF w F x.v l.1) (hs : x.s = l.2) (k : Nat) : (rdX (xs.set k x) (L.set k l)).P w F := ⟨by simp [h.1], fun i y m hy hm => by
  rw [List.getElem?_set] at hy hm
  split at hy
  · rename_i hi
    rw [if_pos hi] at hm
    split at hy
    · split at hm
      · simp at hy hm
        subst hy hm
        exact ⟨hs, hx⟩
      · cases hm
    · cases hy
  · rename_i hi
    rw [if_neg hi] at hm
    exact h.2 i y m hy hm⟩
/-- Lines, with all that is theirs. -/
def linesD (v : Value) (L : List Ln) : Dat where
  P w F := ∃ xs, SepL [rowD v xs, elsD xs L] w F
  fr := fun ⟨xs, h⟩ hf hn => ⟨xs, h.fr hf hn⟩
  up := fun ⟨xs, h⟩ hs => ⟨xs, h.up hs⟩
/-- Lines that are read alone. -/
def rdD (v : Value) (L : List Ln) : Dat where
  P w F := LnsF w F v L
  fr h hf hn := h.fr hf hn
  up h hs := h.up hs
theorem row_lns (h : SepL [rowD v xs, elsD xs L] w F) : LnsF w F v L := by
  obtain ⟨X, Y, h1, h2, h3, h4, h5⟩ := h
  exact (own_lns h1 h2.the).up (fun k hk => hk.elim (h4 k) (h5 k))
theorem Dt.lines {r e w : World} {S0 : FP} {m : Nat} {ps : List Nat} {D : List Dat} (h : Dt r e S0 m ps (linesD v L :: D) w) : ∃ xs, Dt r e S0 m ps (rowD v xs :: elsD xs L :: D) w := by
  obtain ⟨G, ⟨X, Y, ⟨xs, h1⟩, h2, h3, h4, h5⟩, hG⟩ := h.ex
  exact ⟨xs, h.fr, h.tab, h.s0, h.rt, h.es, h.wr, h.lt, _, SepL.append (A := [rowD v xs, elsD xs L]) h1 h2 h3, fun k hk => hG k (hk.elim (h4 k) (h5 k))⟩
theorem Dt.rd {r e w : World} {S0 : FP} {m : Nat} {ps : List Nat} {D : List Dat} (h : Dt r e S0 m ps (rdD v L :: D) w) : ∃ A c b xs, v = .slice A L.length c ∧ L.length ≤ c ∧ RdG rL w b A L.length xs ∧ Dt r e S0 m ps (rdX xs L :: D) w := by
  obtain ⟨G, ⟨X, Y, ⟨A, c, b, xs, h1, h2, h3, h4, h5⟩, k2, k3, k4, k5⟩, hG⟩ := h.ex
  exact ⟨A, c, b, xs, h1, h2, h3, h.fr, h.tab, h.s0, h.rt, h.es, h.wr, h.lt, G, ⟨X, Y, ⟨h3.1, h5⟩, k2, k3, k4, k5⟩, hG⟩
theorem rd_shut {w : World} {G : FP} {v : Value} {xs : List LV} {L : List Ln} (h : SepL [rowD v xs, rdX xs L] w G) : SepL [rdD v L] w G := by
  obtain ⟨X, Y, h1, h2, h3, h4, h5⟩ := h
  have hO : OwnO rL w X v xs := h1
  have hX : (rdX xs L).P w Y := h2.the
  obtain ⟨A, c, rfl, hc⟩ := hO.shape
  obtain ⟨b, hr, hn, hc, hb⟩ := hO.rdg
  have hl := hX.1
  exact SepL.one (d := rdD _ _) ⟨A, c, b, xs, by rw [hl], by omega, hl ▸ hr, fun h => h4 _ (hb (by omega)), fun i x l hx hl => ⟨(hX.2 i x l hx hl).1, (hX.2 i x l hx hl).2.up h5⟩⟩
theorem own_O {w : World} {base n : Nat} {v : Value} {xs : List LV} (h : w.ownsRow base rL.ty rL.sz v n (flatG rL xs)) : OwnO rL w (fun k => v.ownBlock = some k) v xs := by
  have hl : xs.length = n := own_len h
  rcases h.2 with ⟨rfl, rfl⟩ | ⟨g, cap, cur, rfl, _, hB, h1, h2, h3, h4⟩
  · exact .inl ⟨none, rfl, List.eq_nil_of_length_eq_zero hl⟩
  · exact .inr ⟨g, 0, cap, cur, by rw [hl], rfl, hB, by omega, h2, by rw [h3, Nat.zero_add], by rw [List.drop_zero, hl]; exact h4⟩
/-- append of lines onto nothing. -/
theorem rg_app0 {ρ : Operand → Value} {o : Oper} {x : Operand} {w : World} {b m c : Nat} {A : Option Addr} {xs : List LV} (hr : RdG rL w b A m xs) (hm : m ≤ 1000000)
    (h : o.op = .call { callee := .builtin .append, args := #[.const (.slice none 0 0), x], argTypes := #[30, 30] }) (hc : ∀ v, ρ (.const v) = v) (hx : ρ x = .slice A m c) :
    ∃ v' w', (execOp ρ o).run Tryd.prog w = .ok (.value v') w' ∧ ∃ A' c', v' = .slice A' xs.length c' ∧ Made [rowD (.slice A' xs.length c') xs] w w' := by
  obtain ⟨v', w', hrun, ho, hg, hor⟩ := run_appendO (R := rL) w w.heap.size o.type (.slice none 0 0) 0 [] (World.ownsRow_nil _ _ _ _) b A m c xs hr (by omega) (Nat.le_refl _)
  rw [List.nil_append, Nat.zero_add] at ho
  have hO := own_O ho
  obtain ⟨A', c', rfl, _⟩ := hO.shape
  refine ⟨_, w', ?_, A', c', rfl, Fr.grown (Fr.refl _ _) hg (fun k hk => by cases hk), _, SepL.one (d := rowD _ _) hO, fun k hk => .inr ⟨own_blk ho k hk, own_lt ho k hk⟩⟩
  unfold execOp
  have e : (Builtin.append_ #[30, 30] o.type #[.slice none 0 0, .slice A m c]).run Tryd.prog w = .ok (.slice A' xs.length c') w' := hrun
  simp only [h, resolve, invoke, builtin, Sem.run_bind, Sem.run_pure, Result.andThen_ok, List.map_toArray, List.map_cons, List.map_nil, hc, hx, e]
theorem lines_shut {w : World} {G : FP} {v : Value} {xs : List LV} {L : List Ln} (h : SepL [rowD v xs, elsD xs L] w G) : SepL [linesD v L] w G := SepL.one ⟨xs, h⟩
theorem sl_addr {A A2 : Option Addr} {l n c m d : Nat} (e : sliced A l n c 2 = .slice A2 m d) (h : c ≠ l) : ∀ g off, A = some ⟨g, off, none⟩ → A2 = some ⟨g, off + l * 2, none⟩ := by
  intro g off hA
  subst hA
  simp only [sliced, if_neg h, Option.map_some, addr_add, Value.slice.injEq] at e
  exact e.1.symm
theorem row_cutl {w : World} {G : FP} {A A3 : Option Addr} {k n m c : Nat} {xs : List LV} (e : sliced A k n c 2 = .slice A3 m (c - k)) (hk : k ≤ n) (h : SepL [rowD (.slice A n c) xs] w G) : SepL [rowD (.slice A3 m (c - k)) (xs.drop k)] w G := by
  obtain ⟨A', e', h'⟩ := OwnO.cutl (R := rL) (show OwnO rL w G _ _ from h.the) hk
  have e2 : sliced A k n c 2 = .slice A' (n - k) (c - k) := e'
  rw [← e, e2]
  exact SepL.one (d := rowD _ _) h'
theorem row_cuth {w : World} {G : FP} {A A3 : Option Addr} {k n m c : Nat} {xs : List LV} (e : sliced A 0 k c 2 = .slice A3 m c) (hk : k ≤ n) (h : SepL [rowD (.slice A n c) xs] w G) : SepL [rowD (.slice A3 m c) (xs.take k)] w G := by
  obtain ⟨A', e', h'⟩ := OwnO.cuth (R := rL) (show OwnO rL w G _ _ from h.the) hk
  have e2 : sliced A 0 k c 2 = .slice A' k c := e'
  rw [← e, e2]
  exact SepL.one (d := rowD _ _) h'
/-- Two things read out of the same blocks. -/
def andD (a b : Dat) : Dat where
  P w F := a.P w F ∧ b.P w F
  fr h hf hn := ⟨a.fr h.1 hf hn, b.fr h.2 hf hn⟩
  up h hs := ⟨a.up h.1 hs, b.up h.2 hs⟩
def slD (v : Value) (l : List Ce) : Dat where
  P w F := SlF w F v l
  fr h hf hn := h.fr hf hn
  up h hs := h.up hs
theorem Dt.rdS {r e w : World} {S0 : FP} {m : Nat} {ps : List Nat} {D : List Dat} {A : Option Addr} {c : Nat} (h : Dt r e S0 m ps (rdD (.slice A L.length c) L :: D) w) : ∃ b xs, L.length ≤ c ∧ RdG rL w b A L.length xs ∧ Dt r e S0 m ps (rdX xs L :: D) w := by
  obtain ⟨A', c', b, xs, h1, h2, h3, h4⟩ := h.rd
  simp only [Value.slice.injEq] at h1
  obtain ⟨rfl, -, rfl⟩ := h1
  exact ⟨b, xs, h2, h3, h4⟩
theorem rd_snoc {w : World} {G : FP} {v : Value} {xs : List LV} {L : List Ln} {x : LV} {l : Ln} (hs : x.s = l.2) (h : SepL [rowD v (xs ++ [x]), cellsD x.v l.1, rdX xs L] w G) : SepL [rdD v (L ++ [l])] w G := by
  obtain ⟨X, Y, h1, h2, h3, h4, h5⟩ := h
  obtain ⟨Y1, Y2, k1, k2, k3, k4, k5⟩ := h2
  have hx : (rdX (xs ++ [x]) (L ++ [l])).P w Y := rdX_snoc ((rdX xs L).up k2.the k5) ((cells_f k1).up k4) hs
  exact rd_shut ⟨X, Y, h1, SepL.one hx, h3, h4, h5⟩
theorem rd_set {w : World} {G : FP} {v : Value} {xs : List LV} {L : List Ln} {x : LV} {l : Ln} (k : Nat) (hs : x.s = l.2) (h : SepL [rowD v (xs.set k x), cellsD x.v l.1, rdX xs L] w G) : SepL [rdD v (L.set k l)] w G := by
  obtain ⟨X, Y, h1, h2, h3, h4, h5⟩ := h
  obtain ⟨Y1, Y2, k1, k2, k3, k4, k5⟩ := h2
  have hx : (rdX (xs.set k x) (L.set k l)).P w Y := rdX_set ((rdX xs L).up k2.the k5) ((cells_f k1).up k4) hs k
  exact rd_shut ⟨X, Y, h1, SepL.one hx, h3, h4, h5⟩
/-- A part of a row that is read. -/
theorem rdg_l {w : World} {b n c k : Nat} {A : Option Addr} {xs : List LV} (h : RdG rL w b A n xs) (hk : k ≤ n) (hc : n ≤ c) : ∃ A', sliced A k n c 2 = .slice A' (n - k) (c - k) ∧ RdG rL w b A' (n - k) (xs.drop k) := by
  refine ⟨if c = k then A else A.map (·.add (k * 2)), by simp [sliced], by rw [List.length_drop, h.1], fun h0 => ?_⟩
  obtain ⟨o, rfl, hb, hc'⟩ := h.2 (by omega)
  have hz : rL.sz = 2 := rfl
  refine ⟨o + k * 2, by rw [if_neg (by omega), Option.map_some, addr_add], hb, fun j hj => ?_⟩
  rw [hz] at hj
  rw [Nat.add_assoc, hc' (k * 2 + j) (by rw [hz]; omega), ← flatG_drop, List.getElem?_drop, hz]
theorem rdg_h {w : World} {b n c k : Nat} {A : Option Addr} {xs : List LV} (h : RdG rL w b A n xs) (hk : k ≤ n) : ∃ A', sliced A 0 k c 2 = .slice A' k c ∧ RdG rL w b A' k (xs.take k) := by
  refine ⟨if c = 0 then A else A.map (·.add (0 * 2)), by simp [sliced], by rw [List.length_take, h.1]; omega, fun h0 => ?_⟩
  obtain ⟨o, rfl, hb, hc'⟩ := h.2 (by omega)
  have hz : rL.sz = 2 := rfl
  refine ⟨o, ?_, hb, fun j hj => ?_⟩
  · split
    · rfl
    · rw [Option.map_some, addr_add]; simp
  · rw [hz] at hj
    rw [hc' j (by rw [hz]; omega), ← flatG_take, hz, List.getElem?_take, if_pos hj]
theorem rd_cutl {w : World} {G : FP} {A A3 : Option Addr} {k c m : Nat} {L : List Ln} (e : sliced A k L.length c 2 = .slice A3 m (c - k)) (hk : k ≤ L.length) (h : SepL [rdD (.slice A L.length c) L] w G) : SepL [rdD (.slice A3 m (c - k)) (L.drop k)] w G := by
  obtain ⟨A', c', b, xs, h1, h2, h3, h4, h5⟩ := h.the
  simp only [Value.slice.injEq] at h1
  obtain ⟨rfl, -, rfl⟩ := h1
  obtain ⟨A2, e2, hr2⟩ := rdg_l h3 hk h2
  rw [e] at e2
  simp only [Value.slice.injEq] at e2
  obtain ⟨rfl, rfl, -⟩ := e2
  have hl : L.length - k = (L.drop k).length := by simp
  refine SepL.one (d := rdD _ _) ⟨A3, c - k, b, xs.drop k, by rw [hl], by rw [← hl]; omega, hl ▸ hr2, fun h => h4 (by rw [← hl] at h; omega), fun i x l hx hl => ?_⟩
  rw [List.getElem?_drop] at hx hl
  exact h5 _ x l hx hl
theorem rd_cuth {w : World} {G : FP} {A A3 : Option Addr} {k c m : Nat} {L : List Ln} (e : sliced A 0 k c 2 = .slice A3 m c) (hk : k ≤ L.length) (h : SepL [rdD (.slice A L.length c) L] w G) : SepL [rdD (.slice A3 m c) (L.take k)] w G := by
  obtain ⟨A', c', b, xs, h1, h2, h3, h4, h5⟩ := h.the
  simp only [Value.slice.injEq] at h1
  obtain ⟨rfl, -, rfl⟩ := h1
  obtain ⟨A2, e2, hr2⟩ := rdg_h (c := c) h3 hk
  rw [e] at e2
  simp only [Value.slice.injEq] at e2
  obtain ⟨rfl, rfl, -⟩ := e2
  have hl : m = (L.take m).length := by simp; omega
  refine SepL.one (d := rdD _ _) ⟨A3, c, b, xs.take m, by rw [← hl], by rw [← hl]; omega, hl ▸ hr2, fun h => h4 (by rw [← hl] at h; omega), fun i x l hx hl => ?_⟩
  rw [List.getElem?_take] at hx hl
  split at hx
  · rename_i hi
    rw [if_pos hi] at hl
    exact h5 _ x l hx hl
  · cases hx
/-- append of one line onto a row, whatever its lines are. -/
theorem app_r {ρ : Operand → Value} {o : Oper} {x y : Operand} {w : World} {F : FP} {A B : Option Addr} {n c b cx M : Nat} {xs : List LV} {u : LV} (hrow : (rowD (.slice A n c) xs).P w F) (hr : RdG rL w b B 1 [u]) (hM : (xs ++ [u]).length = M) (hlen : M ≤ 100000)
    (h : o.op = .call { callee := .builtin .append, args := #[x, y], argTypes := #[30, 30] }) (hx : ρ x = .slice A n c) (hy : ρ y = .slice B 1 cx) :
    ∃ v' w', (execOp ρ o).run Tryd.prog w = .ok (.value v') w' ∧ ∃ A' c', v' = .slice A' M c' ∧ Turned [rowD (.slice A' M c') (xs ++ [u])] F w w' := by
  have h1' : OwnO rL w F (.slice A n c) xs := hrow
  obtain ⟨v', w', hrun, ⟨A', c', e1, _⟩, hf, F', hO, hF'⟩ := rg_append (R := rL) (ρ := ρ) (o := o) (x := x) (y := y) h1' hr (by decide) (by simp at hM; omega) h hx hy
  rw [hM] at e1
  subst e1
  exact ⟨_, w', hrun, A', c', rfl, hf, F', SepL.one (d := rowD _ _) hO, hF'⟩
section
variable {ops : Array Oper} {Q : Exit → Act → World → Prop} {a : Act} {w : World} {rest : List Oper} {o : Oper} {N i n c g off : Nat} {Fr_ : List (Nat × Value)} {F : FP} {xs : List LV} {u : LV} {x y : Operand}
/-- Results out of blocks. -/
theorem ret_cct {fn : Func} {p q v : Tmp} {ty uy t s : TypeId} {d e : TypeDesc} {g h : Nat} {cs ds : Array Value} {z : Value} {R : Ending → World → Prop} (hf : fn.results = #[.cell p ty, .cell q uy, .tmp v]) (he : Env N Fr_ a) (hp : lk Fr_ p = some (.pointer (some ⟨g, 0, none⟩))) (hq : lk Fr_ q = some (.pointer (some ⟨h, 0, none⟩))) (hv : lk Fr_ v = some z)
    (hg : Blk w g t cs) (hu : Tryd.prog.underlying ty = some d) (hd : d.isRow = true) (hi : (Tryd.prog.info? ty).map (·.size) = some cs.size) (hh : Blk w h s ds) (hu2 : Tryd.prog.underlying uy = some e) (hd2 : e.isRow = true) (hi2 : (Tryd.prog.info? uy).map (·.size) = some ds.size)
    (hR : R (.returned (.tuple #[.agg cs, .agg ds, z])) w) : bodyPost Tryd.prog fn R .ret a w := by
  refine bodyPost_ret ?_ he.df hR
  have e1 : a.tmps.getD p undef = .pointer (some ⟨g, 0, none⟩) := he.ev _ _ hp
  have e2 : a.tmps.getD q undef = .pointer (some ⟨h, 0, none⟩) := he.ev _ _ hq
  have e3 : a.tmps.getD v undef = z := he.ev _ _ hv
  have l1 := run_loadVar_row (P := Tryd.prog) w g t ty cs (0, 0) _ hg hu (by cases d <;> first | rfl | cases hd) hi
  have l2 := run_loadVar_row (P := Tryd.prog) w h s uy ds (0, 0) _ hh hu2 (by cases e <;> first | rfl | cases hd2) hi2
  rw [Array.getD_eq_getD_getElem?] at e1 e2 e3
  simp only [results, hf]
  simp [Sem.run_bind, Result.andThen, e1, e2, e3, asAddr, l1, l2]
theorem ret_tct {fn : Func} {p q v : Tmp} {ty t : TypeId} {d : TypeDesc} {g : Nat} {cs : Array Value} {y z : Value} {R : Ending → World → Prop} (hf : fn.results = #[.tmp q, .cell p ty, .tmp v]) (he : Env N Fr_ a) (hp : lk Fr_ p = some (.pointer (some ⟨g, 0, none⟩))) (hq : lk Fr_ q = some y) (hv : lk Fr_ v = some z)
    (hg : Blk w g t cs) (hu : Tryd.prog.underlying ty = some d) (hd : d.isRow = true) (hi : (Tryd.prog.info? ty).map (·.size) = some cs.size)
    (hR : R (.returned (.tuple #[y, .agg cs, z])) w) : bodyPost Tryd.prog fn R .ret a w := by
  refine bodyPost_ret ?_ he.df hR
  have e1 : a.tmps.getD p undef = .pointer (some ⟨g, 0, none⟩) := he.ev _ _ hp
  have e2 : a.tmps.getD q undef = y := he.ev _ _ hq
  have e3 : a.tmps.getD v undef = z := he.ev _ _ hv
  have l1 := run_loadVar_row (P := Tryd.prog) w g t ty cs (0, 0) _ hg hu (by cases d <;> first | rfl | cases hd) hi
  rw [Array.getD_eq_getD_getElem?] at e1 e2 e3
  simp only [results, hf]
  simp [Result.andThen, e1, e2, e3, asAddr, l1]
end
theorem lines_lns (h : (linesD v L).P w F) : LnsF w F v L := by
  obtain ⟨xs, h⟩ := h
  exact row_lns h
end
end Go.Proofs.YtlpjhaghphmbeaaDoor
