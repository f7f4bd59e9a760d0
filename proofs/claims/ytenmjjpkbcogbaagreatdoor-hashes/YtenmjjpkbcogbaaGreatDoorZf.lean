import Derived.Test.YtenmjjpkbcogbaaGreatDoorZe
import Derived.Test.YtenmjjpkbcogbaaGreatDoorZc
import Derived.Test.YtenmjjpkbcogbaaGreatDoorZa
import Derived.Test.YtenmjjpkbcogbaaGreatDoorZb
import Derived.Laws.CopyOwn

/- MaB -/
namespace Go.Proofs.YtenmjjpkbcogbaaGreatDoor
open Go.RowKit

theorem ItemIs.up {w : World} {S : Nat → Prop} : ∀ (d : Nat) (cs : List Value) (x : Tree), ItemIs d w S cs x → ItemIs (d + 1) w S cs x := by
  intro d
  induction d with
  | zero => intro cs x h; exact .inl h
  | succ d ih =>
    intro cs x h
    rcases h with h | ⟨t, k, ks, xs, rfl, rfl, hr, hb, hk⟩
    · exact .inl h
    · exact .inr ⟨t, k, ks, xs, rfl, rfl, hr, hb, fun i hi => ih _ _ (hk i hi)⟩
theorem ItemIs.ups {w : World} {S : Nat → Prop} {d : Nat} {cs : List Value} {x : Tree} (h : ItemIs d w S cs x) : ∀ e, d ≤ e → ItemIs e w S cs x := by
  intro e he
  induction e with
  | zero => have : d = 0 := by omega
            subst this; exact h
  | succ e ih =>
    by_cases hd : d = e + 1
    · subst hd; exact h
    · exact ItemIs.up _ _ _ (ih (by omega))

theorem Tabs.low {w w' : World} {base : Nat} (h : Tabs w) (k : Below base w w') (hb : 3 ≤ base) : Tabs w' :=
  ⟨Nat.le_trans h.size k.size,
   fun j hj => (World.cell?_of_block (w := w) (k.block 0 (by omega))).trans (h.words j hj),
   fun j hj => (World.cell?_of_block (w := w) (k.block 1 (by omega))).trans (h.turns j hj),
   fun j hj => (World.cell?_of_block (w := w) (k.block 2 (by omega))).trans (h.moves j hj)⟩

/-- The hasher of block b has taken the text t. -/
structure HashIs (base : Nat) (l : Nat → Nat) (L : Nat) (w : World) (b : Nat) (t : ByteArray) : Prop where
  lab : l b = L
  low : base ≤ b
  held : Held w b (writeF startF t.data.toList).1 (writeF startF t.data.toList).2
theorem HashIs.move {T : Nat → Prop} {l l' : Nat → Nat} {w w' : World} {base L b : Nat} {t : ByteArray} (h : HashIs base l L w b t) (m : Moved T l l' w w') (hL : ¬ T L) : HashIs base l' L w' b t :=
  ⟨(m.lab b h.held.lt).trans h.lab, h.low, ⟨by rw [m.blk b h.held.lt (by rw [h.lab]; exact hL)]; exact h.held.block⟩⟩

structure Dat where
  ha : Value
  words : Value
  reg : Value
  ls : Value
  lw : Value
  items : Value
  vl : ByteArray
  px : Int
  pn : Int
  pe : Int
  hs : List (Nat × ByteArray)
  ws : List ByteArray
  rs : List ByteArray
  ll : List (Value × Value × List ByteArray)
  its : List (Value × Value × Value × Tree)
  d : Nat

def wcells (D : Dat) : Array Value := #[.slice none 0 0, .slice none 0 0, .slice none 0 0, D.ha, D.words, .string D.vl, D.reg, D.ls, D.lw, .int .i64 D.px, .int .i64 D.pn, .int .i64 D.pe, D.items]

structure Inv (pin : List (Nat × Obj)) (base b c : Nat) (l : Nat → Nat) (D : Dat) (w : World) : Prop where
  b3 : 3 ≤ base
  bs : base ≤ w.heap.size
  tabs : Tabs w
  bb : base ≤ b
  wd : w.heap[b]? = some (.cells (wcells D) 48 (0, 0))
  wl : l b = 1
  ha : Row base l 2 w 144 2 D.ha D.hs.length (D.hs.flatMap fun h => [Value.pointer (some ⟨h.1, 0, none⟩), Value.string h.2])
  words : Row base l 3 w 9 1 D.words D.ws.length (D.ws.map Value.string)
  reg : Row base l 4 w 9 1 D.reg D.rs.length (D.rs.map Value.string)
  ls : Row base l 5 w 44 1 D.ls D.ll.length (D.ll.map fun p => p.1)
  lw : Row base l 6 w 44 1 D.lw D.ll.length (D.ll.map fun p => p.2.1)
  items : Row base l 7 w 56 3 D.items D.its.length (D.its.flatMap fun i => [i.1, i.2.1, i.2.2.1])
  hsh : ∀ j h, D.hs[j]? = some h → HashIs base l (8 + 3 * j) w h.1 h.2 ∧ h.2.size ≤ c
  la : ∀ j p, D.ll[j]? = some p → Row base l (9 + 3 * j) w 9 1 p.1 p.2.2.length (p.2.2.map Value.string) ∧ p.2.2.length ≤ c
  lb : ∀ j p, D.ll[j]? = some p → Row base l (10 + 3 * j) w 9 1 p.2.1 p.2.2.length (p.2.2.map Value.string)
  itm : ∀ i, i ∈ D.its → ItemIs D.d w (fun k => l k = 0) [i.1, i.2.1, i.2.2.1] i.2.2.2 ∧ i.2.2.1.oneCell' = true
  nhs : D.hs.length ≤ c
  nws : D.ws.length ≤ c
  nrs : D.rs.length ≤ c
  nll : D.ll.length ≤ c
  nit : D.its.length ≤ c
  pins : ∀ p, p ∈ pin → l p.1 = 0 ∧ p.1 < w.heap.size ∧ w.heap[p.1]? = some p.2
  rng : (-9223372036854775808 ≤ D.px ∧ D.px ≤ 9223372036854775807) ∧ (-9223372036854775808 ≤ D.pn ∧ D.pn ≤ 9223372036854775807) ∧ (-9223372036854775808 ≤ D.pe ∧ D.pe ≤ 9223372036854775807)

/-- Between two steps, of which c is the measure. -/
def Good (pin : List (Nat × Obj)) (base b c : Nat) (w : World) : Prop := ∃ l D, Inv pin base b c l D w

section
variable {pin : List (Nat × Obj)} {base b c : Nat} {l : Nat → Nat} {D : Dat} {w : World}

theorem Inv.more (h : Inv pin base b c l D w) {c' : Nat} (hc : c ≤ c') : Inv pin base b c' l D w :=
  { h with
    hsh := fun j x hx => ⟨(h.hsh j x hx).1, Nat.le_trans (h.hsh j x hx).2 hc⟩
    la := fun j x hx => ⟨(h.la j x hx).1, Nat.le_trans (h.la j x hx).2 hc⟩
    nhs := Nat.le_trans h.nhs hc
    nws := Nat.le_trans h.nws hc
    nrs := Nat.le_trans h.nrs hc
    nll := Nat.le_trans h.nll hc
    nit := Nat.le_trans h.nit hc }
theorem Good.more (h : Good pin base b c w) {c' : Nat} (hc : c ≤ c') : Good pin base b c' w := let ⟨l, D, i⟩ := h; ⟨l, D, i.more hc⟩
theorem Inv.lt (h : Inv pin base b c l D w) : b < w.heap.size := by
  rcases Nat.lt_or_ge b w.heap.size with hlt | hge
  · exact hlt
  · have := h.wd; rw [Array.getElem?_eq_none hge] at this; cases this

/-- A step that touches nothing of the machine. -/
theorem Inv.moved (h : Inv pin base b c l D w) {l' : Nat → Nat} {w' : World} (m : Moved (fun _ => False) l l' w w') (hb : Below base w w') : Inv pin base b c l' D w' :=
  { b3 := h.b3
    bs := Nat.le_trans h.bs hb.size
    tabs := h.tabs.low hb h.b3
    bb := h.bb
    wd := by rw [m.blk b h.lt (fun x => x)]; exact h.wd
    wl := (m.lab b h.lt).trans h.wl
    ha := h.ha.move m fun x => x
    words := h.words.move m fun x => x
    reg := h.reg.move m fun x => x
    ls := h.ls.move m fun x => x
    lw := h.lw.move m fun x => x
    items := h.items.move m fun x => x
    hsh := fun j x hx => ⟨(h.hsh j x hx).1.move m fun x => x, (h.hsh j x hx).2⟩
    la := fun j x hx => ⟨(h.la j x hx).1.move m fun x => x, (h.la j x hx).2⟩
    lb := fun j x hx => (h.lb j x hx).move m fun x => x
    itm := fun i hi => ⟨ItemIs.move (fun k hk hlt => ⟨(m.lab k hlt).trans hk, m.blk k hlt fun x => x⟩) _ _ _ (h.itm i hi).1, (h.itm i hi).2⟩
    nhs := h.nhs
    nws := h.nws
    nrs := h.nrs
    nll := h.nll
    nit := h.nit
    pins := fun p hp => ⟨(m.lab _ (h.pins p hp).2.1).trans (h.pins p hp).1, Nat.lt_of_lt_of_le (h.pins p hp).2.1 m.size, (m.blk _ (h.pins p hp).2.1 fun x => x).trans (h.pins p hp).2.2⟩
    rng := h.rng }
theorem Inv.below (h : Inv pin base b c l D w) {w' : World} (k : Below w.heap.size w w') : Inv pin base b c l D w' :=
  h.moved (Moved.below l k) ⟨k.os, k.tape, k.output, k.size, fun j hj => k.block j (Nat.lt_of_lt_of_le hj h.bs)⟩

/-- A step that touches the parts that T names. -/
theorem Inv.upd (h : Inv pin base b c l D w) {l' : Nat → Nat} {w' : World} (T : Nat → Prop) (m : Moved T l l' w w') (hb : Below base w w') (D' : Dat) {c' : Nat} (hc : c ≤ c')
    (wd : w'.heap[b]? = some (.cells (wcells D') 48 (0, 0))) (h0 : ¬ T 0)
    (ha : (¬ T 2 ∧ D'.ha = D.ha ∧ D'.hs = D.hs) ∨ (Row base l' 2 w' 144 2 D'.ha D'.hs.length (D'.hs.flatMap fun h => [Value.pointer (some ⟨h.1, 0, none⟩), Value.string h.2]) ∧ D'.hs.length ≤ c'))
    (words : (¬ T 3 ∧ D'.words = D.words ∧ D'.ws = D.ws) ∨ (Row base l' 3 w' 9 1 D'.words D'.ws.length (D'.ws.map Value.string) ∧ D'.ws.length ≤ c'))
    (reg : (¬ T 4 ∧ D'.reg = D.reg ∧ D'.rs = D.rs) ∨ (Row base l' 4 w' 9 1 D'.reg D'.rs.length (D'.rs.map Value.string) ∧ D'.rs.length ≤ c'))
    (ls : (¬ T 5 ∧ ¬ T 6 ∧ D'.ls = D.ls ∧ D'.lw = D.lw ∧ D'.ll.map (fun p => p.1) = D.ll.map (fun p => p.1) ∧ D'.ll.map (fun p => p.2.1) = D.ll.map (fun p => p.2.1)) ∨ (Row base l' 5 w' 44 1 D'.ls D'.ll.length (D'.ll.map fun p => p.1) ∧ Row base l' 6 w' 44 1 D'.lw D'.ll.length (D'.ll.map fun p => p.2.1) ∧ D'.ll.length ≤ c'))
    (items : (¬ T 7 ∧ D'.items = D.items ∧ D'.its = D.its) ∨ (Row base l' 7 w' 56 3 D'.items D'.its.length (D'.its.flatMap fun i => [i.1, i.2.1, i.2.2.1]) ∧ D'.its.length ≤ c'))
    (hsh : ((∀ j, ¬ T (8 + 3 * j)) ∧ D'.hs = D.hs) ∨ (∀ j h, D'.hs[j]? = some h → HashIs base l' (8 + 3 * j) w' h.1 h.2 ∧ h.2.size ≤ c'))
    (lab : ((∀ j, ¬ T (9 + 3 * j)) ∧ (∀ j, ¬ T (10 + 3 * j)) ∧ D'.ll = D.ll) ∨ ((∀ j p, D'.ll[j]? = some p → Row base l' (9 + 3 * j) w' 9 1 p.1 p.2.2.length (p.2.2.map Value.string) ∧ p.2.2.length ≤ c') ∧
      (∀ j p, D'.ll[j]? = some p → Row base l' (10 + 3 * j) w' 9 1 p.2.1 p.2.2.length (p.2.2.map Value.string))))
    (itm : (D'.its = D.its ∧ D'.d = D.d) ∨ (∀ i, i ∈ D'.its → ItemIs D'.d w' (fun k => l' k = 0) [i.1, i.2.1, i.2.2.1] i.2.2.2 ∧ i.2.2.1.oneCell' = true))
    (rng : (-9223372036854775808 ≤ D'.px ∧ D'.px ≤ 9223372036854775807) ∧ (-9223372036854775808 ≤ D'.pn ∧ D'.pn ≤ 9223372036854775807) ∧ (-9223372036854775808 ≤ D'.pe ∧ D'.pe ≤ 9223372036854775807)) :
    Inv pin base b c' l' D' w' := by
  have hlen : ∀ {A : List (Value × Value × List ByteArray)} {B : List (Value × Value × List ByteArray)}, A.map (fun p => p.1) = B.map (fun p => p.1) → A.length = B.length := fun {A B} e => by
    have := congrArg List.length e; simpa using this
  exact
  { b3 := h.b3
    bs := Nat.le_trans h.bs hb.size
    tabs := h.tabs.low hb h.b3
    bb := h.bb
    wd := wd
    wl := (m.lab b h.lt).trans h.wl
    ha := by
      rcases ha with ⟨t, e1, e2⟩ | r
      · rw [e1, e2]; exact h.ha.move m t
      · exact r.1
    words := by
      rcases words with ⟨t, e1, e2⟩ | r
      · rw [e1, e2]; exact h.words.move m t
      · exact r.1
    reg := by
      rcases reg with ⟨t, e1, e2⟩ | r
      · rw [e1, e2]; exact h.reg.move m t
      · exact r.1
    ls := by
      rcases ls with ⟨t, _, e1, _, e2, _⟩ | r
      · rw [e1, e2, hlen e2]; exact h.ls.move m t
      · exact r.1
    lw := by
      rcases ls with ⟨_, t, _, e1, e2, e3⟩ | r
      · rw [e1, e3, hlen e2]; exact h.lw.move m t
      · exact r.2.1
    items := by
      rcases items with ⟨t, e1, e2⟩ | r
      · rw [e1, e2]; exact h.items.move m t
      · exact r.1
    hsh := by
      rcases hsh with ⟨t, e⟩ | r
      · rw [e]; exact fun j x hx => ⟨(h.hsh j x hx).1.move m (t j), Nat.le_trans (h.hsh j x hx).2 hc⟩
      · exact r
    la := by
      rcases lab with ⟨t, _, e⟩ | r
      · rw [e]; exact fun j x hx => ⟨(h.la j x hx).1.move m (t j), Nat.le_trans (h.la j x hx).2 hc⟩
      · exact r.1
    lb := by
      rcases lab with ⟨_, t, e⟩ | r
      · rw [e]; exact fun j x hx => (h.lb j x hx).move m (t j)
      · exact r.2
    itm := by
      rcases itm with ⟨e1, e2⟩ | r
      · rw [e1, e2]; exact fun i hi => ⟨ItemIs.move (fun k hk hlt => ⟨(m.lab k hlt).trans hk, m.blk k hlt (by rw [hk]; exact h0)⟩) _ _ _ (h.itm i hi).1, (h.itm i hi).2⟩
      · exact r
    nhs := by
      rcases ha with ⟨_, _, e⟩ | r
      · rw [e]; exact Nat.le_trans h.nhs hc
      · exact r.2
    nws := by
      rcases words with ⟨_, _, e⟩ | r
      · rw [e]; exact Nat.le_trans h.nws hc
      · exact r.2
    nrs := by
      rcases reg with ⟨_, _, e⟩ | r
      · rw [e]; exact Nat.le_trans h.nrs hc
      · exact r.2
    nll := by
      rcases ls with ⟨_, _, _, _, e, _⟩ | r
      · rw [hlen e]; exact Nat.le_trans h.nll hc
      · exact r.2.2
    nit := by
      rcases items with ⟨_, _, e⟩ | r
      · rw [e]; exact Nat.le_trans h.nit hc
      · exact r.2
    pins := fun p hp => ⟨(m.lab _ (h.pins p hp).2.1).trans (h.pins p hp).1, Nat.lt_of_lt_of_le (h.pins p hp).2.1 m.size, (m.blk _ (h.pins p hp).2.1 (by rw [(h.pins p hp).1]; exact h0)).trans (h.pins p hp).2.2⟩
    rng := rng }

/-- The machine's own block is written. -/
theorem Inv.setW {w1 : World} {l1 : Nat → Nat} {T : Nat → Prop} (h : Inv pin base b c l D w) (m : Moved T l l1 w w1) (hT : ¬ T 1) (hb : Below base w w1) (i : Nat) (v : Value) :
    Moved (fun x => T x ∨ x = 1) l l1 w (w1.setCell ⟨b, i, none⟩ v) ∧ Below base w (w1.setCell ⟨b, i, none⟩ v) ∧ (w1.setCell ⟨b, i, none⟩ v).heap[b]? = some (.cells ((wcells D).setIfInBounds i v) 48 (0, 0)) := by
  have hw : w1.heap[b]? = some (.cells (wcells D) 48 (0, 0)) := by rw [m.blk b h.lt (by rw [h.wl]; exact hT)]; exact h.wd
  refine ⟨⟨by simpa using m.size, m.lab, fun k hk hn => ?_⟩, ⟨hb.os, hb.tape, hb.output, by simpa using hb.size, fun k hk => ?_⟩, ?_⟩
  · have hkb : k ≠ b := fun e => hn (.inr (by rw [e]; exact h.wl))
    rw [Below.heap_setCell w1 ⟨b, i, none⟩ v k hkb]
    exact m.blk k hk fun t => hn (.inl t)
  · have hkb : k ≠ b := by have := h.bb; omega
    rw [Below.heap_setCell w1 ⟨b, i, none⟩ v k hkb]
    exact hb.block k hk
  · rw [setCell_eq_setRow w1 b i _ _ (0, 0) v hw]; exact setRow_heap w1 b _ _ _ _ hw
end
end Go.Proofs.YtenmjjpkbcogbaaGreatDoor

/- MaC -/
namespace Go.Proofs.YtenmjjpkbcogbaaGreatDoor
open Go.RowKit


section
variable {pin : List (Nat × Obj)} {base b c : Nat} {l : Nat → Nat} {D : Dat} {w : World}
theorem Inv.cell (h : Inv pin base b c l D w) (j : Nat) (v : Value) (hv : (wcells D)[j]? = some v) : w.cell? ⟨b, j, none⟩ = some v := by
  rw [cell_of_row w b j _ _ _ h.wd]; exact hv
theorem Inv.free (h : Inv pin base b c l D w) (j : Nat) : w.frozen? ⟨b, j, none⟩ = false := frozen_of_row w b j _ _ h.wd

/-- A row of the machine has grown by one, behind new blocks. -/
theorem Inv.wordAdded (h : Inv pin base b c l D w) (s : ByteArray) (o : Obj) (g cap : Nat) (w' : World)
    (hown : w'.ownsRow base 9 1 (.slice (some ⟨g, 0, none⟩) (D.ws.length + 1) cap) (D.ws.length + 1) (D.ws.map Value.string ++ [.string s]))
    (hg : (w.alloc o).grownBy w' D.words.ownBlock) (hat : D.words.ownBlock = some g ∨ g = w.heap.size + 1) :
    Good pin base b (c + 1) (w'.setCell ⟨b, 4, none⟩ (.slice (some ⟨g, 0, none⟩) (D.ws.length + 1) cap)) ∧ Below base w (w'.setCell ⟨b, 4, none⟩ (.slice (some ⟨g, 0, none⟩) (D.ws.length + 1) cap)) ∧ w'.heap[b]? = some (.cells (wcells D) 48 (0, 0)) := by
  have hb1 : Below w.heap.size w (w.alloc o) := (Below.refl _ _).alloc (Nat.le_refl _) _
  have h1 : Inv pin base b c l D (w.alloc o) := h.below hb1
  obtain ⟨m, r⟩ := h1.words.appended hown hg (by simpa using hat)
  have hbl : Below base (w.alloc o) w' := grown_below hg (fun g hg => (h1.words.own.lt g hg).1) h1.bs
  obtain ⟨m2, b2, d2⟩ := h1.setW m (by simp) hbl 4 (.slice (some ⟨g, 0, none⟩) (D.ws.length + 1) cap)
  have hb0 : Below base w (w.alloc o) := ⟨hb1.os, hb1.tape, hb1.output, hb1.size, fun j hj => hb1.block j (Nat.lt_of_lt_of_le hj h.bs)⟩
  refine ⟨⟨_, { D with words := .slice (some ⟨g, 0, none⟩) (D.ws.length + 1) cap, ws := D.ws ++ [s] }, h1.upd _ m2 b2 _ (by omega) d2 (by simp) (.inl ⟨by simp, rfl, rfl⟩) (.inr ⟨?_, ?_⟩) (.inl ⟨by simp, rfl, rfl⟩) (.inl ⟨by simp, by simp, rfl, rfl, rfl, rfl⟩) (.inl ⟨by simp, rfl, rfl⟩)
    (.inl ⟨fun j hj => by rcases hj with hj | hj <;> omega, rfl⟩) (.inl ⟨fun j hj => by rcases hj with hj | hj <;> omega, fun j hj => by rcases hj with hj | hj <;> omega, rfl⟩) (.inl ⟨rfl, rfl⟩) h1.rng⟩, hb0.trans b2, by rw [m.blk b h1.lt (by rw [h1.wl]; simp)]; exact h1.wd⟩
  · refine ⟨?_, r.lab⟩
    have := own_kept (w' := w'.setCell ⟨b, 4, none⟩ (.slice (some ⟨g, 0, none⟩) (D.ws.length + 1) cap)) r.own (fun g' hg' => Below.heap_setCell w' _ _ g' (by
      intro e
      have e1 := r.lab g' hg'
      have e2 := m.lab b h1.lt
      rw [h1.wl] at e2
      rw [e] at e1
      rw [e1] at e2
      cases e2))
    simpa using this
  · simpa using h.nws
end

theorem mword_calls (pin : List (Nat × Obj)) (base b c : Nat) (s : ByteArray) (w : World) (G : Good pin base b c w) (hc : c < 4294967296) :
    Calls Tryz.prog 25 #[.pointer (some ⟨b, 0, none⟩), .string s] w fun e w' => e = .returned (.tuple #[]) ∧ Good pin base b (c + 1) w' ∧ Below base w w' := by
  obtain ⟨l, D, I⟩ := G
  have c4 := I.cell 4 D.words rfl
  have f4 := I.free 4
  obtain ⟨i0, hi0, hz0, hz1, hz2⟩ := info_parts info9
  have hblt := I.lt
  have hbs := I.bs
  have hwn := I.nws
  go_enter Tryz.func25, Tryz.ntmps25
  go_wp2_with (at_builtin; refine wpList_append_lies _ rfl (.tmp 8) (.tmp 10) 44 rfl base 9 i0 (.string ⟨#[]⟩) 1 16 Tryz.underlying44 hi0 hz0 hz1 hz2 rfl (by decide) D.words D.ws.length (D.ws.map Value.string) rfl (I.words.own.alloc _) ⟨w.heap.size, 0, none⟩ 1 1 [.string s] rfl rfl (cell_one_new _ _ _) ?c2 (by omega) ?c3 ?c4 ?c5 _ rfl ?c6)
  case c2 => intro v hv; simp at hv; subst hv; rfl
  case c3 => unfold maxLen; omega
  case c4 => omega
  case c5 => simp; omega
  intro g cap w' hown hgr hat hlt
  obtain ⟨G1, B1, hwd⟩ := I.wordAdded s _ g cap w' hown hgr (by simpa using hat)
  have c4' : w'.cell? ⟨b, 4, none⟩ = some D.words := by rw [cell_of_row w' b 4 _ _ _ hwd]; rfl
  have f4' : w'.frozen? ⟨b, 4, none⟩ = false := frozen_of_row w' b 4 _ _ hwd
  have HG : Hid (Good pin base b (c + 1) (w'.setCell ⟨b, 4, none⟩ (.slice (some ⟨g, 0, none⟩) (D.ws.length + 1) cap)) ∧ Below base w (w'.setCell ⟨b, 4, none⟩ (.slice (some ⟨g, 0, none⟩) (D.ws.length + 1) cap))) := ⟨G1, B1⟩
  clear G1 B1 hwd hown hgr hat I
  go_wp2_with fail
  go_end0
  exact ⟨rfl, HG.out⟩

def pickN (x : Int) (n : Nat) : Nat := (if x < 0 then (-(x + 1)).toNat else x.toNat) % n
theorem pickN_lt (x : Int) (n : Nat) (h : 0 < n) : pickN x n < n := Nat.mod_lt _ h
theorem pick_calls (x : Int) (n : Nat) (hx : -9223372036854775808 ≤ x ∧ x ≤ 9223372036854775807) (hn : 0 < n) (hm : n < 9223372036854775808) (w : World) :
    Calls Tryz.prog 62 #[.int .i64 x, .int .i64 n] w fun e w' => e = .returned (.int .i64 (pickN x n)) ∧ w' = w := by
  have hne : (n : Int) ≠ 0 := by omega
  by_cases h0 : x < 0
  · have e1 : IntKind.i64.wrap (x + 1) = x + 1 := by rw [IntKind.wrap_i64]; omega
    have e2 : IntKind.i64.wrap (-(x + 1)) = -(x + 1) := by rw [IntKind.wrap_i64]; omega
    have e0 : ((pickN x n : Nat) : Int) = (-(x + 1)) % n := by
      unfold pickN
      rw [if_pos h0, Int.natCast_emod, Int.toNat_of_nonneg (by omega)]
    have e3 : -((x + 1).tmod n) = (pickN x n : Int) := by
      rw [e0, ← Int.neg_tmod, Int.tmod_eq_emod_of_nonneg (by omega)]
    clear e0
    generalize pickN x n = r at *
    go_enter Tryz.func62, Tryz.ntmps62
    go_wp2
    go_ret
    exact ⟨by simp, rfl⟩
  · have e0 : ((pickN x n : Nat) : Int) = x % n := by
      unfold pickN
      rw [if_neg h0, Int.natCast_emod, Int.toNat_of_nonneg (by omega)]
    have e3 : x % n = (pickN x n : Int) := e0.symm
    clear e0
    generalize pickN x n = r at *
    go_enter Tryz.func62, Tryz.ntmps62
    go_wp2
    go_ret
    exact ⟨by simp, rfl⟩

/-- Texts that lie in a row are read. -/
theorem texts_cell {w : World} {base L : Nat} {l : Nat → Nat} {v : Value} {ts : List ByteArray} (h : Row base l L w 9 1 v ts.length (ts.map Value.string)) {g cap : Nat} (hv : v = .slice (some ⟨g, 0, none⟩) ts.length cap) (i : Nat) (hi : i < ts.length) :
    w.cell? ⟨g, i, none⟩ = some (.string ts[i]) := own_cell h.own (by rw [hv]; rfl) i _ (by rw [List.getElem?_map, List.getElem?_eq_getElem hi]; rfl)

theorem sameTexts_calls (base : Nat) (l : Nat → Nat) (La Lb : Nat) (va vb : Value) (ts : List ByteArray) (w : World) (ha : Row base l La w 9 1 va ts.length (ts.map Value.string)) (hb : Row base l Lb w 9 1 vb ts.length (ts.map Value.string)) (hn : ts.length < 4294967296) :
    Calls Tryz.prog 37 #[va, vb] w fun e w' => e = .returned (.bool true) ∧ ∃ n, w' = w.drewN n := by
  obtain ⟨aa, ca, rfl, _, _, fa⟩ := own_form ha.own
  obtain ⟨ab, cb, rfl, _, _, fb⟩ := own_form hb.own
  have HA : Hid (∀ i (hi : i < ts.length), ∃ g, aa = some ⟨g, 0, none⟩ ∧ w.cell? ⟨g, i, none⟩ = some (.string ts[i])) := by
    intro i hi
    rcases fa with ⟨_, h, _⟩ | ⟨g, rfl⟩
    · omega
    · exact ⟨g, rfl, texts_cell ha rfl i hi⟩
  have HB : Hid (∀ i (hi : i < ts.length), ∃ g, ab = some ⟨g, 0, none⟩ ∧ w.cell? ⟨g, i, none⟩ = some (.string ts[i])) := by
    intro i hi
    rcases fb with ⟨_, h, _⟩ | ⟨g, rfl⟩
    · omega
    · exact ⟨g, rfl, texts_cell hb rfl i hi⟩
  clear ha hb fa fb
  go_enter Tryz.func37, Tryz.ntmps37
  go_wp2
  go_loopg [5] (ts.length) (fun g r wr => ∃ i n : Nat, g = ts.length - i ∧ i ≤ ts.length ∧ r = .int .i64 i ∧ wr = w.drewN n)
  case atStart => exact ⟨0, 0, rfl, by omega, rfl, rfl⟩
  case round =>
    obtain ⟨i, n, hg, hi, rfl, rfl⟩ := hrel
    have HG : Hid (gk = ts.length - i) := hg
    clear hg
    by_cases hlt : i < ts.length
    · obtain ⟨ga, rfl, c1⟩ := HA.out i hlt
      obtain ⟨gb, hgb, c2⟩ := HB.out i hlt
      cases hgb
      have hiI : (i : Int) < (ts.length : Int) := by omega
      go_wp2_with fail
      go_region
      go_wp2_with fail
      go_roundg (ts.length - (i + 1))
      case measure => have := HG.out; omega
      case rel => exact ⟨i + 1, n + 1, rfl, by omega, by go_num, rfl⟩
    · have hn' : ¬ ((i : Int) < (ts.length : Int)) := by omega
      go_wp2
      go_ret
      exact ⟨rfl, n, rfl⟩
end Go.Proofs.YtenmjjpkbcogbaaGreatDoor

/- MaH -/
namespace Go.Proofs.YtenmjjpkbcogbaaGreatDoor
open Go.RowKit

/-- A row has grown, and the machine's block has been told. -/
theorem appendSet {base b : Nat} {l : Nat → Nat} {w : World} {C : Array Value} (hw : w.heap[b]? = some (.cells C 48 (0, 0))) (hl : l b = 1) (hbb : base ≤ b) (hbs : base ≤ w.heap.size)
    {L : Nat} {e : TypeId} {sz : Nat} {v : Value} {n : Nat} {xs : List Value} (R : Row base l L w e sz v n xs) (hL : L ≠ 1) {w1 : World} {g cap m : Nat} {ys : List Value}
    (own : w1.ownsRow base e sz (.slice (some ⟨g, 0, none⟩) (n + m) cap) (n + m) ys) (gr : w.grownBy w1 v.ownBlock) (hat : v.ownBlock = some g ∨ g = w.heap.size) (j : Nat) :
    ∃ l', Moved (fun x => x = L ∨ x = 1) l l' w (w1.setCell ⟨b, j, none⟩ (.slice (some ⟨g, 0, none⟩) (n + m) cap)) ∧ Below base w (w1.setCell ⟨b, j, none⟩ (.slice (some ⟨g, 0, none⟩) (n + m) cap)) ∧
      (w1.setCell ⟨b, j, none⟩ (.slice (some ⟨g, 0, none⟩) (n + m) cap)).heap[b]? = some (.cells (C.setIfInBounds j (.slice (some ⟨g, 0, none⟩) (n + m) cap)) 48 (0, 0)) ∧
      Row base l' L (w1.setCell ⟨b, j, none⟩ (.slice (some ⟨g, 0, none⟩) (n + m) cap)) e sz (.slice (some ⟨g, 0, none⟩) (n + m) cap) (n + m) ys ∧ w1.heap[b]? = some (.cells C 48 (0, 0)) := by
  have hblt : b < w.heap.size := by
    rcases Nat.lt_or_ge b w.heap.size with hlt | hge
    · exact hlt
    · rw [Array.getElem?_eq_none hge] at hw; cases hw
  obtain ⟨m1, r1⟩ := R.appended own gr hat
  have hbl : Below base w w1 := grown_below gr (fun g hg => (R.own.lt g hg).1) hbs
  have hw1 : w1.heap[b]? = some (.cells C 48 (0, 0)) := by rw [m1.blk b hblt (by rw [hl]; exact fun h => hL h.symm)]; exact hw
  refine ⟨_, ⟨by simpa using m1.size, m1.lab, fun k hk hn => ?_⟩, ⟨hbl.os, hbl.tape, hbl.output, by simpa using hbl.size, fun k hk => ?_⟩, ?_, ⟨?_, r1.lab⟩, hw1⟩
  · have hkb : k ≠ b := fun e => hn (.inr (by rw [e]; exact hl))
    rw [Below.heap_setCell w1 _ _ k hkb]
    exact m1.blk k hk fun t => hn (.inl t)
  · rw [Below.heap_setCell w1 _ _ k (by show k ≠ b; omega)]
    exact hbl.block k hk
  · rw [setCell_eq_setRow w1 b j _ _ (0, 0) _ hw1]; exact setRow_heap w1 b _ _ _ _ hw1
  · refine own_kept r1.own fun g' hg' => Below.heap_setCell w1 _ _ g' ?_
    show g' ≠ b
    intro e1
    have e2 := r1.lab g' hg'
    have e3 := m1.lab b hblt
    rw [hl] at e3
    rw [e1, e3] at e2
    exact hL e2.symm

/-- A cell of the machine's block is set. -/
theorem setOne {base b : Nat} {l : Nat → Nat} {w : World} {C : Array Value} (hw : w.heap[b]? = some (.cells C 48 (0, 0))) (hl : l b = 1) (hbb : base ≤ b) (j : Nat) (v : Value) :
    Moved (fun x => x = 1) l l w (w.setCell ⟨b, j, none⟩ v) ∧ Below base w (w.setCell ⟨b, j, none⟩ v) ∧ (w.setCell ⟨b, j, none⟩ v).heap[b]? = some (.cells (C.setIfInBounds j v) 48 (0, 0)) := by
  refine ⟨⟨by simp, fun _ _ => rfl, fun k hk hn => Below.heap_setCell w _ _ k ?_⟩, ⟨rfl, rfl, rfl, by simp, fun k hk => Below.heap_setCell w _ _ k ?_⟩, ?_⟩
  · show k ≠ b; intro e; exact hn (by rw [e]; exact hl)
  · show k ≠ b; omega
  · rw [setCell_eq_setRow w b j _ _ (0, 0) _ hw]; exact setRow_heap w b _ _ _ _ hw

section
variable {pin : List (Nat × Obj)} {base b c : Nat} {l : Nat → Nat} {D : Dat} {w : World}
theorem Inv.relab (h : Inv pin base b c l D w) (l' : Nat → Nat) (hl : ∀ k, k < w.heap.size → l' k = l k) : Inv pin base b c l' D w :=
  h.moved ⟨Nat.le_refl _, hl, fun _ _ _ => rfl⟩ (Below.refl _ _)

/-- The texts' register has grown. -/
theorem Inv.regAdded (h : Inv pin base b c l D w) (s : ByteArray) (g cap : Nat) (w' : World)
    (hown : w'.ownsRow base 9 1 (.slice (some ⟨g, 0, none⟩) (D.rs.length + 1) cap) (D.rs.length + 1) (D.rs.map Value.string ++ [.string s]))
    (hg : w.grownBy w' D.reg.ownBlock) (hat : D.reg.ownBlock = some g ∨ g = w.heap.size) :
    Good pin base b (c + 1) (w'.setCell ⟨b, 6, none⟩ (.slice (some ⟨g, 0, none⟩) (D.rs.length + 1) cap)) ∧ Below base w (w'.setCell ⟨b, 6, none⟩ (.slice (some ⟨g, 0, none⟩) (D.rs.length + 1) cap)) ∧ w'.heap[b]? = some (.cells (wcells D) 48 (0, 0)) := by
  obtain ⟨l', m, bl, wd, r, hw⟩ := appendSet h.wd h.wl h.bb h.bs h.reg (by decide) hown hg hat 6
  refine ⟨⟨l', { D with reg := .slice (some ⟨g, 0, none⟩) (D.rs.length + 1) cap, rs := D.rs ++ [s] }, h.upd _ m bl _ (by omega) wd (by simp) (.inl ⟨by simp, rfl, rfl⟩) (.inl ⟨by simp, rfl, rfl⟩) (.inr ⟨?_, ?_⟩) (.inl ⟨by simp, by simp, rfl, rfl, rfl, rfl⟩) (.inl ⟨by simp, rfl, rfl⟩)
    (.inl ⟨fun j hj => by rcases hj with hj | hj <;> omega, rfl⟩) (.inl ⟨fun j hj => by rcases hj with hj | hj <;> omega, fun j hj => by rcases hj with hj | hj <;> omega, rfl⟩) (.inl ⟨rfl, rfl⟩) h.rng⟩, bl, hw⟩
  · simpa using r
  · simpa using h.nrs

theorem Inv.regNone (h : Inv pin base b c l D w) : Good pin base b c (w.setCell ⟨b, 6, none⟩ (.slice none 0 0)) ∧ Below base w (w.setCell ⟨b, 6, none⟩ (.slice none 0 0)) := by
  obtain ⟨m, bl, wd⟩ := setOne h.wd h.wl h.bb 6 (.slice none 0 0)
  exact ⟨⟨l, { D with reg := .slice none 0 0, rs := [] }, h.upd _ m bl _ (Nat.le_refl _) wd (by simp) (.inl ⟨by simp, rfl, rfl⟩) (.inl ⟨by simp, rfl, rfl⟩) (.inr ⟨Row.nil _ _ _ _ _ _, by simp⟩) (.inl ⟨by simp, by simp, rfl, rfl, rfl, rfl⟩) (.inl ⟨by simp, rfl, rfl⟩)
    (.inl ⟨fun j hj => by omega, rfl⟩) (.inl ⟨fun j hj => by omega, fun j hj => by omega, rfl⟩) (.inl ⟨rfl, rfl⟩) h.rng⟩, bl⟩
theorem Inv.valSet (h : Inv pin base b c l D w) (s : ByteArray) : Good pin base b c (w.setCell ⟨b, 5, none⟩ (.string s)) ∧ Below base w (w.setCell ⟨b, 5, none⟩ (.string s)) := by
  obtain ⟨m, bl, wd⟩ := setOne h.wd h.wl h.bb 5 (.string s)
  exact ⟨⟨l, { D with vl := s }, h.upd _ m bl _ (Nat.le_refl _) wd (by simp) (.inl ⟨by simp, rfl, rfl⟩) (.inl ⟨by simp, rfl, rfl⟩) (.inl ⟨by simp, rfl, rfl⟩) (.inl ⟨by simp, by simp, rfl, rfl, rfl, rfl⟩) (.inl ⟨by simp, rfl, rfl⟩)
    (.inl ⟨fun j hj => by omega, rfl⟩) (.inl ⟨fun j hj => by omega, fun j hj => by omega, rfl⟩) (.inl ⟨rfl, rfl⟩) h.rng⟩, bl⟩
theorem Inv.partSet (h : Inv pin base b c l D w) (x y z : Int) (hx : -9223372036854775808 ≤ x ∧ x ≤ 9223372036854775807) (hy : -9223372036854775808 ≤ y ∧ y ≤ 9223372036854775807) (hz : -9223372036854775808 ≤ z ∧ z ≤ 9223372036854775807) :
    Good pin base b c (((w.setCell ⟨b, 9, none⟩ (.int .i64 x)).setCell ⟨b, 10, none⟩ (.int .i64 y)).setCell ⟨b, 11, none⟩ (.int .i64 z)) ∧ Below base w (((w.setCell ⟨b, 9, none⟩ (.int .i64 x)).setCell ⟨b, 10, none⟩ (.int .i64 y)).setCell ⟨b, 11, none⟩ (.int .i64 z)) := by
  obtain ⟨m1, b1, d1⟩ := setOne h.wd h.wl h.bb 9 (.int .i64 x)
  obtain ⟨m2, b2, d2⟩ := setOne d1 h.wl h.bb 10 (.int .i64 y)
  obtain ⟨m3, b3, d3⟩ := setOne d2 h.wl h.bb 11 (.int .i64 z)
  have bl := b1.trans (b2.trans b3)
  exact ⟨⟨l, { D with px := x, pn := y, pe := z }, h.upd _ (m1.trans (m2.trans m3)) bl _ (Nat.le_refl _) d3 (by simp) (.inl ⟨by simp, rfl, rfl⟩) (.inl ⟨by simp, rfl, rfl⟩) (.inl ⟨by simp, rfl, rfl⟩) (.inl ⟨by simp, by simp, rfl, rfl, rfl, rfl⟩) (.inl ⟨by simp, rfl, rfl⟩)
    (.inl ⟨fun j hj => by omega, rfl⟩) (.inl ⟨fun j hj => by omega, fun j hj => by omega, rfl⟩) (.inl ⟨rfl, rfl⟩) ⟨hx, hy, hz⟩⟩, bl⟩
end
end Go.Proofs.YtenmjjpkbcogbaaGreatDoor

/- MaM -/
namespace Go.Proofs.YtenmjjpkbcogbaaGreatDoor
open Go.RowKit

section
variable {pin : List (Nat × Obj)} {base b c : Nat} {l : Nat → Nat} {D : Dat} {w : World}

def haCells (hs : List (Nat × ByteArray)) : List Value := hs.flatMap fun h => [Value.pointer (some ⟨h.1, 0, none⟩), Value.string h.2]
theorem haCells_length (hs : List (Nat × ByteArray)) : (haCells hs).length = 2 * hs.length := by
  induction hs with
  | nil => rfl
  | cons h t ih => simp [haCells] at ih ⊢; omega
theorem haCells_at : ∀ (hs : List (Nat × ByteArray)) (k : Nat) (p : Nat × ByteArray), hs[k]? = some p → (haCells hs)[2 * k]? = some (.pointer (some ⟨p.1, 0, none⟩)) ∧ (haCells hs)[2 * k + 1]? = some (.string p.2)
  | [], k, p, h => by simp at h
  | q :: t, 0, p, h => by simp at h; subst h; exact ⟨rfl, rfl⟩
  | q :: t, k + 1, p, h => by
    have := haCells_at t k p (by simpa using h)
    exact ⟨by rw [show 2 * (k + 1) = 2 * k + 2 by omega]; exact this.1, by rw [show 2 * (k + 1) + 1 = 2 * k + 1 + 2 by omega]; exact this.2⟩
theorem haCells_set : ∀ (hs : List (Nat × ByteArray)) (k : Nat) (p : Nat × ByteArray) (t : ByteArray), hs[k]? = some p → haCells (hs.set k (p.1, t)) = (haCells hs).set (2 * k + 1) (.string t)
  | [], k, p, _, h => by simp at h
  | q :: tl, 0, p, t, h => by simp at h; subst h; rfl
  | q :: tl, k + 1, p, t, h => by
    have := haCells_set tl k p t (by simpa using h)
    rw [show 2 * (k + 1) + 1 = 2 * k + 1 + 2 by omega]
    show [Value.pointer (some ⟨q.1, 0, none⟩), Value.string q.2] ++ haCells (tl.set k (p.1, t)) = _
    rw [this]; rfl

theorem Inv.hashAdded (h : Inv pin base b c l D w) (q : Nat) (tx : ByteArray) (HQ : HashIs base l (8 + 3 * D.hs.length) w q tx) (htx : tx.size ≤ c) (g cap : Nat) (w' : World)
    (hown : w'.ownsRow base 144 2 (.slice (some ⟨g, 0, none⟩) (D.hs.length + 1) cap) (D.hs.length + 1) (haCells D.hs ++ [.pointer (some ⟨q, 0, none⟩), .string tx]))
    (hg : w.grownBy w' D.ha.ownBlock) (hat : D.ha.ownBlock = some g ∨ g = w.heap.size) :
    Good pin base b (c + 1) (w'.setCell ⟨b, 3, none⟩ (.slice (some ⟨g, 0, none⟩) (D.hs.length + 1) cap)) ∧ Below base w (w'.setCell ⟨b, 3, none⟩ (.slice (some ⟨g, 0, none⟩) (D.hs.length + 1) cap)) ∧ w'.heap[b]? = some (.cells (wcells D) 48 (0, 0)) := by
  obtain ⟨l', m, bl, wd, r, hw⟩ := appendSet h.wd h.wl h.bb h.bs h.ha (by decide) hown hg hat 3
  refine ⟨⟨l', { D with ha := .slice (some ⟨g, 0, none⟩) (D.hs.length + 1) cap, hs := D.hs ++ [(q, tx)] }, h.upd _ m bl _ (by omega) wd (by simp) (.inr ⟨?_, ?_⟩) (.inl ⟨by simp, rfl, rfl⟩) (.inl ⟨by simp, rfl, rfl⟩) (.inl ⟨by simp, by simp, rfl, rfl, rfl, rfl⟩) (.inl ⟨by simp, rfl, rfl⟩)
    (.inr ?_) (.inl ⟨fun j hj => by omega, fun j hj => by omega, rfl⟩) (.inl ⟨rfl, rfl⟩) h.rng⟩, bl, hw⟩
  · simpa [haCells] using r
  · simpa using h.nhs
  · intro j p hp
    rcases Nat.lt_trichotomy j D.hs.length with hj | hj | hj
    · rw [List.getElem?_append_left hj] at hp
      exact ⟨(h.hsh j p hp).1.move m (by simp; omega), by have := (h.hsh j p hp).2; omega⟩
    · subst hj
      simp at hp
      subst hp
      exact ⟨HQ.move m (by simp; omega), by simpa using Nat.le_succ_of_le htx⟩
    · rw [List.getElem?_eq_none (by simp; omega)] at hp; cases hp

/-- A hasher has taken another text. -/
theorem Inv.hashSet (h : Inv pin base b c l D w) (k : Nat) (p : Nat × ByteArray) (hp : D.hs[k]? = some p) (tx : ByteArray) {c' : Nat} (hc : c ≤ c') (htx : tx.size ≤ c') (w1 : World) (K : Kept p.1 w w1)
    (H : Held w1 p.1 (writeF startF tx.data.toList).1 (writeF startF tx.data.toList).2) (gh : Nat) (hgh : D.ha.ownBlock = some gh) :
    Good pin base b c' (w1.setCell ⟨gh, 2 * k + 1, none⟩ (.string tx)) ∧ Below base w (w1.setCell ⟨gh, 2 * k + 1, none⟩ (.string tx)) ∧
      w1.heap[b]? = some (.cells (wcells D) 48 (0, 0)) ∧ w1.ownsRow base 144 2 D.ha D.hs.length (haCells D.hs) := by
  have HH := (h.hsh k p hp).1
  have lg := h.ha.lab gh hgh
  have hne : p.1 ≠ gh := fun e => by have := HH.lab; rw [e, lg] at this; omega
  have hneb : p.1 ≠ b := fun e => by have := HH.lab; rw [e, h.wl] at this; omega
  have hgb : gh ≠ b := fun e => by rw [e, h.wl] at lg; omega
  have hglt := (h.ha.own.lt gh hgh).2
  have ho1 : w1.ownsRow base 144 2 D.ha D.hs.length (haCells D.hs) := own_kept h.ha.own fun g hg => K.block g (h.ha.own.lt g hg).2 (by rw [hgh] at hg; cases hg; exact hne.symm)
  have hwb : w1.heap[b]? = some (.cells (wcells D) 48 (0, 0)) := by rw [K.block b h.lt hneb.symm]; exact h.wd
  have m : Moved (fun x => x = 8 + 3 * k ∨ x = 2) l l w (w1.setCell ⟨gh, 2 * k + 1, none⟩ (.string tx)) :=
    ⟨by simpa using K.size, fun _ _ => rfl, fun q hq hn => by
      rw [Below.heap_setCell _ _ _ q (by show q ≠ gh; intro e; exact hn (.inr (by rw [e]; exact lg)))]
      exact K.block q hq (fun e => hn (.inl (by rw [e]; exact HH.lab)))⟩
  have bl : Below base w (w1.setCell ⟨gh, 2 * k + 1, none⟩ (.string tx)) :=
    ⟨K.os, K.tape, K.output, by simpa using K.size, fun q hq => by
      have := (h.ha.own.lt gh hgh).1
      have := HH.low
      have := h.bs
      rw [Below.heap_setCell _ _ _ q (by show q ≠ gh; omega)]
      exact K.block q (by omega) (by omega)⟩
  have hlen : (D.hs.set k (p.1, tx)).length = D.hs.length := by simp
  refine ⟨⟨l, { D with hs := D.hs.set k (p.1, tx) }, h.upd _ m bl _ hc ?_ (by simp; omega) (.inr ⟨?_, ?_⟩) (.inl ⟨by simp; omega, rfl, rfl⟩) (.inl ⟨by simp; omega, rfl, rfl⟩) (.inl ⟨by simp; omega, by simp; omega, rfl, rfl, rfl, rfl⟩) (.inl ⟨by simp; omega, rfl, rfl⟩)
    (.inr ?_) (.inl ⟨fun j hj => by omega, fun j hj => by omega, rfl⟩) (.inl ⟨rfl, rfl⟩) h.rng⟩, bl, hwb, ho1⟩
  · rw [Below.heap_setCell _ _ _ b (by show b ≠ gh; exact hgb.symm)]; exact hwb
  · refine ⟨?_, h.ha.lab⟩
    have := own_set ho1 hgh (2 * k + 1) (.string tx)
    rw [← haCells_set _ _ p tx hp] at this
    rw [hlen]; exact this
  · rw [hlen]; have := h.nhs; omega
  · intro j q hq
    by_cases hj : k = j
    · subst hj
      rw [List.getElem?_set_self (by exact (List.getElem?_eq_some_iff.1 hp).1)] at hq
      cases hq
      refine ⟨⟨HH.lab, HH.low, ⟨?_⟩⟩, htx⟩
      rw [Below.heap_setCell _ _ _ _ (by show p.1 ≠ gh; exact hne)]; exact H.block
    · rw [List.getElem?_set_ne hj] at hq
      exact ⟨(h.hsh j q hq).1.move m (by simp; omega), by have := (h.hsh j q hq).2; omega⟩
end
end Go.Proofs.YtenmjjpkbcogbaaGreatDoor

/- MaQ -/
namespace Go.Proofs.YtenmjjpkbcogbaaGreatDoor
open Go.RowKit

def itCells (its : List (Value × Value × Value × Tree)) : List Value := its.flatMap fun i => [i.1, i.2.1, i.2.2.1]
theorem itCells_length (its : List (Value × Value × Value × Tree)) : (itCells its).length = 3 * its.length := by
  induction its with
  | nil => rfl
  | cons h t ih => simp [itCells] at ih ⊢; omega
theorem itCells_append (a b : List (Value × Value × Value × Tree)) : itCells (a ++ b) = itCells a ++ itCells b := by simp [itCells]
theorem itCells_take : ∀ (its : List (Value × Value × Value × Tree)) (m : Nat), itCells (its.take m) = (itCells its).take (3 * m)
  | [], m => by simp [itCells]
  | q :: t, 0 => by simp [itCells]
  | q :: t, m + 1 => by
    have := itCells_take t m
    rw [show 3 * (m + 1) = 3 * m + 3 by omega]
    show [q.1, q.2.1, q.2.2.1] ++ itCells (t.take m) = _
    rw [this]; rfl
theorem itCells_drop : ∀ (its : List (Value × Value × Value × Tree)) (m : Nat), itCells (its.drop m) = (itCells its).drop (3 * m)
  | [], m => by simp [itCells]
  | q :: t, 0 => by simp [itCells]
  | q :: t, m + 1 => by
    have := itCells_drop t m
    rw [show 3 * (m + 1) = 3 * m + 3 by omega]
    show itCells (t.drop m) = _
    rw [this]; rfl
theorem itCells_get (its : List (Value × Value × Value × Tree)) (i : Nat) (p : Value × Value × Value × Tree) (h : its[i]? = some p) : ((itCells its).drop (3 * i)).take 3 = [p.1, p.2.1, p.2.2.1] := by
  rw [← itCells_drop]
  have hlt := (List.getElem?_eq_some_iff.1 h).1
  rw [List.drop_eq_getElem_cons hlt]
  have : its[i] = p := (List.getElem?_eq_some_iff.1 h).2
  rw [this]; rfl

section
variable {pin : List (Nat × Obj)} {base b c : Nat} {l : Nat → Nat} {D : Dat} {w : World}
theorem Inv.itemPut (h : Inv pin base b c l D w) (v0 v1 v2 : Value) (x : Tree) (d : Nat) (hx : ItemIs d w (fun k => l k = 0) [v0, v1, v2] x) (h1 : v2.oneCell' = true) (m : Nat) (hm : m ≤ D.its.length) (v : Value) (R : Row base l 7 w 56 3 v m (itCells (D.its.take m)))
    (g cap : Nat) (w' : World) (hown : w'.ownsRow base 56 3 (.slice (some ⟨g, 0, none⟩) (m + 1) cap) (m + 1) (itCells (D.its.take m) ++ [v0, v1, v2])) (hg : w.grownBy w' v.ownBlock) (hat : v.ownBlock = some g ∨ g = w.heap.size) :
    Good pin base b (c + 1) (w'.setCell ⟨b, 12, none⟩ (.slice (some ⟨g, 0, none⟩) (m + 1) cap)) ∧ Below base w (w'.setCell ⟨b, 12, none⟩ (.slice (some ⟨g, 0, none⟩) (m + 1) cap)) ∧ w'.heap[b]? = some (.cells (wcells D) 48 (0, 0)) ∧
      ∀ q, q < w.heap.size → l q = 0 → (w'.setCell ⟨b, 12, none⟩ (.slice (some ⟨g, 0, none⟩) (m + 1) cap)).heap[q]? = w.heap[q]? := by
  obtain ⟨l', mv, bl, wd, r, hw⟩ := appendSet h.wd h.wl h.bb h.bs R (by decide) hown hg hat 12
  have hnit := h.nit
  have hlen : (D.its.take m).length = m := by rw [List.length_take]; omega
  refine ⟨⟨l', { D with items := .slice (some ⟨g, 0, none⟩) (m + 1) cap, its := D.its.take m ++ [(v0, v1, v2, x)], d := max D.d d }, h.upd _ mv bl _ (by omega) wd (by simp) (.inl ⟨by simp, rfl, rfl⟩) (.inl ⟨by simp, rfl, rfl⟩) (.inl ⟨by simp, rfl, rfl⟩) (.inl ⟨by simp, by simp, rfl, rfl, rfl, rfl⟩) (.inr ⟨?_, ?_⟩)
    (.inl ⟨fun j hj => by omega, rfl⟩) (.inl ⟨fun j hj => by omega, fun j hj => by omega, rfl⟩) (.inr ?_) h.rng⟩, bl, hw, fun q hq h0 => mv.blk q hq (by rw [h0]; simp)⟩
  · have e : (D.its.take m ++ [(v0, v1, v2, x)]).length = m + 1 := by simp [hlen]
    show Row base l' 7 _ 56 3 _ (D.its.take m ++ [(v0, v1, v2, x)]).length (itCells (D.its.take m ++ [(v0, v1, v2, x)]))
    rw [e, itCells_append]; exact r
  · simp; omega
  · intro i hi
    have mvS : ∀ k, l k = 0 → k < w.heap.size → l' k = 0 ∧ (w'.setCell ⟨b, 12, none⟩ (.slice (some ⟨g, 0, none⟩) (m + 1) cap)).heap[k]? = w.heap[k]? := fun k hk hlt =>
      ⟨(mv.lab k hlt).trans hk, mv.blk k hlt (by rw [hk]; simp)⟩
    rcases List.mem_append.1 hi with hi | hi
    · exact ⟨ItemIs.move mvS _ _ _ ((h.itm i (List.mem_of_mem_take hi)).1.ups _ (by show D.d ≤ max D.d d; omega)), (h.itm i (List.mem_of_mem_take hi)).2⟩
    · simp at hi
      subst hi
      exact ⟨ItemIs.move mvS _ _ _ (hx.ups _ (by show d ≤ max D.d d; omega)), h1⟩
end
end Go.Proofs.YtenmjjpkbcogbaaGreatDoor

/- MaD -/
namespace Go.Proofs.YtenmjjpkbcogbaaGreatDoor
open Go.RowKit

theorem below_drewN (w : World) (n : Nat) : Below w.heap.size w (w.drewN n) := ⟨rfl, rfl, rfl, Nat.le_refl _, fun _ _ => rfl⟩
theorem below_drews {B : Nat} {w w' : World} (h : Below B w w') (n : Nat) : Below B w (w'.drewN n) := ⟨h.os, h.tape, h.output, h.size, h.block⟩
theorem Good.below {pin : List (Nat × Obj)} {base b c : Nat} {w w' : World} (h : Good pin base b c w) (k : Below w.heap.size w w') : Good pin base b c w' := let ⟨l, D, I⟩ := h; ⟨l, D, I.below k⟩
theorem Good.base {pin : List (Nat × Obj)} {base b c : Nat} {w : World} (h : Good pin base b c w) : base ≤ w.heap.size := let ⟨_, _, I⟩ := h; I.bs

theorem row_at {w : World} {base L : Nat} {l : Nat → Nat} {e : TypeId} {v : Value} {n : Nat} {xs : List Value} (h : Row base l L w e 1 v n xs) {a : Option Addr} {cap : Nat} (hv : v = .slice a n cap) (i : Nat) (u : Value) (hu : xs[i]? = some u) :
    ∃ g, a = some ⟨g, 0, none⟩ ∧ w.cell? ⟨g, i, none⟩ = some u ∧ w.frozen? ⟨g, i, none⟩ = false ∧ l g = L ∧ g < w.heap.size ∧ base ≤ g := by
  have hl : xs.length = n := by have := h.own.1; omega
  obtain ⟨a', cap', hv', _, _, hf⟩ := own_form h.own
  rw [hv] at hv'
  cases hv'
  rcases hf with ⟨_, h0, _⟩ | ⟨g, rfl⟩
  · have := (List.getElem?_eq_some_iff.1 hu).1; omega
  · have ho : v.ownBlock = some g := by rw [hv]; rfl
    exact ⟨g, rfl, own_cell h.own ho i u hu, own_free h.own ho i, h.lab g ho, (h.own.lt g ho).2, (h.own.lt g ho).1⟩

theorem looks_calls (pin : List (Nat × Obj)) (base b c : Nat) (w : World) (G : Good pin base b c w) (hc : c < 4294967296) :
    Calls Tryz.prog 21 #[.pointer (some ⟨b, 0, none⟩)] w fun e w' => e = .returned (.bool true) ∧ ∃ n, w' = w.drewN n := by
  obtain ⟨l, D, I⟩ := G
  obtain ⟨a7, k7, h7, _, _, _⟩ := own_form I.ls.own
  obtain ⟨a8, k8, h8, _, _, _⟩ := own_form I.lw.own
  have c7 := I.cell 7 _ (show (wcells D)[7]? = some D.ls from rfl)
  have c8 := I.cell 8 _ (show (wcells D)[8]? = some D.lw from rfl)
  rw [h7] at c7
  rw [h8] at c8
  have HL : Hid (∀ i, i < D.ll.length → ∃ g7 g8 u v, a7 = some ⟨g7, 0, none⟩ ∧ a8 = some ⟨g8, 0, none⟩ ∧ w.cell? ⟨g7, i, none⟩ = some u ∧ w.cell? ⟨g8, i, none⟩ = some v ∧
      ∀ m k, Calls Tryz.prog 37 #[u, v] ((w.drewN m).drewN k) fun e w' => e = .returned (.bool true) ∧ ∃ n, w' = ((w.drewN m).drewN k).drewN n) := by
    intro i hi
    have hp : D.ll[i]? = some D.ll[i] := List.getElem?_eq_getElem hi
    obtain ⟨g7, e7, r7, _⟩ := row_at I.ls h7 i D.ll[i].1 (by rw [List.getElem?_map, hp]; rfl)
    obtain ⟨g8, e8, r8, _⟩ := row_at I.lw h8 i D.ll[i].2.1 (by rw [List.getElem?_map, hp]; rfl)
    refine ⟨g7, g8, _, _, e7, e8, r7, r8, fun m k => ?_⟩
    have J := (I.below (below_drewN w m)).below (below_drewN _ k)
    exact sameTexts_calls base l _ _ _ _ _ _ (J.la i _ hp).1 (J.lb i _ hp) (by have := (J.la i _ hp).2; omega)
  have hn : D.ll.length < 4294967296 := by have := I.nll; omega
  clear I h7 h8
  generalize D.ll.length = N at *
  go_enter Tryz.func21, Tryz.ntmps21
  go_wp2
  go_loopg [3] N (fun g r wr => ∃ i n : Nat, g = N - i ∧ i ≤ N ∧ r = .int .i64 i ∧ wr = w.drewN n)
  case atStart => exact ⟨0, 0, rfl, by omega, rfl, rfl⟩
  case round =>
    obtain ⟨i, n, hg, hi, rfl, hwr⟩ := hrel
    have HG : Hid (gk = N - i) := hg
    have HW : Hid (wr = w.drewN n) := hwr
    have d7 : wr.cell? ⟨b, 7, none⟩ = some (.slice a7 N k7) := by rw [hwr]; exact c7
    have d8 : wr.cell? ⟨b, 8, none⟩ = some (.slice a8 N k8) := by rw [hwr]; exact c8
    clear hg hwr
    by_cases hlt : i < N
    · obtain ⟨g7, g8, u, v, rfl, h8, r7, r8, hcall⟩ := HL.out i hlt
      cases h8
      have HC : Hid (∀ m, Calls Tryz.prog 37 #[u, v] (wr.drewN m) fun e w' => e = .returned (.bool true) ∧ ∃ n, w' = (wr.drewN m).drewN n) := fun m => by rw [HW.out]; exact hcall n m
      have e7 : wr.cell? ⟨g7, i, none⟩ = some u := by rw [HW.out]; exact r7
      have e8 : wr.cell? ⟨g8, i, none⟩ = some v := by rw [HW.out]; exact r8
      clear hcall c7 c8 r7 r8
      have hiI : (i : Int) < (N : Int) := by omega
      go_wp2_with fail
      go_quiet ((go_at_call 37; refine Calls.quiet_of (HC.out _)))
      go_wp2_with fail
      go_roundg (N - (i + 1))
      case measure => have := HG.out; omega
      case rel => exact ⟨i + 1, n + nq, rfl, by omega, by go_num, by rw [HW.out, World.drewN_drewN]⟩
    · have hn' : ¬ ((i : Int) < (N : Int)) := by omega
      clear c7 c8
      go_wp2
      go_ret
      exact ⟨rfl, n, HW.out⟩

/-- A step of a script, as six cells. -/
def opV (k x y z : Int) (s t : ByteArray) : Value := .agg #[.int .i64 k, .int .i64 x, .int .i64 y, .int .i64 z, .string s, .string t]

theorem long_calls (pin : List (Nat × Obj)) (base b c : Nat) (k x y z : Int) (s t : ByteArray) (w : World) (G : Good pin base b c w) (hc : c < 4294967296) (hz : -9223372036854775808 ≤ z ∧ z ≤ 9223372036854775807) :
    Calls Tryz.prog 69 #[.pointer (some ⟨b, 0, none⟩), opV k x y z s t] w fun e w' => (∃ u, e = .returned (.string u)) ∧ Below w.heap.size w w' := by
  obtain ⟨l, D, I⟩ := G
  obtain ⟨a4, k4, h4, _, _, _⟩ := own_form I.words.own
  have c4 := I.cell 4 _ (show (wcells D)[4]? = some D.words from rfl)
  have hblt := I.lt
  rw [h4] at c4
  have hn : D.ws.length < 4294967296 := by have := I.nws; omega
  by_cases hz0 : z = 0
  · subst hz0
    unfold opV
    go_enter Tryz.func69, Tryz.ntmps69
    go_wp2
    go_ret
    exact ⟨⟨_, rfl⟩, (Below.refl _ _).alloc (Nat.le_refl _) _⟩
  · by_cases hw0 : 0 < D.ws.length
    · have hw0' : (0 : Int) < (D.ws.length : Int) := by omega
      have hlt := pickN_lt z D.ws.length hw0
      obtain ⟨g4, e4, r4, _⟩ := row_at I.words h4 (pickN z D.ws.length) (.string D.ws[pickN z D.ws.length]) (by rw [List.getElem?_map, List.getElem?_eq_getElem hlt]; rfl)
      subst e4
      have HP : Hid (∀ W, Calls Tryz.prog 62 #[.int .i64 z, .int .i64 D.ws.length] W fun e w' => e = .returned (.int .i64 (pickN z D.ws.length)) ∧ w' = W) := fun W => pick_calls z _ hz hw0 (by omega) W
      have hlt' : (pickN z D.ws.length : Int) < (D.ws.length : Int) := by omega
      have hg4 := World.block_lt_of_cell? w _ r4
      have r4' : (w.alloc (.cells #[.int .i64 k, .int .i64 x, .int .i64 y, .int .i64 z, .string s, .string t] 38)).cell? ⟨g4, pickN z D.ws.length, none⟩ = some (.string D.ws[pickN z D.ws.length]) := by
        rw [World.cell?_of_block (w := w) (Below.heap_alloc _ _ _ hg4)]; exact r4
      generalize D.ws[pickN z D.ws.length] = u at *
      generalize pickN z D.ws.length = r at *
      clear I
      unfold opV
      go_enter Tryz.func69, Tryz.ntmps69
      go_wp2
      go_quiet ((go_at_call 62; refine Calls.quiet_of_same (HP.out _)))
      go_wp2
      go_ret
      exact ⟨⟨_, rfl⟩, below_drews ((Below.refl _ _).alloc (Nat.le_refl _) _) _⟩
    · have hw0' : ¬ (0 : Int) < (D.ws.length : Int) := by omega
      unfold opV
      go_enter Tryz.func69, Tryz.ntmps69
      go_wp2
      go_ret
      exact ⟨⟨_, rfl⟩, (Below.refl _ _).alloc (Nat.le_refl _) _⟩
end Go.Proofs.YtenmjjpkbcogbaaGreatDoor

/- MaE -/
namespace Go.Proofs.YtenmjjpkbcogbaaGreatDoor
open Go.RowKit

theorem run_copy_fresh {P : Program} (w : World) (dT sT ty elem : TypeId) (i : TypeInfo) (hu : P.underlying dT = some (.slice elem)) (hi : P.info? elem = some i)
    (g dCap n : Nat) (cur : Array Value) (t : TypeId) (hg : w.heap[g]? = some (.cells cur t (0, 0))) (hc : cur.size = n * i.size) (sp : Option Addr) (sCap : Nat) (cs : List Value) (hl : cs.length = n * i.size)
    (hsrc : 0 < n → ∃ ad, sp = some ad ∧ ∀ j v, cs[j]? = some v → w.cell? (ad.add j) = some v) (h1 : ∀ v ∈ cs, v.oneCell' = true) :
    (Builtin.copy_ #[dT, sT] ty #[.slice (some ⟨g, 0, none⟩) n dCap, .slice sp n sCap]).run P w = .ok (goInt n) (w.setRow g cs.toArray) := by
  by_cases h0 : n = 0
  · subst h0
    obtain rfl : cs = [] := List.eq_nil_of_length_eq_zero (by simpa using hl)
    obtain rfl : cur = #[] := Array.eq_empty_of_size_eq_zero (by simpa using hc)
    rw [show ([] : List Value).toArray = #[] from rfl, setRow_self w g #[] t _ hg]
    cases sp with
    | none => simp [Builtin.copy_, run_underlying hu, Builtin.lenOf, Builtin.firstCells, sizeOf, typeInfo, hi, storeCells]
    | some ad => simp [Builtin.copy_, run_underlying hu, Builtin.lenOf, Builtin.firstCells, sizeOf, typeInfo, hi, storeCells, loadCells, loadCellsFrom]
  · obtain ⟨ad, rfl, hs⟩ := hsrc (by omega)
    have hf := run_firstCells_some (P := P) w i.size n ad n sCap cs hl hs
    have hst := run_storeCells_at P g 0 t cs 0 cur w hg (by simp [hl, hc]) h1
    have e : (List.take (0 + 0) cur.toList ++ cs ++ List.drop (0 + 0 + cs.length) cur.toList).toArray = cs.toArray := by
      rw [List.drop_of_length_le (by simp [hl, hc])]; simp
    rw [e] at hst
    simp [Builtin.copy_, run_underlying hu, Builtin.lenOf, sizeOf, typeInfo, hi, hf, hst]

theorem make_texts (n : Nat) (hn : n ≤ 4294967296) (w : World) :
    (Instr.makeSlice 44 (.int .i64 n) (.int .i64 n)).run Tryz.prog w = .ok (.slice (some ⟨w.heap.size, 0, none⟩) n n) (w.alloc (.cells (madeCells #[.string ⟨#[]⟩] n) 9)) := by
  obtain ⟨i0, hi, hz0, hz1, hz2⟩ := info_parts info9
  have := run_make (P := Tryz.prog) w 44 9 i0 (.string ⟨#[]⟩) Tryz.underlying44 hi hz0 .i64 .i64 n n (by omega) (by omega) (by rw [hz2]; omega) (by omega)
  rw [hz1, Nat.mul_one] at this
  exact this
theorem made_size (z : Value) (n : Nat) : (madeCells #[z] n).size = n := by simp [madeCells]

theorem alloc_setRow (w : World) (cur cs : Array Value) (t : TypeId) : (w.alloc (.cells cur t)).setRow w.heap.size cs = w.alloc (.cells cs t) := by
  simp only [World.setRow, World.alloc]
  congr 1
  apply Array.ext_getElem?
  intro k
  rw [Array.getElem?_modify, Array.getElem?_push, Array.getElem?_push]
  by_cases h : w.heap.size = k
  · subst h; simp
  · rw [if_neg h]; simp [Ne.symm h]
/-- The texts that a slice tells, wherever it lies. -/
def TextsAt (w : World) (sp : Option Addr) (ts : List ByteArray) : Prop := 0 < ts.length → ∃ ad, sp = some ad ∧ ∀ j v, (ts.map Value.string)[j]? = some v → w.cell? (ad.add j) = some v

set_option maxRecDepth 100000 in
theorem copied_calls (sp : Option Addr) (cap : Nat) (ts : List ByteArray) (hn : ts.length ≤ 4294967296) (w : World) (hts : TextsAt w sp ts) :
    Calls Tryz.prog 74 #[.slice sp ts.length cap] w fun e w' => e = .returned (.slice (some ⟨w.heap.size, 0, none⟩) ts.length ts.length) ∧ w' = w.alloc (.cells (ts.map Value.string).toArray 9) := by
  obtain ⟨i0, hi0, hz0, hz1, hz2⟩ := info_parts info9
  have hmk := make_texts ts.length hn w
  have HT : Hid (TextsAt w sp ts) := hts
  have HL : Hid ((ts.map Value.string).length = ts.length) := by show _ = _; simp
  generalize hN : ts.length = N at *
  have HN : Hid (ts.length = N) := hN
  clear hts hN
  have hcp : (Builtin.copy_ #[44, 44] 3 #[.slice (some ⟨w.heap.size, 0, none⟩) N N, .slice sp N cap]).run Tryz.prog (w.alloc (.cells (madeCells #[.string ⟨#[]⟩] N) 9)) = .ok (.int .i64 N) (w.alloc (.cells (ts.map Value.string).toArray 9)) := by
    rw [← alloc_setRow w (madeCells #[.string ⟨#[]⟩] N) (ts.map Value.string).toArray 9]
    refine run_copy_fresh _ 44 44 3 9 i0 Tryz.underlying44 hi0 w.heap.size N N _ 9 (heap_alloc_new w _) (by rw [made_size, hz1, Nat.mul_one]) sp cap _ (by rw [HL.out, hz1, Nat.mul_one]) ?_ ?_
    · intro h0
      obtain ⟨ad, e, h⟩ := HT.out (by rw [HN.out]; exact h0)
      refine ⟨ad, e, fun j v hv => ?_⟩
      have h1 := h j v hv
      have hlt := World.block_lt_of_cell? w _ h1
      rw [World.cell?_of_block (w := w) (Below.heap_alloc _ _ _ hlt)]; exact h1
    · intro v hv; simp at hv; obtain ⟨u, _, rfl⟩ := hv; rfl
  go_enter Tryz.func74, Tryz.ntmps74
  go_wp2_with fail
  go_ret
  exact ⟨rfl, rfl⟩
end Go.Proofs.YtenmjjpkbcogbaaGreatDoor

/- MaI -/
namespace Go.Proofs.YtenmjjpkbcogbaaGreatDoor
open Go.RowKit

section
variable {pin : List (Nat × Obj)} {base b c : Nat} {l : Nat → Nat} {D : Dat} {w : World}

theorem Inv.listAdded (h : Inv pin base b c l D w) (ts : List ByteArray) (v1 v2 : Value) (R1 : Row base l (9 + 3 * D.ll.length) w 9 1 v1 ts.length (ts.map Value.string)) (R2 : Row base l (10 + 3 * D.ll.length) w 9 1 v2 ts.length (ts.map Value.string)) (hts : ts.length ≤ c)
    (o1 : Obj) (w1 : World) (g1 cap1 : Nat) (own1 : w1.ownsRow base 44 1 (.slice (some ⟨g1, 0, none⟩) (D.ll.length + 1) cap1) (D.ll.length + 1) (D.ll.map (fun p => p.1) ++ [v1])) (gr1 : (w.alloc o1).grownBy w1 D.ls.ownBlock) (hat1 : D.ls.ownBlock = some g1 ∨ g1 = w.heap.size + 1) :
    w1.heap[b]? = some (.cells (wcells D) 48 (0, 0)) ∧ base ≤ (w1.setCell ⟨b, 7, none⟩ (.slice (some ⟨g1, 0, none⟩) (D.ll.length + 1) cap1)).heap.size ∧
    (w1.setCell ⟨b, 7, none⟩ (.slice (some ⟨g1, 0, none⟩) (D.ll.length + 1) cap1)).heap[b]? = some (.cells ((wcells D).setIfInBounds 7 (.slice (some ⟨g1, 0, none⟩) (D.ll.length + 1) cap1)) 48 (0, 0)) ∧
    (w1.setCell ⟨b, 7, none⟩ (.slice (some ⟨g1, 0, none⟩) (D.ll.length + 1) cap1)).ownsRow base 44 1 D.lw D.ll.length (D.ll.map fun p => p.2.1) ∧
    ∀ (o2 : Obj) (w2 : World) (g2 cap2 : Nat), w2.ownsRow base 44 1 (.slice (some ⟨g2, 0, none⟩) (D.ll.length + 1) cap2) (D.ll.length + 1) (D.ll.map (fun p => p.2.1) ++ [v2]) →
      ((w1.setCell ⟨b, 7, none⟩ (.slice (some ⟨g1, 0, none⟩) (D.ll.length + 1) cap1)).alloc o2).grownBy w2 D.lw.ownBlock →
      (D.lw.ownBlock = some g2 ∨ g2 = (w1.setCell ⟨b, 7, none⟩ (.slice (some ⟨g1, 0, none⟩) (D.ll.length + 1) cap1)).heap.size + 1) →
      Good pin base b (c + 1) (w2.setCell ⟨b, 8, none⟩ (.slice (some ⟨g2, 0, none⟩) (D.ll.length + 1) cap2)) ∧ Below base w (w2.setCell ⟨b, 8, none⟩ (.slice (some ⟨g2, 0, none⟩) (D.ll.length + 1) cap2)) ∧
      w2.heap[b]? = some (.cells ((wcells D).setIfInBounds 7 (.slice (some ⟨g1, 0, none⟩) (D.ll.length + 1) cap1)) 48 (0, 0)) := by
  have hb0 : Below w.heap.size w (w.alloc o1) := (Below.refl _ _).alloc (Nat.le_refl _) _
  have h0 := h.below hb0
  obtain ⟨l1, m1, b1, d1, r1, hw1⟩ := appendSet h0.wd h0.wl h0.bb h0.bs h0.ls (by decide) own1 gr1 (by simpa using hat1) 7
  have hl1 : l1 b = 1 := (m1.lab b h0.lt).trans h0.wl
  have hbs1 := Nat.le_trans h0.bs b1.size
  have hlw1 := h0.lw.move m1 (by simp)
  refine ⟨hw1, hbs1, d1, hlw1.own, fun o2 w2 g2 cap2 own2 gr2 hat2 => ?_⟩
  have hb2 : Below (w1.setCell ⟨b, 7, none⟩ (.slice (some ⟨g1, 0, none⟩) (D.ll.length + 1) cap1)).heap.size (w1.setCell ⟨b, 7, none⟩ (.slice (some ⟨g1, 0, none⟩) (D.ll.length + 1) cap1)) ((w1.setCell ⟨b, 7, none⟩ (.slice (some ⟨g1, 0, none⟩) (D.ll.length + 1) cap1)).alloc o2) := (Below.refl _ _).alloc (Nat.le_refl _) _
  have mA := Moved.below l1 hb2
  have hltb : b < (w1.setCell ⟨b, 7, none⟩ (.slice (some ⟨g1, 0, none⟩) (D.ll.length + 1) cap1)).heap.size := Nat.lt_of_lt_of_le h0.lt b1.size
  obtain ⟨l2, m2, b2, d2, r2, hw2⟩ := appendSet (by rw [hb2.block b hltb]; exact d1) hl1 h0.bb (Nat.le_trans hbs1 hb2.size) (hlw1.move mA fun x => x) (by decide) own2 gr2 (by simpa using hat2) 8
  have mT : Moved (fun x => x = 5 ∨ x = 6 ∨ x = 1) l l2 w (w2.setCell ⟨b, 8, none⟩ (.slice (some ⟨g2, 0, none⟩) (D.ll.length + 1) cap2)) :=
    ((Moved.below l hb0).mono (fun x hx => hx.elim)).trans (((m1.mono (fun x hx => by rcases hx with hx | hx <;> simp [hx])).trans (mA.mono (fun x hx => hx.elim))).trans (m2.mono (fun x hx => by rcases hx with hx | hx <;> simp [hx])))
  have bT : Below base w (w2.setCell ⟨b, 8, none⟩ (.slice (some ⟨g2, 0, none⟩) (D.ll.length + 1) cap2)) := (hb0.mono h.bs).trans (b1.trans ((hb2.mono hbs1).trans b2))
  refine ⟨⟨l2, { D with ls := .slice (some ⟨g1, 0, none⟩) (D.ll.length + 1) cap1, lw := .slice (some ⟨g2, 0, none⟩) (D.ll.length + 1) cap2, ll := D.ll ++ [(v1, v2, ts)] }, h.upd _ mT bT _ (by omega) d2 (by simp) (.inl ⟨by simp, rfl, rfl⟩) (.inl ⟨by simp, rfl, rfl⟩) (.inl ⟨by simp, rfl, rfl⟩) (.inr ⟨?_, ?_, ?_⟩) (.inl ⟨by simp, rfl, rfl⟩)
    (.inl ⟨fun j hj => by omega, rfl⟩) (.inr ⟨?_, ?_⟩) (.inl ⟨rfl, rfl⟩) h.rng⟩, bT, hw2⟩
  · have := (r1.move mA fun x => x).move m2 (by simp)
    simpa using this
  · simpa using r2
  · simpa using h.nll
  · intro j p hp
    rcases Nat.lt_trichotomy j D.ll.length with hj | hj | hj
    · rw [List.getElem?_append_left hj] at hp
      exact ⟨(h.la j p hp).1.move mT (by simp; omega), by have := (h.la j p hp).2; omega⟩
    · subst hj
      simp at hp
      subst hp
      exact ⟨R1.move mT (by simp; omega), by simpa using Nat.le_succ_of_le hts⟩
    · rw [List.getElem?_eq_none (by simp; omega)] at hp; cases hp
  · intro j p hp
    rcases Nat.lt_trichotomy j D.ll.length with hj | hj | hj
    · rw [List.getElem?_append_left hj] at hp
      exact (h.lb j p hp).move mT (by simp; omega)
    · subst hj
      simp at hp
      subst hp
      exact R2.move mT (by simp; omega)
    · rw [List.getElem?_eq_none (by simp; omega)] at hp; cases hp

/-- The caller writes into a list of its own. -/
theorem Inv.cellSet (h : Inv pin base b c l D w) (k i : Nat) (p : Value × Value × List ByteArray) (hp : D.ll[k]? = some p) (t : ByteArray) (ga gb : Nat) (ha : p.1.ownBlock = some ga) (hb : p.2.1.ownBlock = some gb) :
    Good pin base b c ((w.setCell ⟨ga, i, none⟩ (.string t)).setCell ⟨gb, i, none⟩ (.string t)) ∧ Below base w ((w.setCell ⟨ga, i, none⟩ (.string t)).setCell ⟨gb, i, none⟩ (.string t)) := by
  have RA := (h.la k p hp).1
  have RB := h.lb k p hp
  have la := RA.lab ga ha
  have lb := RB.lab gb hb
  have hab : ga ≠ gb := fun e => by rw [e, lb] at la; omega
  have hga := RA.own.lt ga ha
  have hgb := RB.own.lt gb hb
  have m : Moved (fun x => x = 9 + 3 * k ∨ x = 10 + 3 * k) l l w ((w.setCell ⟨ga, i, none⟩ (.string t)).setCell ⟨gb, i, none⟩ (.string t)) :=
    ⟨by simp, fun _ _ => rfl, fun q hq hn => by
      rw [Below.heap_setCell _ _ _ q (by show q ≠ gb; intro e; exact hn (.inr (by rw [e]; exact lb))), Below.heap_setCell _ _ _ q (by show q ≠ ga; intro e; exact hn (.inl (by rw [e]; exact la)))]⟩
  have bl : Below base w ((w.setCell ⟨ga, i, none⟩ (.string t)).setCell ⟨gb, i, none⟩ (.string t)) := ((Below.refl _ _).setCell hga.1 _).setCell hgb.1 _
  have e1 : (D.ll.set k (p.1, p.2.1, p.2.2.set i t)).map (fun p => p.1) = D.ll.map (fun p => p.1) := by
    rw [List.map_set]
    apply List.ext_getElem?
    intro j
    by_cases hj : k = j
    · subst hj
      rw [List.getElem?_set_self (by simp; exact (List.getElem?_eq_some_iff.1 hp).1), List.getElem?_map, hp]; rfl
    · rw [List.getElem?_set_ne hj]
  have e2 : (D.ll.set k (p.1, p.2.1, p.2.2.set i t)).map (fun p => p.2.1) = D.ll.map (fun p => p.2.1) := by
    rw [List.map_set]
    apply List.ext_getElem?
    intro j
    by_cases hj : k = j
    · subst hj
      rw [List.getElem?_set_self (by simp; exact (List.getElem?_eq_some_iff.1 hp).1), List.getElem?_map, hp]; rfl
    · rw [List.getElem?_set_ne hj]
  refine ⟨⟨l, { D with ll := D.ll.set k (p.1, p.2.1, p.2.2.set i t) }, h.upd _ m bl _ (Nat.le_refl _) ?_ (by simp; omega) (.inl ⟨by simp; omega, rfl, rfl⟩) (.inl ⟨by simp; omega, rfl, rfl⟩) (.inl ⟨by simp; omega, rfl, rfl⟩) (.inl ⟨by simp; omega, by simp; omega, rfl, rfl, e1, e2⟩) (.inl ⟨by simp; omega, rfl, rfl⟩)
    (.inl ⟨fun j hj => by omega, rfl⟩) (.inr ⟨?_, ?_⟩) (.inl ⟨rfl, rfl⟩) h.rng⟩, bl⟩
  · rw [m.blk b h.lt (by rw [h.wl]; omega)]; exact h.wd
  · intro j q hq
    by_cases hj : k = j
    · subst hj
      rw [List.getElem?_set_self (by exact (List.getElem?_eq_some_iff.1 hp).1)] at hq
      cases hq
      refine ⟨⟨?_, fun g hg => RA.lab g hg⟩, by simpa using (h.la k p hp).2⟩
      have := own_set RA.own ha i (.string t)
      rw [← List.map_set] at this
      have := own_kept (w' := (w.setCell ⟨ga, i, none⟩ (.string t)).setCell ⟨gb, i, none⟩ (.string t)) this (fun g hg => Below.heap_setCell _ _ _ g (by
        show g ≠ gb
        rw [ha] at hg; cases hg; exact hab))
      simpa using this
    · rw [List.getElem?_set_ne hj] at hq
      exact ⟨(h.la j q hq).1.move m (by simp; omega), (h.la j q hq).2⟩
  · intro j q hq
    by_cases hj : k = j
    · subst hj
      rw [List.getElem?_set_self (by exact (List.getElem?_eq_some_iff.1 hp).1)] at hq
      cases hq
      refine ⟨?_, fun g hg => RB.lab g hg⟩
      have := own_kept (w' := w.setCell ⟨ga, i, none⟩ (.string t)) RB.own (fun g hg => Below.heap_setCell _ _ _ g (by
        show g ≠ ga
        rw [hb] at hg; cases hg; exact hab.symm))
      have := own_set this hb i (.string t)
      rw [← List.map_set] at this
      simpa using this
    · rw [List.getElem?_set_ne hj] at hq
      exact (h.lb j q hq).move m (by simp; omega)
end
end Go.Proofs.YtenmjjpkbcogbaaGreatDoor
