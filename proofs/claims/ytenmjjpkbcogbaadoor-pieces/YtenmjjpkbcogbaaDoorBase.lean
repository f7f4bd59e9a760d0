/-
  The plain part: the hash's words as a function of their places, what lies in a hasher's block, and what stays as it was.
-/
import Derived.WalkKit
import Derived.WalkSpells
import Derived.WalkLawsBesides
namespace Go.Proofs.YtenmjjpkbcogbaaDoor
open Go Go.RowKit

/-- a word, turned to the left by n bits -/
def rot (a : Int) (n : Nat) : Int := bits .or .u64 (IntKind.u64.wrap (a * 2 ^ n)) (a / 2 ^ ((64 - n) % 64))
def xo (a b : Int) : Int := bits .xor .u64 a b
def an (a b : Int) : Int := bits .andNot .u64 a b
def colF (ws : Nat → Int) (x : Nat) : Int := xo (xo (xo (xo (ws x) (ws (x + 5))) (ws (x + 10))) (ws (x + 15))) (ws (x + 20))
/-- the first step of a round, at place j -/
def mixF (ws : Nat → Int) (j : Nat) : Int := xo (ws j) (xo (colF ws ((j + 4) % 5)) (rot (colF ws ((j + 1) % 5)) 1))
def setF (ws : Nat → Int) (i : Nat) (v : Int) : Nat → Int := fun j => if j = i then v else ws j

/-- what lies in a hasher's block -/
def hcells (ws : Nat → Int) (t : Int) : Array Value := ((List.range 25).map (fun i => Value.int .u64 (ws i)) ++ [Value.int .i64 t]).toArray

structure Held (w : World) (b : Nat) (ws : Nat → Int) (t : Int) : Prop where
  block : w.heap[b]? = some (.cells (hcells ws t) 52 (0, 0))

/-- all but block b is as it was -/
structure Kept (b : Nat) (w w' : World) : Prop where
  os : w'.os = w.os
  tape : w'.tape = w.tape
  output : w'.output = w.output
  size : w.heap.size ≤ w'.heap.size
  block : ∀ i, i < w.heap.size → i ≠ b → w'.heap[i]? = w.heap[i]?

theorem hcells_at (ws : Nat → Int) (t : Int) (j : Nat) (h : j < 25) : (hcells ws t)[j]? = some (.int .u64 (ws j)) := by
  unfold hcells
  rw [List.getElem?_toArray, List.getElem?_append_left (by simpa using h)]
  simp [h]
theorem hcells_taken (ws : Nat → Int) (t : Int) : (hcells ws t)[25]? = some (.int .i64 t) := by
  unfold hcells
  rw [List.getElem?_toArray, List.getElem?_append_right (by simp)]
  simp
theorem hcells_size (ws : Nat → Int) (t : Int) : (hcells ws t).size = 26 := by simp [hcells]
theorem hcells_set (ws : Nat → Int) (t : Int) (i : Nat) (v : Int) (h : i < 25) : (hcells ws t).setIfInBounds i (.int .u64 v) = hcells (setF ws i v) t := by
  apply Array.ext_getElem?
  intro j
  rw [Array.getElem?_setIfInBounds]
  by_cases hij : i = j
  · subst hij
    rw [if_pos rfl, if_pos (by rw [hcells_size]; omega), hcells_at _ _ _ h]
    simp [setF]
  · rw [if_neg hij]
    by_cases hj : j < 25
    · rw [hcells_at _ _ _ hj, hcells_at _ _ _ hj]
      simp [setF, Ne.symm hij]
    · by_cases hj2 : j = 25
      · subst hj2; rw [hcells_taken, hcells_taken]
      · rw [Array.getElem?_eq_none (by rw [hcells_size]; omega), Array.getElem?_eq_none (by rw [hcells_size]; omega)]
theorem hcells_setTaken (ws : Nat → Int) (t u : Int) : (hcells ws t).setIfInBounds 25 (.int .i64 u) = hcells ws u := by
  apply Array.ext_getElem?
  intro j
  rw [Array.getElem?_setIfInBounds]
  by_cases hij : 25 = j
  · subst hij
    rw [if_pos rfl, if_pos (by rw [hcells_size]; omega), hcells_taken]
  · rw [if_neg hij]
    by_cases hj : j < 25
    · rw [hcells_at _ _ _ hj, hcells_at _ _ _ hj]
    · rw [Array.getElem?_eq_none (by rw [hcells_size]; omega), Array.getElem?_eq_none (by rw [hcells_size]; omega)]
theorem hcells_congr {ws vs : Nat → Int} (t : Int) (h : ∀ j, j < 25 → ws j = vs j) : hcells ws t = hcells vs t := by
  apply Array.ext_getElem?
  intro j
  by_cases hj : j < 25
  · rw [hcells_at _ _ _ hj, hcells_at _ _ _ hj, h j hj]
  · by_cases hj2 : j = 25
    · subst hj2; rw [hcells_taken, hcells_taken]
    · rw [Array.getElem?_eq_none (by rw [hcells_size]; omega), Array.getElem?_eq_none (by rw [hcells_size]; omega)]

namespace Held
variable {w : World} {b : Nat} {ws : Nat → Int} {t : Int}
theorem at_ (h : Held w b ws t) (j : Nat) (hj : j < 25) : w.cell? ⟨b, j, none⟩ = some (.int .u64 (ws j)) := by
  rw [cell_of_row w b j _ _ _ h.block, hcells_at _ _ _ hj]
theorem taken (h : Held w b ws t) : w.cell? ⟨b, 25, none⟩ = some (.int .i64 t) := by
  rw [cell_of_row w b 25 _ _ _ h.block, hcells_taken]
theorem free (h : Held w b ws t) (j : Nat) : w.frozen? ⟨b, j, none⟩ = false := frozen_of_row w b j _ _ h.block
theorem lt (h : Held w b ws t) : b < w.heap.size := by
  have := h.block
  rcases Nat.lt_or_ge b w.heap.size with h1 | h1
  · exact h1
  · rw [Array.getElem?_eq_none h1] at this; cases this
theorem set (h : Held w b ws t) (i : Nat) (v : Int) (hi : i < 25) : Held (w.setCell ⟨b, i, none⟩ (.int .u64 v)) b (setF ws i v) t :=
  ⟨by rw [heap_setCell_same w b i _ _ _ h.block, hcells_set _ _ _ _ hi]⟩
theorem setTaken (h : Held w b ws t) (u : Int) : Held (w.setCell ⟨b, 25, none⟩ (.int .i64 u)) b ws u :=
  ⟨by rw [heap_setCell_same w b 25 _ _ _ h.block, hcells_setTaken]⟩
theorem drew (h : Held w b ws t) : Held w.drew b ws t := ⟨h.block⟩
theorem drewN (h : Held w b ws t) (n : Nat) : Held (w.drewN n) b ws t := ⟨h.block⟩
theorem congr (h : Held w b ws t) {vs : Nat → Int} (e : ∀ j, j < 25 → ws j = vs j) : Held w b vs t := ⟨by rw [← hcells_congr t e]; exact h.block⟩
theorem kept {w' : World} {c : Nat} (h : Held w b ws t) (k : Kept c w w') (hn : b ≠ c) : Held w' b ws t := ⟨by rw [k.block b h.lt hn]; exact h.block⟩
end Held

namespace Kept
variable {b : Nat} {w w' w'' : World}
theorem refl (b : Nat) (w : World) : Kept b w w := ⟨rfl, rfl, rfl, Nat.le_refl _, fun _ _ _ => rfl⟩
theorem trans (h : Kept b w w') (k : Kept b w' w'') : Kept b w w'' :=
  ⟨k.os.trans h.os, k.tape.trans h.tape, k.output.trans h.output, Nat.le_trans h.size k.size, fun i hi hn => (k.block i (Nat.lt_of_lt_of_le hi h.size) hn).trans (h.block i hi hn)⟩
theorem drew (h : Kept b w w') : Kept b w w'.drew := ⟨h.os, h.tape, h.output, h.size, h.block⟩
theorem drewN (h : Kept b w w') (n : Nat) : Kept b w (w'.drewN n) := ⟨h.os, h.tape, h.output, h.size, h.block⟩
theorem set (h : Kept b w w') (i : Nat) (v : Value) : Kept b w (w'.setCell ⟨b, i, none⟩ v) :=
  ⟨h.os, h.tape, h.output, by simpa [World.setCell] using h.size, fun k hk hn => (heap_setCell_other w' ⟨b, i, none⟩ k v hn).trans (h.block k hk hn)⟩
theorem alloc (h : Kept b w w') (o : Obj) : Kept b w (w'.alloc o) :=
  ⟨h.os, h.tape, h.output, by have : (w'.alloc o).heap.size = w'.heap.size + 1 := (by show (w'.heap.push o).size = _; simp); rw [this]; exact Nat.le_succ_of_le h.size, fun k hk hn => (Below.heap_alloc w' o k (Nat.lt_of_lt_of_le hk h.size)).trans (h.block k hk hn)⟩
/-- what was written was not there before -/
theorem below (h : Kept b w w') (hb : w.heap.size ≤ b) : Below w.heap.size w w' := ⟨h.os, h.tape, h.output, h.size, fun k hk => h.block k hk (by omega)⟩
theorem of_below (h : Below w.heap.size w w') (b : Nat) : Kept b w w' := ⟨h.os, h.tape, h.output, h.size, fun k hk _ => h.block k hk⟩
end Kept
end Go.Proofs.YtenmjjpkbcogbaaDoor
