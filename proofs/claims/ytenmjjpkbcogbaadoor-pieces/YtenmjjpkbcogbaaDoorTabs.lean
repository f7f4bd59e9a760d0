/-
  The three tables, and a row of words that is no hasher's.
-/
import Derived.Test.YtenmjjpkbcogbaaDoorBase
namespace Go.Proofs.YtenmjjpkbcogbaaDoor
open Go Go.RowKit

def turnsT : List Nat := [0, 1, 62, 28, 27, 36, 44, 6, 55, 20, 3, 10, 43, 25, 39, 41, 45, 15, 21, 8, 18, 2, 61, 56, 14]
def movesT : List Nat := [0, 10, 20, 5, 15, 16, 1, 11, 21, 6, 7, 17, 2, 12, 22, 23, 8, 18, 3, 13, 14, 24, 9, 19, 4]
def wordsT : List Nat := [1, 32898, 9223372036854808714, 9223372039002292224, 32907, 2147483649, 9223372039002292353, 9223372036854808585, 138, 136, 2147516425, 2147483658, 2147516555, 9223372036854775947, 9223372036854808713, 9223372036854808579, 9223372036854808578, 9223372036854775936, 32778, 9223372039002259466, 9223372039002292353, 9223372036854808704, 2147483649, 9223372039002292232]
def turnsAt (i : Nat) : Nat := turnsT.getD i 0
def movesAt (i : Nat) : Nat := movesT.getD i 0
def wordsAt (i : Nat) : Nat := wordsT.getD i 0
theorem turnsAt_lt (i : Nat) (h : i < 25) : turnsAt i < 64 := by
  have : ∀ i : Fin 25, turnsAt i < 64 := by decide
  exact this ⟨i, h⟩
theorem movesAt_lt (i : Nat) (h : i < 25) : movesAt i < 25 := by
  have : ∀ i : Fin 25, movesAt i < 25 := by decide
  exact this ⟨i, h⟩

/-- what the program's three tables hold -/
structure Tabs (w : World) : Prop where
  size : 3 ≤ w.heap.size
  words : ∀ j, j < 24 → w.cell? ⟨0, j, none⟩ = some (.int .u64 (wordsAt j))
  turns : ∀ j, j < 25 → w.cell? ⟨1, j, none⟩ = some (.int .u64 (turnsAt j))
  moves : ∀ j, j < 25 → w.cell? ⟨2, j, none⟩ = some (.int .i64 (movesAt j))

theorem Tabs.kept {w w' : World} {b : Nat} (h : Tabs w) (k : Kept b w w') (hb : 3 ≤ b) : Tabs w' :=
  ⟨Nat.le_trans h.size k.size,
   fun j hj => (World.cell?_of_block (w := w) (k.block 0 (by have := h.size; omega) (by omega))).trans (h.words j hj),
   fun j hj => (World.cell?_of_block (w := w) (k.block 1 (by have := h.size; omega) (by omega))).trans (h.turns j hj),
   fun j hj => (World.cell?_of_block (w := w) (k.block 2 (by have := h.size; omega) (by omega))).trans (h.moves j hj)⟩

def rcells (vs : Nat → Int) : Array Value := ((List.range 25).map (fun i => Value.int .u64 (vs i))).toArray
theorem rcells_size (vs : Nat → Int) : (rcells vs).size = 25 := by simp [rcells]
theorem rcells_at (vs : Nat → Int) (j : Nat) (h : j < 25) : (rcells vs)[j]? = some (.int .u64 (vs j)) := by
  unfold rcells
  rw [List.getElem?_toArray]
  simp [h]
theorem rcells_set (vs : Nat → Int) (i : Nat) (v : Int) (h : i < 25) : (rcells vs).setIfInBounds i (.int .u64 v) = rcells (setF vs i v) := by
  apply Array.ext_getElem?
  intro j
  rw [Array.getElem?_setIfInBounds]
  by_cases hij : i = j
  · subst hij
    rw [if_pos rfl, if_pos (by rw [rcells_size]; omega), rcells_at _ _ h]
    simp [setF]
  · rw [if_neg hij]
    by_cases hj : j < 25
    · rw [rcells_at _ _ hj, rcells_at _ _ hj]
      simp [setF, Ne.symm hij]
    · rw [Array.getElem?_eq_none (by rw [rcells_size]; omega), Array.getElem?_eq_none (by rw [rcells_size]; omega)]

/-- a row of 25 words by itself -/
structure RowAt (w : World) (b : Nat) (vs : Nat → Int) : Prop where
  block : w.heap[b]? = some (.cells (rcells vs) 50 (0, 0))
namespace RowAt
variable {w : World} {b : Nat} {vs : Nat → Int}
theorem at_ (h : RowAt w b vs) (j : Nat) (hj : j < 25) : w.cell? ⟨b, j, none⟩ = some (.int .u64 (vs j)) := by
  rw [cell_of_row w b j _ _ _ h.block, rcells_at _ _ hj]
theorem free (h : RowAt w b vs) (j : Nat) : w.frozen? ⟨b, j, none⟩ = false := frozen_of_row w b j _ _ h.block
theorem set (h : RowAt w b vs) (i : Nat) (v : Int) (hi : i < 25) : RowAt (w.setCell ⟨b, i, none⟩ (.int .u64 v)) b (setF vs i v) :=
  ⟨by rw [heap_setCell_same w b i _ _ _ h.block, rcells_set _ _ _ hi]⟩
theorem drew (h : RowAt w b vs) : RowAt w.drew b vs := ⟨h.block⟩
theorem drewN (h : RowAt w b vs) (n : Nat) : RowAt (w.drewN n) b vs := ⟨h.block⟩
theorem other (h : RowAt w b vs) (c i : Nat) (v : Value) (hn : b ≠ c) : RowAt (w.setCell ⟨c, i, none⟩ v) b vs := ⟨by rw [heap_setCell_other w ⟨c, i, none⟩ b v hn]; exact h.block⟩
end RowAt
theorem Held.other {w : World} {b : Nat} {ws : Nat → Int} {t : Int} (h : Held w b ws t) (c i : Nat) (v : Value) (hn : b ≠ c) : Held (w.setCell ⟨c, i, none⟩ v) b ws t := ⟨by rw [heap_setCell_other w ⟨c, i, none⟩ b v hn]; exact h.block⟩
theorem Kept.new {b : Nat} {w w' : World} (h : Kept b w w') (g i : Nat) (v : Value) (hg : w.heap.size ≤ g) : Kept b w (w'.setCell ⟨g, i, none⟩ v) :=
  ⟨h.os, h.tape, h.output, by simpa [World.setCell] using h.size, fun k hk hn => (heap_setCell_other w' ⟨g, i, none⟩ k v (by show k ≠ g; omega)).trans (h.block k hk hn)⟩

/-- the second step, as far as place k -/
def vTo (ws : Nat → Int) : Nat → Nat → Int
  | 0 => fun _ => 0
  | k + 1 => setF (vTo ws k) (movesAt k) (rot (ws k) (turnsAt k))
/-- the third step, at place j -/
def chiF (vs : Nat → Int) (j : Nat) : Int := xo (vs j) (an (vs (j / 5 * 5 + (j + 2) % 5)) (vs (j / 5 * 5 + (j + 1) % 5)))
def chiTo (ws vs : Nat → Int) (k : Nat) : Nat → Int := fun j => if j < k then chiF vs j else ws j

theorem chiTo_row (ws vs : Nat → Int) (k : Nat) (a b c d e : Int) (h5 : k % 5 = 0) (ea : vs k = a) (eb : vs (k + 1) = b) (ec : vs (k + 2) = c) (ed : vs (k + 3) = d) (ee : vs (k + 4) = e) (j : Nat) :
    setF (setF (setF (setF (setF (chiTo ws vs k) k (xo a (an c b))) (k + 1) (xo b (an d c))) (k + 2) (xo c (an e d))) (k + 3) (xo d (an a e))) (k + 4) (xo e (an b a)) j = chiTo ws vs (k + 5) j := by
  subst ea eb ec ed ee
  unfold setF
  by_cases j4 : j = k + 4
  · subst j4
    rw [if_pos rfl]; simp only [chiTo, if_pos (show k + 4 < k + 5 by omega), chiF, show (k + 4) / 5 * 5 + (k + 4 + 2) % 5 = k + 1 by omega, show (k + 4) / 5 * 5 + (k + 4 + 1) % 5 = k by omega]
  rw [if_neg j4]
  by_cases j3 : j = k + 3
  · subst j3
    rw [if_pos rfl]; simp only [chiTo, if_pos (show k + 3 < k + 5 by omega), chiF, show (k + 3) / 5 * 5 + (k + 3 + 2) % 5 = k by omega, show (k + 3) / 5 * 5 + (k + 3 + 1) % 5 = k + 4 by omega]
  rw [if_neg j3]
  by_cases j2 : j = k + 2
  · subst j2
    rw [if_pos rfl]; simp only [chiTo, if_pos (show k + 2 < k + 5 by omega), chiF, show (k + 2) / 5 * 5 + (k + 2 + 2) % 5 = k + 4 by omega, show (k + 2) / 5 * 5 + (k + 2 + 1) % 5 = k + 3 by omega]
  rw [if_neg j2]
  by_cases j1 : j = k + 1
  · subst j1
    rw [if_pos rfl]; simp only [chiTo, if_pos (show k + 1 < k + 5 by omega), chiF, show (k + 1) / 5 * 5 + (k + 1 + 2) % 5 = k + 3 by omega, show (k + 1) / 5 * 5 + (k + 1 + 1) % 5 = k + 2 by omega]
  rw [if_neg j1]
  by_cases j0 : j = k
  · subst j0
    rw [if_pos rfl]; simp only [chiTo, if_pos (show j < j + 5 by omega), chiF, show j / 5 * 5 + (j + 2) % 5 = j + 2 by omega, show j / 5 * 5 + (j + 1) % 5 = j + 1 by omega]
  rw [if_neg j0]
  unfold chiTo
  by_cases jl : j < k
  · rw [if_pos jl, if_pos (by omega)]
  · rw [if_neg jl, if_neg (by omega)]
theorem chiTo_end (ws vs : Nat → Int) (j : Nat) (h : j < 25) : chiTo ws vs 25 j = chiF vs j := by simp [chiTo, h]
theorem chiTo_zero (ws vs : Nat → Int) (j : Nat) : chiTo ws vs 0 j = ws j := by simp [chiTo]
end Go.Proofs.YtenmjjpkbcogbaaDoor
