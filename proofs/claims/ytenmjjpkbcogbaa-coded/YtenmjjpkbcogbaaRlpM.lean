/-
  Items in memory.
-/
import Derived.Test.YtenmjjpkbcogbaaRlpA
namespace Go.Proofs.Ytenmjjpkbcogbaa
open Go.RowKit

/-- the cells of n items, three each, lie where the slice k says, in a block of S -/
structure RowIs (w : World) (S : Nat → Prop) (k : Value) (n : Nat) (xs : List Value) : Prop where
  len : xs.length = 3 * n
  lie : (n = 0 ∧ ∃ a c, k = .slice a 0 c) ∨ ∃ b o c, k = .slice (some ⟨b, o, none⟩) n c ∧ S b ∧ ∀ j, j < 3 * n → w.cell? ⟨b, o + j, none⟩ = xs[j]?

/-- the three cells cs are the item x, in memory of S -/
def ItemIs : Nat → World → (Nat → Prop) → List Value → Tree → Prop
  | 0, _, _, cs, x => ∃ t k, cs = [.bool false, .string t, k] ∧ x = textT t.data.toList ∧ t.size < 140737488355329
  | d + 1, w, S, cs, x => (∃ t k, cs = [.bool false, .string t, k] ∧ x = textT t.data.toList ∧ t.size < 140737488355329) ∨
    (∃ t k ks xs, cs = [.bool true, .string t, k] ∧ x = listT ks ∧ RowIs w S k ks.length xs ∧ ks.length < 140737488355329 ∧ ∀ i, i < ks.length → ItemIs d w S ((xs.drop (3 * i)).take 3) (ks.getD i (textT [])))

theorem item_text (d : Nat) (w : World) (S : Nat → Prop) (t : ByteArray) (k : Value) (h : t.size < 140737488355329) : ItemIs d w S [.bool false, .string t, k] (textT t.data.toList) := by
  cases d with
  | zero => exact ⟨t, k, rfl, rfl, h⟩
  | succ d => exact .inl ⟨t, k, rfl, rfl, h⟩
theorem item_list (d : Nat) (w : World) (S : Nat → Prop) (t : ByteArray) (k : Value) (ks : List Tree) (xs : List Value) (h : RowIs w S k ks.length xs) (hb : ks.length < 140737488355329) (hk : ∀ i, i < ks.length → ItemIs d w S ((xs.drop (3 * i)).take 3) (ks.getD i (textT []))) :
    ItemIs (d + 1) w S [.bool true, .string t, k] (listT ks) := .inr ⟨t, k, ks, xs, rfl, rfl, h, hb, hk⟩

theorem RowIs.move {w w' : World} {S S' : Nat → Prop} {k : Value} {n : Nat} {xs : List Value} (h : RowIs w S k n xs) (hS : ∀ b, S b → b < w.heap.size → S' b ∧ w'.heap[b]? = w.heap[b]?) : RowIs w' S' k n xs := by
  refine ⟨h.len, ?_⟩
  rcases h.lie with h0 | ⟨b, o, c, rfl, hb, hc⟩
  · exact .inl h0
  · by_cases hn : n = 0
    · subst hn; exact .inl ⟨rfl, _, _, rfl⟩
    · have h0 := hc 0 (by omega)
      have hx : xs[0]? = some (xs[0]'(by rw [h.len]; omega)) := List.getElem?_eq_getElem _
      rw [hx] at h0
      have hlt : b < w.heap.size := World.block_lt_of_cell? w _ h0
      obtain ⟨s1, s2⟩ := hS b hb hlt
      exact .inr ⟨b, o, c, rfl, s1, fun j hj => (World.cell?_of_block (w := w) (a := ⟨b, o + j, none⟩) s2).trans (hc j hj)⟩
/-- an item stays where its memory does -/
theorem ItemIs.move {w w' : World} {S S' : Nat → Prop} (hS : ∀ b, S b → b < w.heap.size → S' b ∧ w'.heap[b]? = w.heap[b]?) : ∀ (d : Nat) (cs : List Value) (x : Tree), ItemIs d w S cs x → ItemIs d w' S' cs x := by
  intro d
  induction d with
  | zero => intro cs x h; exact h
  | succ d ih =>
    intro cs x h
    rcases h with h | ⟨t, k, ks, xs, rfl, rfl, hr, hb, hk⟩
    · exact .inl h
    · exact .inr ⟨t, k, ks, xs, rfl, rfl, hr.move hS, hb, fun i hi => ih _ _ (hk i hi)⟩
theorem ItemIs.below {w w' : World} {S : Nat → Prop} {d : Nat} {cs : List Value} {x : Tree} (h : ItemIs d w S cs x) (k : Below w.heap.size w w') : ItemIs d w' S cs x :=
  ItemIs.move (fun b hb hlt => ⟨hb, k.block b hlt⟩) d cs x h
theorem RowIs.below {w w' : World} {S : Nat → Prop} {k : Value} {n : Nat} {xs : List Value} (h : RowIs w S k n xs) (b : Below w.heap.size w w') : RowIs w' S k n xs :=
  h.move (fun c hc hlt => ⟨hc, b.block c hlt⟩)

def fitsC (c : List UInt8) : Bool := decide (c.length ≤ 4096)
def outC (c : List UInt8) : ByteArray := if fitsC c then str c else ByteArray.empty
theorem fits_headed (l : Bool) (t : List UInt8) : fitsB (kindN l) t = fitsC (headU (kindN l) t.length ++ t) := by unfold fitsB fitsC; rw [List.length_append]
theorem outC_data (c : List UInt8) (h : fitsC c = true) : outC c = str c := by unfold outC; rw [h]; rfl

/-- the codes of the kids, as far as i -/
def codesTo (d : Nat) (ks : List Tree) (i : Nat) : List UInt8 := ((ks.take i).map (codeU d)).flatten
theorem codesTo_succ (d : Nat) (ks : List Tree) (i : Nat) (h : i < ks.length) : codesTo d ks (i + 1) = codesTo d ks i ++ codeU d (ks.getD i (textT [])) := by
  unfold codesTo
  have e : ks.getD i (textT []) = ks[i] := by simp [List.getD, List.getElem?_eq_getElem h]
  rw [List.take_succ_eq_append_getElem h, e, List.map_append, List.flatten_append]
  congr 1
  simp only [List.map_cons, List.map_nil, List.flatten_cons, List.flatten_nil, List.append_nil]
theorem codesTo_all (d : Nat) (ks : List Tree) (i : Nat) (h : ks.length ≤ i) : codesTo d ks i = (ks.map (codeU d)).flatten := by unfold codesTo; rw [List.take_of_length_le h]
theorem codesTo_le (d : Nat) (ks : List Tree) (i : Nat) : (codesTo d ks i).length ≤ ((ks.map (codeU d)).flatten).length := by
  have e : (ks.map (codeU d)).flatten = codesTo d ks i ++ ((ks.drop i).map (codeU d)).flatten := by
    unfold codesTo
    rw [← List.flatten_append, ← List.map_append, List.take_append_drop]
  rw [e, List.length_append]; omega
end Go.Proofs.Ytenmjjpkbcogbaa
