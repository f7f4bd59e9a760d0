/-
  The walk of head: the first 32 bytes of the words.
-/
import Derived.Test.YtenmjjpkbcogbaaDoorSmall
import Derived.Deep.LoopGhost
namespace Go.Proofs.YtenmjjpkbcogbaaDoor
open Go.RowKit

def headB (ws : Nat → Int) (i : Nat) : Int := IntKind.u8.wrap (ws (i / 8) / 2 ^ (i % 8 * 8))
def headS (ws : Nat → Int) : ByteArray := strOfNums ((List.range 32).map (headB ws))
theorem headS_size (ws : Nat → Int) : (headS ws).size = 32 := by unfold headS; rw [strOfNums_size]; simp
def headTo (ws : Nat → Int) (k : Nat) (i : Nat) : Int := if i < k then headB ws i else 0

def bcells (f : Nat → Int) : Array Value := ((List.range 32).map (fun i => Value.int .u8 (f i))).toArray
theorem bcells_size (f : Nat → Int) : (bcells f).size = 32 := by simp [bcells]
theorem bcells_at (f : Nat → Int) (j : Nat) (h : j < 32) : (bcells f)[j]? = some (.int .u8 (f j)) := by
  unfold bcells
  rw [List.getElem?_toArray]
  simp [h]
theorem bcells_set (f : Nat → Int) (i : Nat) (v : Int) (h : i < 32) : (bcells f).setIfInBounds i (.int .u8 v) = bcells (setF f i v) := by
  apply Array.ext_getElem?
  intro j
  rw [Array.getElem?_setIfInBounds]
  by_cases hij : i = j
  · subst hij
    rw [if_pos rfl, if_pos (by rw [bcells_size]; omega), bcells_at _ _ h]
    simp [setF]
  · rw [if_neg hij]
    by_cases hj : j < 32
    · rw [bcells_at _ _ hj, bcells_at _ _ hj]
      simp [setF, Ne.symm hij]
    · rw [Array.getElem?_eq_none (by rw [bcells_size]; omega), Array.getElem?_eq_none (by rw [bcells_size]; omega)]
theorem headTo_succ (ws : Nat → Int) (k : Nat) : setF (headTo ws k) k (headB ws k) = headTo ws (k + 1) := by
  funext j
  unfold setF headTo
  by_cases h : j = k
  · subst h; rw [if_pos rfl, if_pos (by omega)]
  · rw [if_neg h]
    by_cases h2 : j < k
    · rw [if_pos h2, if_pos (by omega)]
    · rw [if_neg h2, if_neg (by omega)]
theorem make_run (w : World) : (Instr.makeSlice 54 (.int .i64 32) (.int .i64 32)).run Tryd.prog w = .ok (.slice (some ⟨w.heap.size, 0, none⟩) 32 32) (w.alloc (.cells (bcells fun _ => 0) 5)) := by kernel_rfl

set_option maxRecDepth 100000 in
set_option maxHeartbeats 400000 in
theorem head_calls (ws : Nat → Int) (t : Int) (w : World) (b : Nat) (H : Held w b ws t) :
    Calls Tryd.prog 30 #[.pointer (some ⟨b, 0, none⟩)] w fun e w' => e = .returned (.string (headS ws)) ∧ Below w.heap.size w w' := by
  have hmk := make_run
  have hbs := H.lt
  go_enter Tryd.func30, Tryd.ntmps30
  go_wp2_with fail
  obtain ⟨g, hg⟩ : ∃ g, g = w.heap.size := ⟨_, rfl⟩
  have HV : Hid (g = w.heap.size) := hg
  rw [← hg]
  clear hmk
  go_loopg [4] 32 (fun n r wr => ∃ k : Nat, n = 32 - k ∧ k ≤ 32 ∧ r = .int .i64 k ∧ wr.heap[g]? = some (.cells (bcells (headTo ws k)) 5 (0, 0)) ∧ Held wr b ws t ∧ Below g w wr)
  case atStart =>
    refine ⟨0, rfl, by omega, rfl, by rw [hg]; exact heap_alloc_new _ _, H.kept ((Kept.refl (b + 1) w).alloc _) (by omega), ?_⟩
    rw [hg]; exact (Below.refl _ _).alloc (Nat.le_refl _) _
  case round =>
    obtain ⟨k, hgk, hk, rfl, HR, HK, KK⟩ := hrel
    have HG : Hid (gk = 32 - k) := hgk
    have HRR : Hid (wr.heap[g]? = some (.cells (bcells (headTo ws k)) 5 (0, 0))) := HR
    have HHK : Hid (Held wr b ws t) := HK
    have HKK : Hid (Below g w wr) := KK
    clear hgk hg HR KK H
    by_cases hlt : k < 32
    · have c0 := HK.at_ (k / 8) (by omega)
      have c1 : wr.cell? ⟨g, k, none⟩ = some (.int .u8 (headTo ws k k)) := by rw [cell_of_row wr g k _ _ _ HRR.out, bcells_at _ _ hlt]
      have f1 : wr.frozen? ⟨g, k, none⟩ = false := frozen_of_row wr g k _ _ HRR.out
      have hmin : min (k % 8 * 8) 64 = k % 8 * 8 := by omega
      generalize headTo ws k k = z at c1
      clear HK
      go_wp2_with fail
      go_roundg (32 - (k + 1))
      case measure => have := HG.out; omega
      case rel =>
        refine ⟨k + 1, rfl, by omega, by go_num, ?_, HHK.out.kept ((Kept.refl g _).set _ _) (by have := HV.out; omega), HKK.out.setCell (Nat.le_refl _) _⟩
        rw [heap_setCell_same _ _ _ _ _ _ HRR.out, ← headTo_succ, ← bcells_set _ _ _ hlt]
        rfl
    · have : k = 32 := by omega
      subst this
      have hxs : headTo ws 32 = fun i => if i < 32 then headB ws i else 0 := rfl
      have hconv := run_convert_bytes_arg (P := Tryd.prog) wr 54 5 Tryd.underlying54 Tryd.underlying5 g 0 32 32 ((List.range 32).map (headB ws)) (by simp) (fun i hi => by
        rw [Nat.zero_add, cell_of_row wr g i _ _ _ HRR.out, bcells_at _ _ hi]
        simp [headTo, hi]) 9 Tryd.underlying9
      clear HK
      go_wp2_with fail
      go_ret
      exact ⟨rfl, by rw [← HV.out]; exact HKK.out⟩
end Go.Proofs.YtenmjjpkbcogbaaDoor
