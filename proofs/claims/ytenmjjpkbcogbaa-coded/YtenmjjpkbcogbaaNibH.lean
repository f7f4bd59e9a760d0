/-
  The walk of halves.
-/
import Derived.Test.YtenmjjpkbcogbaaNibU
namespace Go.Proofs.Ytenmjjpkbcogbaa
open Go.RowKit
/-- the first k bytes' half bytes, noughts behind -/
def halfTo (l : List UInt8) (k : Nat) : List UInt8 := halvesU (l.take k) ++ List.replicate (2 * (l.length - k)) 0
theorem halfTo_set (l : List UInt8) (k : Nat) (h : k < l.length) : ((halfTo l k).set (2 * k) (hi l[k])).set (2 * k + 1) (lo l[k]) = halfTo l (k + 1) := by
  unfold halfTo
  have hl : (halvesU (l.take k)).length = 2 * k := by rw [halvesU_length, List.length_take]; omega
  have e : 2 * (l.length - k) = 2 * (l.length - (k + 1)) + 1 + 1 := by omega
  rw [e, List.replicate_succ, List.replicate_succ]
  rw [List.set_append_right _ _ (by omega), hl, Nat.sub_self, List.set_cons_zero, List.set_append_right _ _ (by omega), hl, show 2 * k + 1 - 2 * k = 1 by omega, List.set_cons_succ, List.set_cons_zero]
  rw [List.take_succ_eq_append_getElem h, halvesU_append, List.append_assoc]
  rfl
theorem u8c_set (l : List UInt8) (i : Nat) (c : UInt8) : (u8c l).set i (.int .u8 (c.toNat : Int)) = u8c (l.set i c) := by unfold u8c; rw [List.map_set]

set_option maxRecDepth 100000 in
set_option maxHeartbeats 400000 in
theorem halves_calls (s : ByteArray) (hs : s.size < 4096) (w : World) :
    Calls Try.prog 11 #[.string s] w fun e w' => e = .returned (.string (str (halvesU s.data.toList))) ∧ Below w.heap.size w w' := by
  have hmk := make_bytes (2 * (s.size : Int)) (2 * (s.size : Int)) (by omega) (by omega) (by omega)
  have hi63 : (2 * (s.size : Int)).toNat = 2 * s.size := by omega
  have hlen : s.data.toList.length = s.size := by simp
  have HL : Hid (s.data.toList.length = s.size) := hlen
  clear hlen
  go_enter Try.func11, Try.ntmps11
  go_wp2_with fail
  have hown : (w.alloc (.cells (madeCells #[.int .u8 0] (2 * s.size)) 5)).ownsRow w.heap.size 5 1 (.slice (some ⟨w.heap.size, 0, none⟩) (2 * s.size) (2 * s.size)) (2 * s.size) (u8c (halfTo s.data.toList 0)) := by
    refine ⟨by simp [u8c, halfTo, halvesU, HL.out], .inr ⟨w.heap.size, _, _, rfl, Nat.le_refl _, heap_alloc_new _ _, Nat.le_refl _, by unfold maxLen; omega, by rw [size_madeCells, Nat.mul_one], ?_⟩⟩
    rw [toList_madeCells_one, Nat.mul_one, List.take_of_length_le (by simp)]
    simp [u8c, halfTo, halvesU, HL.out]
  have hbel := (Below.refl w.heap.size w).alloc (Nat.le_refl _) (.cells (madeCells #[.int .u8 0] (2 * s.size)) 5)
  generalize hW : w.alloc (.cells (madeCells #[.int .u8 0] (2 * s.size)) 5) = W1 at *
  obtain ⟨g, hg⟩ : ∃ g, g = w.heap.size := ⟨_, rfl⟩
  obtain ⟨N, hN⟩ : ∃ N, N = 2 * s.size := ⟨_, rfl⟩
  have HGs : Hid (w.heap.size ≤ g) := Nat.le_of_eq hg.symm
  have HNN : Hid (N = 2 * s.size) := hN
  have HO2 : Hid (W1.ownsRow w.heap.size 5 1 (.slice (some ⟨g, 0, none⟩) N N) N (u8c (halfTo s.data.toList 0))) := by rw [hg, hN]; exact hown
  have HB2 : Hid (Below w.heap.size w W1) := hbel
  rw [← hg, ← hN]
  have hNb : N < 8192 := by omega
  clear hW hown hbel hmk hi63 hg hN
  go_loopg [4] s.size (fun n r wr => ∃ k : Nat, n = s.size - k ∧ k ≤ s.size ∧ r = .int .i64 k ∧ wr.ownsRow w.heap.size 5 1 (.slice (some ⟨g, 0, none⟩) N N) N (u8c (halfTo s.data.toList k)) ∧ Below w.heap.size w wr)
  case atStart => exact ⟨0, rfl, by omega, rfl, HO2.out, HB2.out⟩
  case round =>
    obtain ⟨k, hgk, hk, rfl, hown, hbel⟩ := hrel
    have HG : Hid (gk = s.size - k) := hgk
    clear hgk HO2 HB2
    by_cases hlt : k < s.size
    · have hd2 := div16 s[k]
      have ha2 := and15 s[k]
      have HS : Hid (((halfTo s.data.toList k).set (2 * k) (hi s[k])).set (2 * k + 1) (lo s[k]) = halfTo s.data.toList (k + 1)) := halfTo_set s.data.toList k (by rw [HL.out]; exact hlt)
      have hNk : 2 * k + 1 < N := by have := HNN.out; omega
      obtain ⟨q0, c0⟩ : ∃ q, wr.cell? ⟨g, 2 * k, none⟩ = some q := by
        rw [hown.cellAt (2 * k) (by omega)]
        have : 2 * k < (u8c (halfTo s.data.toList k)).length := by rw [hown.1]; omega
        exact ⟨_, List.getElem?_eq_getElem this⟩
      obtain ⟨q1, c1⟩ : ∃ q, wr.cell? ⟨g, 2 * k + 1, none⟩ = some q := by
        rw [hown.cellAt (2 * k + 1) (by omega)]
        have : 2 * k + 1 < (u8c (halfTo s.data.toList k)).length := by rw [hown.1]; omega
        exact ⟨_, List.getElem?_eq_getElem this⟩
      have f0 := hown.frozenAt (2 * k)
      have f1 := hown.frozenAt (2 * k + 1)
      have HOW : Hid (wr.ownsRow w.heap.size 5 1 (.slice (some ⟨g, 0, none⟩) N N) N (u8c (halfTo s.data.toList k))) := hown
      have HBE : Hid (Below w.heap.size w wr) := hbel
      clear hown hbel
      generalize hcA : hi s[k] = cA at *
      generalize hcB : lo s[k] = cB at *
      clear hcA hcB
      have il : (2 : Int) * (k : Int) < (N : Int) := by omega
      have il1 : (2 : Int) * (k : Int) + 1 < (N : Int) := by omega
      have i0 : (0 : Int) ≤ 2 * (k : Int) := by omega
      have i1 : (0 : Int) ≤ 2 * (k : Int) + 1 := by omega
      have t0 : (2 * (k : Int)).toNat = 2 * k := by omega
      have t1 : (2 * (k : Int) + 1).toNat = 2 * k + 1 := by omega
      go_wp2
      go_roundg (s.size - (k + 1))
      case measure => have := HG.out; omega
      case rel =>
        refine ⟨k + 1, rfl, by omega, by go_num, ?_, (HBE.out.setCell HGs.out _).setCell HGs.out _⟩
        have h1 := (HOW.out.stored (2 * k) (.int .u8 (cA.toNat : Int))).1
        rw [u8c_set] at h1
        have h2 := (h1.stored (2 * k + 1) (.int .u8 (cB.toNat : Int))).1
        rw [u8c_set, HS.out] at h2
        exact h2
    · have : k = s.size := by omega
      subst this
      have hfin : halfTo s.data.toList s.size = halvesU s.data.toList := by
        unfold halfTo; rw [HL.out, Nat.sub_self, List.take_of_length_le (by rw [HL.out]; omega)]; simp
      have hconv := run_convert_bytes_arg (P := Try.prog) wr 41 5 Try.underlying41 Try.underlying5 g 0 N N ((halvesU s.data.toList).map (fun c => (c.toNat : Int))) (by
          rw [List.length_map, halvesU_length, HL.out, HNN.out]) (fun i hi' => by
          have := hown.cellAt i (by rw [Nat.mul_one]; exact hi')
          rw [Nat.zero_add, this, hfin]
          have hlen' : i < (halvesU s.data.toList).length := by rw [halvesU_length, HL.out, ← HNN.out]; exact hi'
          simp [u8c, List.getD, List.getElem?_eq_getElem hlen']) 9 Try.underlying9
      rw [strOfNums_bytes] at hconv
      have HBE : Hid (Below w.heap.size w wr) := hbel
      clear hown hbel hfin
      go_wp2_with fail
      go_ret
      exact ⟨rfl, HBE.out⟩
end Go.Proofs.Ytenmjjpkbcogbaa
