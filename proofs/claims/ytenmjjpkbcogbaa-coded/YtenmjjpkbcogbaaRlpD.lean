/-
  The walk of Decode.
-/
import Derived.Test.YtenmjjpkbcogbaaRlpS
namespace Go.Proofs.Ytenmjjpkbcogbaa
open Go.RowKit

def DecOut (w : World) (r : Except Nat Tree) (e : Ending) (w' : World) : Prop :=
  match r with
  | .error c => e = .returned (.tuple #[.agg #[.bool false, .string ByteArray.empty, .slice none 0 0], .int .i64 c]) ∧ c ≠ 0
  | .ok x => ∃ l t a m c, e = .returned (.tuple #[.agg #[.bool l, .string t, .slice a m c], .int .i64 0]) ∧ ItemIs 6 w' (fun b => w.heap.size ≤ b) [.bool l, .string t, .slice a m c] x

theorem decR_long (s : List UInt8) (h : 4096 < s.length) : decR s = .error 1 := by unfold decR; rw [if_pos h]
theorem decR_err (s : List UInt8) (h : ¬ 4096 < s.length) (c : Nat) (ht : takeR 6 s = .error c) : decR s = .error c := by unfold decR; rw [if_neg h, ht]
theorem decR_extra (s : List UInt8) (h : ¬ 4096 < s.length) (x : Tree) (u : Nat) (ht : takeR 6 s = .ok (x, u)) (hu : u < s.length) : decR s = .error 6 := by unfold decR; rw [if_neg h, ht]; simp only; rw [if_pos hu]
theorem decR_done (s : List UInt8) (h : ¬ 4096 < s.length) (x : Tree) (u : Nat) (ht : takeR 6 s = .ok (x, u)) (hu : ¬ u < s.length) : decR s = .ok x := by unfold decR; rw [if_neg h, ht]; simp only; rw [if_neg hu]

set_option maxRecDepth 100000 in
set_option maxHeartbeats 1000000 in
theorem decode_calls (w : World) (s : ByteArray) (hs : s.size ≤ maxLen) :
    Calls Try.prog 6 #[.string s] w fun e w' => DecOut w (decR s.data.toList) e w' ∧ Below w.heap.size w w' := by
  unfold maxLen at hs
  have hl : s.data.toList.length = s.size := by simp
  by_cases h4 : 4096 < s.size
  · rw [decR_long _ (by rw [hl]; exact h4)]
    have h4' : (4096 : Int) < (s.size : Int) := by omega
    clear hl
    go_enter Try.func6, Try.ntmps6
    go_wp2_with fail
    exact bodyPost_ret (v := .tuple #[.agg #[.bool false, .string ⟨#[]⟩, .slice none 0 0], .int .i64 1]) (by simp [results, Try.results6, go_sem]) rfl ⟨⟨rfl, by decide⟩, (Below.refl _ _).alloc (Nat.le_refl _) _⟩
  have h4' : ¬ ((4096 : Int) < (s.size : Int)) := by omega
  have h4l : ¬ 4096 < s.data.toList.length := by rw [hl]; exact h4
  have hread := fun w => (read_all 6).1 w s 1 (by omega) rfl
  cases hT : takeR 6 s.data.toList with
  | error c =>
    rw [decR_err _ h4l c hT]
    have hc0 := takeR_ne 6 _ _ hT
    have hc0' : ((c : Int) != 0) = true := by simp; omega
    rw [hT] at hread
    have HR : Hid (∀ w : World, Calls Try.prog 13 #[.string s, .int .i64 1] w fun e w' => ReadOut 6 w (.error c) e w' ∧ Below w.heap.size w w') := hread
    have HC0 : Hid (c ≠ 0) := hc0
    clear hl h4l hT hread hc0
    go_enter Try.func6, Try.ntmps6
    go_wp2_with fail
    refine (HR.out _).mono ?_
    rintro e w1 ⟨rfl, B1⟩
    obtain ⟨k0, k1, k2, f0, f1, f2⟩ := res3 B1
    have HB1 : Hid (Below w.heap.size w w1) := ((Below.refl _ _).alloc (Nat.le_refl _) _).trans (B1.mono (by simp))
    have hz : w.heap.size < w1.heap.size := by have := B1.size; simp at this; omega
    clear B1
    go_wp2_with fail
    exact bodyPost_ret (v := .tuple #[.agg #[.bool false, .string ⟨#[]⟩, .slice none 0 0], .int .i64 (c : Int)]) (by simp [results, Try.results6, go_sem, k0, k1, k2, hz]) rfl ⟨⟨rfl, HC0.out⟩, below_set3_alloc HB1.out hz _ _ _ _⟩
  | ok xu =>
    obtain ⟨x, u⟩ := xu
    rw [hT] at hread
    have HR : Hid (∀ w : World, Calls Try.prog 13 #[.string s, .int .i64 1] w fun e w' => ReadOut 6 w (.ok (x, u)) e w' ∧ Below w.heap.size w w') := hread
    by_cases hu : u < s.size
    · rw [decR_extra _ h4l x u hT (by rw [hl]; exact hu)]
      have hu' : (u : Int) < (s.size : Int) := by omega
      clear hl h4l hT hread
      go_enter Try.func6, Try.ntmps6
      go_wp2_with fail
      refine (HR.out _).mono ?_
      rintro e w1 ⟨⟨l, t, a, m, c, rfl, hit⟩, B1⟩
      obtain ⟨k0, k1, k2, f0, f1, f2⟩ := res3 B1
      have HB1 : Hid (Below w.heap.size w w1) := ((Below.refl _ _).alloc (Nat.le_refl _) _).trans (B1.mono (by simp))
      have hz : w.heap.size < w1.heap.size := by have := B1.size; simp at this; omega
      clear B1 hit
      go_wp2_with fail
      exact bodyPost_ret (v := .tuple #[.agg #[.bool false, .string ⟨#[]⟩, .slice none 0 0], .int .i64 6]) (by simp [results, Try.results6, go_sem, k0, k1, k2, hz]) rfl ⟨⟨rfl, by decide⟩, below_set3_alloc HB1.out hz _ _ _ _⟩
    · rw [decR_done _ h4l x u hT (by rw [hl]; exact hu)]
      have hu' : ¬ ((u : Int) < (s.size : Int)) := by omega
      clear hl h4l hT hread
      go_enter Try.func6, Try.ntmps6
      go_wp2_with fail
      refine (HR.out _).mono ?_
      rintro e w1 ⟨⟨l, t, a, m, c, rfl, hit⟩, B1⟩
      obtain ⟨k0, k1, k2, f0, f1, f2⟩ := res3 B1
      have HB1 : Hid (Below w.heap.size w w1) := ((Below.refl _ _).alloc (Nat.le_refl _) _).trans (B1.mono (by simp))
      have hz : w.heap.size < w1.heap.size := by have := B1.size; simp at this; omega
      have hmv : ∀ (W3 : World), (∀ b, b < w1.heap.size → b ≠ w.heap.size → W3.heap[b]? = w1.heap[b]?) → ItemIs 6 W3 (fun b => w.heap.size ≤ b) [.bool l, .string t, .slice a m c] x := fun W3 h3 => by
        refine ItemIs.move (w := w1) (S := fun b => w.heap.size + 1 ≤ b) (fun b hb hlt => ⟨by omega, h3 b hlt (by omega)⟩) 6 _ _ (by simpa using hit)
      have HMV : Hid (∀ (W3 : World), (∀ b, b < w1.heap.size → b ≠ w.heap.size → W3.heap[b]? = w1.heap[b]?) → ItemIs 6 W3 (fun b => w.heap.size ≤ b) [.bool l, .string t, .slice a m c] x) := hmv
      clear B1 hit hmv
      go_wp2_with fail
      exact bodyPost_ret (v := .tuple #[.agg #[.bool l, .string t, .slice a m c], .int .i64 0]) (by simp [results, Try.results6, go_sem, k0, k1, k2, hz]) rfl ⟨⟨l, t, a, m, c, rfl, HMV.out _ (fun b hlt hb => by
        rw [Below.heap_alloc _ _ _ (by simp [World.setCell]; omega)]
        simp [heap_setCell_other, hb])⟩, below_set3_alloc HB1.out hz _ _ _ _⟩
end Go.Proofs.Ytenmjjpkbcogbaa
