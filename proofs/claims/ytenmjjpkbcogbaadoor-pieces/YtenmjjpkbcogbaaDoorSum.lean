/-
  The walks of both Sums.
-/
import Derived.Test.YtenmjjpkbcogbaaDoorWrite
import Derived.Test.YtenmjjpkbcogbaaDoorNew
import Derived.Test.YtenmjjpkbcogbaaDoorHead
namespace Go.Proofs.YtenmjjpkbcogbaaDoor
open Go.RowKit

def sumF (st : (Nat → Int) × Nat) : ByteArray := headS (permF (flipF (flipF st.1 st.2 1) 135 128))
theorem sumF_size (st : (Nat → Int) × Nat) : (sumF st).size = 32 := headS_size _
def startF : (Nat → Int) × Nat := (zeroF, 0)
def hashF (s : ByteArray) : ByteArray := sumF (writeF startF s.data.toList)

theorem Tabs.below {w w' : World} (h : Tabs w) (k : Below w.heap.size w w') : Tabs w' := h.kept (Kept.of_below k 3) (Nat.le_refl _)
theorem Held.below {w w' : World} {b : Nat} {ws : Nat → Int} {t : Int} (h : Held w b ws t) (k : Below w.heap.size w w') : Held w' b ws t := h.kept (Kept.of_below k (b + 1)) (by omega)

/-- what is made and written lies above -/
theorem below_kept {n b : Nat} {w w1 w2 : World} (h1 : Below n w w1) (h : Kept b w1 w2) (hn : n ≤ w.heap.size) (hb : n ≤ b) : Below n w w2 :=
  ⟨h.os.trans h1.os, h.tape.trans h1.tape, h.output.trans h1.output, Nat.le_trans h1.size h.size, fun k hk => (h.block k (Nat.lt_of_lt_of_le hk (Nat.le_trans hn h1.size)) (by omega)).trans (h1.block k hk)⟩
theorem below_below {n : Nat} {w w1 w2 : World} (h1 : Below n w w1) (h : Below w1.heap.size w1 w2) (hn : n ≤ w.heap.size) : Below n w w2 :=
  h1.trans (h.mono (Nat.le_trans hn h1.size))
theorem below_chain {v : Nat} {w w1 w4 w5 : World} (hv : w.heap.size = v) (h1 : Below v w w1) (h4 : Kept v w1 w4) (B5 : Below w4.heap.size w4 w5) : Below w.heap.size w w5 := by
  subst hv
  exact below_below (below_kept h1 h4 (Nat.le_refl _) (Nat.le_refl _)) B5 (Nat.le_refl _)

/-- flip, of a hasher's block -/
theorem flip_held (ws : Nat → Int) (t : Int) (i c : Nat) (hi : i < 136) (hc : c < 256) (w : World) (b : Nat) (H : Held w b ws t) :
    Calls Tryd.prog 28 #[.pointer (some ⟨b, 0, none⟩), .int .i64 i, .int .u8 c] w fun e w' => e = .returned (.tuple #[]) ∧ Held w' b (flipF ws i c) t ∧ Kept b w w' :=
  (flip_calls i c hc (ws (i / 8)) w b hi (H.at_ _ (by omega)) (H.free _)).mono fun e w' ⟨he, hw⟩ => by
    subst hw
    exact ⟨he, (H.set (i / 8) _ (by omega)).drew, ((Kept.refl _ _).set _ _).drew⟩

set_option maxRecDepth 100000 in
set_option maxHeartbeats 400000 in
theorem sumM_calls (st : (Nat → Int) × Nat) (w : World) (b : Nat) (H : Held w b st.1 st.2) (ht : st.2 < 136) (T : Tabs w) :
    Calls Tryd.prog 18 #[.pointer (some ⟨b, 0, none⟩)] w fun e w' => e = .returned (.string (sumF st)) ∧ Below w.heap.size w w' := by
  obtain ⟨ws, t⟩ := st
  have h3 := T.size
  have HF : Hid (sumF (ws, t) = headS (permF (flipF (flipF ws t 1) 135 128))) := rfl
  simp only at H ht
  go_enter Tryd.func18, Tryd.ntmps18
  go_wp2_with fail
  refine (copy_calls ws t _ b H).mono ?_
  rintro e w1 ⟨rfl, hw1⟩
  have H1 : Held w1 w.heap.size ws t := by rw [hw1]; exact ⟨heap_alloc_new _ _⟩
  have B1 : Below w.heap.size w w1 := by rw [hw1]; exact ((Below.refl _ _).alloc (Nat.le_refl _) _).drew
  have T1 := T.below B1
  have HH1 : Hid (Held w1 w.heap.size ws t) := H1
  have HB1 : Hid (Below w.heap.size w w1) := B1
  have HT1 : Hid (Tabs w1) := T1
  have HV : Hid (3 ≤ w.heap.size) := h3
  have c1 := H1.taken
  clear hw1 H1 B1 T1 H T h3
  generalize hv : w.heap.size = v at *
  go_wp2_with fail
  refine (flip_held ws t t 1 ht (by omega) _ v HH1.out).mono ?_
  rintro e w2 ⟨rfl, H2, K2⟩
  have HH2 : Hid (Held w2 v (flipF ws t 1) t) := H2
  have HK2 : Hid (Kept v w1 w2) := K2
  clear H2 K2 c1
  go_wp2_with fail
  refine (flip_held _ t 135 128 (by omega) (by omega) _ v HH2.out).mono ?_
  rintro e w3 ⟨rfl, H3, K3⟩
  have HH3 : Hid (Held w3 v (flipF (flipF ws t 1) 135 128) t) := H3
  have HK3 : Hid (Kept v w1 w3) := HK2.out.trans K3
  clear H3 K3
  go_wp2_with fail
  refine (mix_calls _ t _ v HH3.out (HT1.out.kept HK3.out HV.out) HV.out).mono ?_
  rintro e w4 ⟨rfl, H4, K4⟩
  have HH4 : Hid (Held w4 v (permF (flipF (flipF ws t 1) 135 128)) t) := H4
  have HK4 : Hid (Kept v w1 w4) := HK3.out.trans K4
  clear H4 K4
  go_wp2_with fail
  refine (head_calls _ t _ v HH4.out).mono ?_
  rintro e w5 ⟨rfl, B5⟩
  go_wp2_with fail
  go_ret
  refine ⟨by rw [HF.out]; rfl, ?_⟩
  have h4 := HK4.out
  have h1 := HB1.out
  exact below_chain hv h1 h4 B5

set_option maxRecDepth 100000 in
set_option maxHeartbeats 400000 in
theorem sum_calls (s : ByteArray) (hs : s.size ≤ maxLen) (w : World) (T : Tabs w) :
    Calls Tryd.prog 14 #[.string s] w fun e w' => e = .returned (.string (hashF s)) ∧ Below w.heap.size w w' := by
  have h3 := T.size
  have HF : Hid (hashF s = sumF (writeF startF s.data.toList)) := rfl
  have hlt : (writeF startF s.data.toList).2 < 136 := writeF_lt _ _ (by decide)
  have HL : Hid ((writeF startF s.data.toList).2 < 136) := hlt
  clear hlt
  go_enter Tryd.func14, Tryd.ntmps14
  go_wp2_with fail
  refine (new_calls _).mono ?_
  rintro e w1 ⟨rfl, hw1⟩
  have H1 : Held w1 w.heap.size zeroF 0 := by rw [hw1]; exact ⟨heap_alloc_new _ _⟩
  have B1 : Below w.heap.size w w1 := by rw [hw1]; exact (Below.refl _ _).alloc (Nat.le_refl _) _
  have T1 := T.below B1
  have HH1 : Hid (Held w1 w.heap.size zeroF 0) := H1
  have HB1 : Hid (Below w.heap.size w w1) := B1
  have HT1 : Hid (Tabs w1) := T1
  have HV : Hid (3 ≤ w.heap.size) := h3
  clear hw1 H1 B1 T1 T h3
  generalize hv : w.heap.size = v at *
  go_wp2_with fail
  refine (write_calls startF s hs _ v HH1.out (by decide) HT1.out HV.out).mono ?_
  rintro e w2 ⟨rfl, H2, K2⟩
  have HH2 : Hid (Held w2 v (writeF startF s.data.toList).1 (writeF startF s.data.toList).2) := H2
  have HK2 : Hid (Kept v w1 w2) := K2
  clear H2 K2
  generalize writeF startF s.data.toList = st at *
  go_wp2_with fail
  refine (sumM_calls st _ v HH2.out HL.out (HT1.out.kept HK2.out HV.out)).mono ?_
  rintro e w5 ⟨rfl, B5⟩
  go_wp2_with fail
  go_ret
  refine ⟨by rw [HF.out]; rfl, ?_⟩
  have h4 := HK2.out
  have h1 := HB1.out
  exact below_chain hv h1 h4 B5
end Go.Proofs.YtenmjjpkbcogbaaDoor
