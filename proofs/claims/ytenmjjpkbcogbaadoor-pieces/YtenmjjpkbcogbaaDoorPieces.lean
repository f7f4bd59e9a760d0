/-
  The walks of pieces and Pieces.
-/
import Derived.Test.YtenmjjpkbcogbaaDoorSum
import Derived.Lib.Strings
namespace Go.Proofs.YtenmjjpkbcogbaaDoor
open Go.RowKit

theorem two_parts (st : (Nat → Int) × Nat) (s : ByteArray) (n : Nat) (_h : n ≤ s.size) : writeF (writeF st (s.extract 0 n).data.toList) (s.extract n s.size).data.toList = writeF st s.data.toList := by
  rw [← writeF_append]
  congr 1
  have e : s.data.toList.length = s.size := by simp
  simp only [ByteArray.data_extract, Array.toList_extract, List.extract_eq_take_drop, Nat.sub_zero, List.drop_zero]
  rw [← e, List.take_of_length_le (l := s.data.toList.drop n) (by simp)]
  exact List.take_append_drop n _

set_option maxRecDepth 100000 in
set_option maxHeartbeats 1000000 in
theorem pieces_calls (s : ByteArray) (hs : s.size ≤ maxLen) (w : World) (T : Tabs w) :
    Calls Tryd.prog 8 #[.string s] w fun e w' => e = .returned (.bool true) ∧ Below w.heap.size w w' := by
  have h3 := T.size
  have hsz : (hashF s).size = 32 := sumF_size _
  have HN : Hid (3 ≤ w.heap.size) := h3
  have HS : Hid (s.size ≤ maxLen) := hs
  unfold maxLen at hs
  have hd : (s.size : Int) / 3 = ((s.size / 3 : Nat) : Int) := by omega
  clear hd
  go_enter Tryd.func8, Tryd.ntmps8
  go_wp2_with fail
  refine (sum_calls s HS.out _ T).mono ?_
  rintro e w1 ⟨rfl, B1⟩
  have HB1 : Hid (Below w.heap.size w w1) := B1
  have HT1 : Hid (Tabs w1) := T.below B1
  clear T B1 h3
  go_wp2_with fail
  refine (new_calls _).mono ?_
  rintro e w2 ⟨rfl, hw2⟩
  have H2 : Held w2 w1.heap.size zeroF 0 := by rw [hw2]; exact ⟨heap_alloc_new _ _⟩
  have B2 : Below w1.heap.size w1 w2 := by rw [hw2]; exact (Below.refl _ _).alloc (Nat.le_refl _) _
  have HH2 : Hid (Held w2 w1.heap.size zeroF 0) := H2
  have HB2 : Hid (Below w.heap.size w w2) := below_below HB1.out B2 (Nat.le_refl _)
  have HT2 : Hid (Tabs w2) := HT1.out.below B2
  have HNb : Hid (w.heap.size ≤ w1.heap.size) := HB1.out.size
  have HNb3 : Hid (3 ≤ w1.heap.size) := Nat.le_trans HN.out HB1.out.size
  clear hw2 H2 B2
  generalize hv : w1.heap.size = b at *
  clear hv
  obtain ⟨n, hn⟩ : ∃ n, n = s.size / 3 := ⟨_, rfl⟩
  have hle : n ≤ s.size := by omega
  have z1 : (s.extract 0 n).size ≤ maxLen := by have := HS.out; simp only [ByteArray.size_extract]; omega
  have z2 : (s.extract n s.size).size ≤ maxLen := by have := HS.out; simp only [ByteArray.size_extract]; omega
  have hparts := two_parts startF s n hle
  have l0 : startF.2 < 136 := by decide
  have l1 := writeF_lt (s.extract 0 n).data.toList startF l0
  have l2 := writeF_lt s.data.toList startF l0
  have HP : Hid (writeF (writeF startF (s.extract 0 n).data.toList) (s.extract n s.size).data.toList = writeF startF s.data.toList) := hparts
  have HL1 : Hid ((writeF startF (s.extract 0 n).data.toList).2 < 136) := l1
  have HL2 : Hid ((writeF startF s.data.toList).2 < 136) := l2
  have HZ1 : Hid ((s.extract 0 n).size ≤ maxLen) := z1
  have HZ2 : Hid ((s.extract n s.size).size ≤ maxLen) := z2
  have HX : Hid (hashF s = sumF (writeF startF s.data.toList)) := rfl
  clear z1 z2 hparts l0 l1 l2
  go_wp2_with fail
  rw [← hn]
  -- h.Write(s[:n])
  refine (write_calls startF _ HZ1.out _ b HH2.out (by decide) HT2.out HNb3.out).mono ?_
  rintro e w3 ⟨rfl, H3, K3⟩
  generalize hst1 : writeF startF (s.extract 0 n).data.toList = st1 at *
  generalize hst2 : writeF startF s.data.toList = st2 at *
  have HH3 : Hid (Held w3 b st1.1 st1.2) := H3
  have HT3 : Hid (Tabs w3) := HT2.out.kept K3 HNb3.out
  have HB3 : Hid (Below w.heap.size w w3) := below_kept HB2.out K3 (Nat.le_refl _) HNb.out
  have H22 : Hid (writeF startF s.data.toList = st2) := hst2
  clear H3 K3 hst1 hst2 HH2 HT2 HB2
  -- g := h.Copy()
  go_wp2_with fail
  refine (copy_calls _ _ _ b HH3.out).mono ?_
  rintro e w4 ⟨rfl, hw4⟩
  have H4 : Held w4 w3.heap.size st1.1 st1.2 := by rw [hw4]; exact ⟨heap_alloc_new _ _⟩
  have B4 : Below w3.heap.size w3 w4 := by rw [hw4]; exact ((Below.refl _ _).alloc (Nat.le_refl _) _).drew
  have HG4 : Hid (Held w4 w3.heap.size st1.1 st1.2) := H4
  have HH4 : Hid (Held w4 b st1.1 st1.2) := HH3.out.below B4
  have HT4 : Hid (Tabs w4) := HT3.out.below B4
  have HB4 : Hid (Below w.heap.size w w4) := below_below HB3.out B4 (Nat.le_refl _)
  have hbg := HH3.out.lt
  have HNg : Hid (w.heap.size ≤ w3.heap.size) := HB3.out.size
  have HNg3 : Hid (3 ≤ w3.heap.size) := Nat.le_trans HN.out HB3.out.size
  clear hw4 H4 B4
  generalize w3.heap.size = g at *
  have HD : Hid (b ≠ g) := Nat.ne_of_lt hbg
  clear hbg
  -- h.Sum()
  go_wp2_with fail
  refine (sumM_calls st1 _ b HH4.out HL1.out HT4.out).mono ?_
  rintro e w5 ⟨rfl, B5⟩
  have HH5 : Hid (Held w5 b st1.1 st1.2) := HH4.out.below B5
  have HG5 : Hid (Held w5 g st1.1 st1.2) := HG4.out.below B5
  have HT5 : Hid (Tabs w5) := HT4.out.below B5
  have HB5 : Hid (Below w.heap.size w w5) := below_below HB4.out B5 (Nat.le_refl _)
  clear B5 HH4 HG4 HT4 HB4
  -- h.Write(s[n:])
  go_wp2_with fail
  rw [← hn]
  refine (write_calls st1 _ HZ2.out _ b HH5.out HL1.out HT5.out HNb3.out).mono ?_
  rintro e w6 ⟨rfl, H6, K6⟩
  rw [HP.out] at H6
  have HH6 : Hid (Held w6 b st2.1 st2.2) := H6
  have HG6 : Hid (Held w6 g st1.1 st1.2) := HG5.out.kept K6 (Ne.symm HD.out)
  have HT6 : Hid (Tabs w6) := HT5.out.kept K6 HNb3.out
  have HB6 : Hid (Below w.heap.size w w6) := below_kept HB5.out K6 (Nat.le_refl _) HNb.out
  clear H6 K6 HH5 HG5 HT5 HB5
  -- g.Write(s[n:])
  go_wp2_with fail
  rw [← hn]
  refine (write_calls st1 _ HZ2.out _ g HG6.out HL1.out HT6.out HNg3.out).mono ?_
  rintro e w7 ⟨rfl, H7, K7⟩
  rw [HP.out] at H7
  have HG7 : Hid (Held w7 g st2.1 st2.2) := H7
  have HH7 : Hid (Held w7 b st2.1 st2.2) := HH6.out.kept K7 HD.out
  have HT7 : Hid (Tabs w7) := HT6.out.kept K7 HNg3.out
  have HB7 : Hid (Below w.heap.size w w7) := below_kept HB6.out K7 (Nat.le_refl _) HNg.out
  clear H7 K7 HH6 HG6 HT6 HB6
  -- a := h.Sum()
  go_wp2_with fail
  refine (sumM_calls st2 _ b HH7.out HL2.out HT7.out).mono ?_
  rintro e w8 ⟨rfl, B8⟩
  have HH8 : Hid (Held w8 b st2.1 st2.2) := HH7.out.below B8
  have HG8 : Hid (Held w8 g st2.1 st2.2) := HG7.out.below B8
  have HT8 : Hid (Tabs w8) := HT7.out.below B8
  have HB8 : Hid (Below w.heap.size w w8) := below_below HB7.out B8 (Nat.le_refl _)
  clear B8 HH7 HG7 HT7 HB7
  -- b := g.Sum()
  go_wp2_with fail
  refine (sumM_calls st2 _ g HG8.out HL2.out HT8.out).mono ?_
  rintro e w9 ⟨rfl, B9⟩
  have HH9 : Hid (Held w9 b st2.1 st2.2) := HH8.out.below B9
  have HT9 : Hid (Tabs w9) := HT8.out.below B9
  have HB9 : Hid (Below w.heap.size w w9) := below_below HB8.out B9 (Nat.le_refl _)
  clear B9 HH8 HG8 HT8 HB8
  -- h.Reset()
  go_wp2_with fail
  refine (reset_calls _ _ _ b HH9.out).mono ?_
  rintro e w10 ⟨rfl, H10, K10⟩
  have HH10 : Hid (Held w10 b startF.1 startF.2) := H10
  have HT10 : Hid (Tabs w10) := HT9.out.kept K10 HNb3.out
  have HB10 : Hid (Below w.heap.size w w10) := below_kept HB9.out K10 (Nat.le_refl _) HNb.out
  clear H10 K10 HH9 HT9 HB9
  -- h.Write(s)
  go_wp2_with fail
  refine (write_calls startF _ HS.out _ b HH10.out (by decide) HT10.out HNb3.out).mono ?_
  rintro e w11 ⟨rfl, H11, K11⟩
  rw [H22.out] at H11
  have HH11 : Hid (Held w11 b st2.1 st2.2) := H11
  have HT11 : Hid (Tabs w11) := HT10.out.kept K11 HNb3.out
  have HB11 : Hid (Below w.heap.size w w11) := below_kept HB10.out K11 (Nat.le_refl _) HNb.out
  clear H11 K11 HH10 HT10 HB10
  -- c := h.Sum()
  go_wp2_with fail
  refine (sumM_calls st2 _ b HH11.out HL2.out HT11.out).mono ?_
  rintro e w12 ⟨rfl, B12⟩
  have HB12 : Hid (Below w.heap.size w w12) := below_below HB11.out B12 (Nat.le_refl _)
  clear B12 HH11 HT11 HB11
  rw [← HX.out]
  generalize hashF s = q at *
  go_wp2
  go_ret
  exact ⟨rfl, HB12.out⟩

set_option maxRecDepth 100000 in
theorem Pieces_calls (s : ByteArray) (hs : s.size ≤ maxLen) (w : World) (T : Tabs w) :
    Calls Tryd.prog 4 #[.string s] w fun e w' => e = .returned (.bool true) ∧ Below w.heap.size w w' := by
  have HS : Hid (s.size ≤ maxLen) := hs
  unfold maxLen at hs
  by_cases h : s.size ≤ 1073741824
  · go_enter Tryd.func4, Tryd.ntmps4
    go_wp2_with fail
    refine (pieces_calls s HS.out _ T).mono ?_
    rintro e w1 ⟨rfl, B1⟩
    go_wp2
    go_ret
    exact ⟨rfl, B1⟩
  · go_enter Tryd.func4, Tryd.ntmps4
    go_wp2_with fail
    go_ret
    exact ⟨rfl, Below.refl _ _⟩
end Go.Proofs.YtenmjjpkbcogbaaDoor
