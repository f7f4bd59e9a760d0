/-
  The walks of back and packed.
-/
import Derived.Test.YtenmjjpkbcogbaaNibH
namespace Go.Proofs.Ytenmjjpkbcogbaa
open Go.RowKit
theorem str_data (s : ByteArray) : str s.data.toList = s := by unfold str; simp
theorem str_list (l : List UInt8) : (str l).data.toList = l := by unfold str; simp
theorem str_size (l : List UInt8) : (str l).size = l.length := by unfold str; simp [ByteArray.size]

/-- a packed path comes back -/
theorem unpack_packed (s : ByteArray) (leaf : Bool) (hs : s.size < 8192) (hn : Nibs s.data.toList) (w : World) :
    Calls Try.prog 9 #[.string (str (packU s.data.toList leaf))] w fun e w' => e = .returned (.tuple #[.string s, .bool leaf, .int .i64 0]) ∧ Below w.heap.size w w' := by
  obtain ⟨hf, hp, hl⟩ := pack_form s.data.toList leaf hn
  have := unpack_good (str (packU s.data.toList leaf)) (by rw [str_size, packU_length]; have : s.data.toList.length = s.size := (by simp); omega) (by rw [str_list]; exact hf) w
  rw [str_list, hp, hl, str_data] at this
  exact this

set_option maxRecDepth 100000 in
set_option maxHeartbeats 400000 in
theorem back_calls (s : ByteArray) (hs : s.size < 8192) (hn : Nibs s.data.toList) (w : World) :
    Calls Try.prog 12 #[.string s] w fun e w' => e = .returned (.bool true) ∧ Below w.heap.size w w' := by
  have HN : Hid (Nibs s.data.toList) := hn
  have HS : Hid (s.size < 8192) := hs
  clear hn hs
  go_enter Try.func12, Try.ntmps12
  go_wp2_with fail
  go_loopg [3] 2 (fun n r wr => ∃ k : Nat, n = 2 - k ∧ k ≤ 2 ∧ r = .int .i64 k ∧ Below w.heap.size w wr)
  case atStart => exact ⟨0, rfl, by omega, rfl, Below.refl _ _⟩
  case round =>
    obtain ⟨k, hg, hk, rfl, hbel⟩ := hrel
    have HG : Hid (gk = 2 - k) := hg
    have HB : Hid (Below w.heap.size w wr) := hbel
    clear hg hbel
    by_cases hlt : k < 2
    · obtain ⟨lf, hlf⟩ : ∃ lf : Bool, ((k : Int) == 1) = lf := ⟨_, rfl⟩
      go_wp2_with fail
      refine (pack_calls s lf HS.out HN.out _).mono ?_
      rintro e w1 ⟨rfl, B1⟩
      have HB1 : Hid (Below w.heap.size w w1) := HB.out.trans (B1.mono HB.out.size)
      clear B1
      go_wp2_with fail
      refine (unpack_packed s lf HS.out HN.out _).mono ?_
      rintro e w2 ⟨rfl, B2⟩
      have HB2 : Hid (Below w.heap.size w w2) := HB1.out.trans (B2.mono HB1.out.size)
      clear B2
      go_wp2
      go_roundg (2 - (k + 1))
      case measure => have := HG.out; omega
      case rel => exact ⟨k + 1, rfl, by omega, by go_num, HB2.out⟩
    · go_wp2_with fail
      go_ret
      exact ⟨rfl, HB.out⟩

theorem isEmpty_iff (q : ByteArray) : (q.toList.isEmpty = true) = (q.size = 0) := by
  rw [Lib.toList_data q, List.isEmpty_iff]
  have hl : q.data.toList.length = q.size := by simp
  rw [← hl, List.length_eq_zero_iff]
theorem isEmpty_not (q : ByteArray) : (q.toList.isEmpty = false) = ¬ (q.size = 0) := by
  rw [← isEmpty_iff, Bool.not_eq_true]
theorem nibs_extract (q : ByteArray) (h : Nibs q.data.toList) : Nibs (q.extract 1 q.size).data.toList := by
  intro x hx
  simp only [ByteArray.data_extract, Array.toList_extract, List.extract_eq_take_drop] at hx
  exact h x (List.mem_of_mem_drop (List.mem_of_mem_take hx))

set_option maxRecDepth 100000 in
set_option maxHeartbeats 1000000 in
theorem packed_calls (s : ByteArray) (hs : s.size ≤ maxLen) (w : World) :
    Calls Try.prog 5 #[.string s] w fun e w' => e = .returned (.bool true) ∧ Below w.heap.size w w' := by
  have hlen : s.data.toList.length = s.size := by simp
  have HL : Hid (s.data.toList.length = s.size) := hlen
  have HS : Hid (s.size ≤ maxLen) := hs
  unfold maxLen at hs
  clear hlen
  by_cases hf : s.size ≤ 4096 ∧ formU s.data.toList
  · have hpl : (pathU s.data.toList).length < 8192 := by
      rw [path_length _ hf.2.1, HL.out]
      have h1 := hf.1
      have h2 : 0 < s.size := by
        rcases Nat.eq_zero_or_pos s.size with h | h
        · have := HL.out; rw [h] at this; exact absurd (List.length_eq_zero_iff.1 this) hf.2.1
        · exact h
      split <;> omega
    have HF : Hid (s.size ≤ 4096 ∧ formU s.data.toList) := hf
    have hpk : str (packU (str (pathU s.data.toList)).data.toList (leafU s.data.toList)) = s := by rw [str_list, form_pack _ hf.2, str_data]
    have HPK : Hid (str (packU (str (pathU s.data.toList)).data.toList (leafU s.data.toList)) = s) := hpk
    have HP1 : Hid ((str (pathU s.data.toList)).size < 8192) := by rw [str_size]; exact hpl
    have HP2 : Hid (Nibs (str (pathU s.data.toList)).data.toList) := by rw [str_list]; exact path_nibs _
    clear hpl hpk hf
    go_enter Try.func5, Try.ntmps5
    go_wp2_with fail
    refine (unpack_good s HF.out.1 HF.out.2 _).mono ?_
    rintro e w1 ⟨rfl, B1⟩
    have HB1 : Hid (Below w.heap.size w w1) := B1
    clear B1
    generalize str (pathU s.data.toList) = pa at *
    generalize leafU s.data.toList = lf at *
    go_wp2_with fail
    refine (pack_calls pa lf HP1.out HP2.out _).mono ?_
    rw [HPK.out]
    rintro e w2 ⟨rfl, B2⟩
    have HB2 : Hid (Below w.heap.size w w2) := HB1.out.trans (B2.mono HB1.out.size)
    clear B2
    by_cases hl : s.size < 4096
    · have hl' : decide ((4096 : Int) ≤ (s.size : Int)) = false := by simp; omega
      go_wp2_with fail
      refine (halves_calls s hl _).mono ?_
      rintro e w3 ⟨rfl, B3⟩
      have HB3 : Hid (Below w.heap.size w w3) := HB2.out.trans (B3.mono HB2.out.size)
      have z1 : (str (halvesU s.data.toList)).size < 8192 := by rw [str_size, halvesU_length, HL.out]; omega
      have z2 : Nibs (str (halvesU s.data.toList)).data.toList := by rw [str_list]; exact halvesU_nibs _
      clear B3
      generalize hq : str (halvesU s.data.toList) = q at *
      have HZ1 : Hid (q.size < 8192) := z1
      have HZ2 : Hid (Nibs q.data.toList) := z2
      clear hq z2
      go_wp2_with fail
      refine (back_calls q HZ1.out HZ2.out _).mono ?_
      rintro e w4 ⟨rfl, B4⟩
      have HB4 : Hid (Below w.heap.size w w4) := HB3.out.trans (B4.mono HB3.out.size)
      clear B4
      by_cases h0 : q.size = 0
      · have he : q.toList.isEmpty = true := by rw [isEmpty_iff]; exact h0
        go_wp2_with fail
        all_goals (go_ret; exact ⟨rfl, HB4.out⟩)
      · have he : q.toList.isEmpty = false := by rw [isEmpty_not]; exact h0
        have hq1 : 1 ≤ q.size := by omega
        go_wp2_with fail
        refine (back_calls (q.extract 1 q.size) (by have := HZ1.out; simp only [ByteArray.size_extract]; omega) (nibs_extract q HZ2.out) _).mono ?_
        rintro e w5 ⟨rfl, B5⟩
        have HB5 : Hid (Below w.heap.size w w5) := HB4.out.trans (B5.mono HB4.out.size)
        clear B5
        go_wp2_with fail
        go_ret
        exact ⟨rfl, HB5.out⟩
    · have hl' : decide ((4096 : Int) ≤ (s.size : Int)) = true := by simp; omega
      go_wp2_with fail
      go_ret
      exact ⟨rfl, HB2.out⟩
  · have HF : Hid (4096 < s.size ∨ ¬ formU s.data.toList) := by
      by_cases h : s.size ≤ 4096
      · exact .inr fun hh => hf ⟨h, hh⟩
      · exact .inl (by omega)
    obtain ⟨c, hc, hcn⟩ : ∃ c : Int, c = (if 4096 < s.size then 1 else 7) ∧ ((c == 0) = false) := by
      refine ⟨_, rfl, ?_⟩
      split <;> rfl
    have HC : Hid (c = (if 4096 < s.size then 1 else 7)) := hc
    clear hf hc
    go_enter Try.func5, Try.ntmps5
    go_wp2_with fail
    refine (unpack_bad s HS.out HF.out _).mono ?_
    rw [← HC.out]
    rintro e w1 ⟨rfl, hw1⟩
    have HB1 : Hid (Below w.heap.size w w1) := by rw [hw1]; exact Below.refl _ _
    clear hw1
    by_cases hl : s.size < 4096
    · have hl' : decide ((4096 : Int) ≤ (s.size : Int)) = false := by simp; omega
      go_wp2_with fail
      refine (halves_calls s hl _).mono ?_
      rintro e w3 ⟨rfl, B3⟩
      have HB3 : Hid (Below w.heap.size w w3) := HB1.out.trans (B3.mono HB1.out.size)
      have z1 : (str (halvesU s.data.toList)).size < 8192 := by rw [str_size, halvesU_length, HL.out]; omega
      have z2 : Nibs (str (halvesU s.data.toList)).data.toList := by rw [str_list]; exact halvesU_nibs _
      clear B3
      generalize hq : str (halvesU s.data.toList) = q at *
      have HZ1 : Hid (q.size < 8192) := z1
      have HZ2 : Hid (Nibs q.data.toList) := z2
      clear hq z2
      go_wp2_with fail
      refine (back_calls q HZ1.out HZ2.out _).mono ?_
      rintro e w4 ⟨rfl, B4⟩
      have HB4 : Hid (Below w.heap.size w w4) := HB3.out.trans (B4.mono HB3.out.size)
      clear B4
      by_cases h0 : q.size = 0
      · have he : q.toList.isEmpty = true := by rw [isEmpty_iff]; exact h0
        go_wp2_with fail
        all_goals (go_ret; exact ⟨rfl, HB4.out⟩)
      · have he : q.toList.isEmpty = false := by rw [isEmpty_not]; exact h0
        have hq1 : 1 ≤ q.size := by omega
        go_wp2_with fail
        refine (back_calls (q.extract 1 q.size) (by have := HZ1.out; simp only [ByteArray.size_extract]; omega) (nibs_extract q HZ2.out) _).mono ?_
        rintro e w5 ⟨rfl, B5⟩
        have HB5 : Hid (Below w.heap.size w w5) := HB4.out.trans (B5.mono HB4.out.size)
        clear B5
        go_wp2_with fail
        go_ret
        exact ⟨rfl, HB5.out⟩
    · have hl' : decide ((4096 : Int) ≤ (s.size : Int)) = true := by simp; omega
      go_wp2_with fail
      go_ret
      exact ⟨rfl, HB1.out⟩
end Go.Proofs.Ytenmjjpkbcogbaa
