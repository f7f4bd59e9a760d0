import Derived.Test.YtenmjjpkbcogbaaGreatDoorZc

/- Lnib -/
namespace Go.Proofs.YtenmjjpkbcogbaaGreatDoor
open Go.RowKit

theorem str_append' (a b : List UInt8) : str a ++ str b = str (a ++ b) := by
  have h : (str a ++ str b).data.toList = (str (a ++ b)).data.toList := by simp [str_list]
  rw [← str_data (str a ++ str b), h, str_data]
theorem conv_lit1 (W : World) (x : Int) : (convert 185 9 (.slice (some ⟨W.heap.size, 0, none⟩) 1 1)).run Tryz.prog (W.alloc (.cells #[.int .u8 x] 5)) = .ok (.string (strOfNums [x])) (W.alloc (.cells #[.int .u8 x] 5)) :=
  run_convert_bytes_arg (P := Tryz.prog) _ 185 5 Tryz.underlying185 Tryz.underlying5 W.heap.size 0 1 1 [x] rfl (fun i hi => by
    have : i = 0 := by omega
    subst this
    simp) 9 Tryz.underlying9
theorem conv_lit1d (W : World) (x : Int) : (convert 185 9 (.slice (some ⟨W.heap.size, 0, none⟩) 1 1)).run Tryz.prog (W.alloc (.cells #[.int .u8 x] 5)).drew = .ok (.string (strOfNums [x])) (W.alloc (.cells #[.int .u8 x] 5)).drew :=
  run_convert_bytes_arg (P := Tryz.prog) _ 185 5 Tryz.underlying185 Tryz.underlying5 W.heap.size 0 1 1 [x] rfl (fun i hi => by
    have : i = 0 := by omega
    subst this
    simp) 9 Tryz.underlying9
theorem conv_lit2 (W : World) (x y : Int) : (convert 185 9 (.slice (some ⟨W.heap.size, 0, none⟩) 2 2)).run Tryz.prog (W.alloc (.cells #[.int .u8 x, .int .u8 y] 5)) = .ok (.string (strOfNums [x, y])) (W.alloc (.cells #[.int .u8 x, .int .u8 y] 5)) :=
  run_convert_bytes_arg (P := Tryz.prog) _ 185 5 Tryz.underlying185 Tryz.underlying5 W.heap.size 0 2 2 [x, y] rfl (fun i hi => by
    match i, hi with
    | 0, _ => simp
    | 1, _ => simp) 9 Tryz.underlying9
theorem conv_lit2d (W : World) (x y : Int) : (convert 185 9 (.slice (some ⟨W.heap.size, 0, none⟩) 2 2)).run Tryz.prog (W.alloc (.cells #[.int .u8 x, .int .u8 y] 5)).drew = .ok (.string (strOfNums [x, y])) (W.alloc (.cells #[.int .u8 x, .int .u8 y] 5)).drew :=
  run_convert_bytes_arg (P := Tryz.prog) _ 185 5 Tryz.underlying185 Tryz.underlying5 W.heap.size 0 2 2 [x, y] rfl (fun i hi => by
    match i, hi with
    | 0, _ => simp
    | 1, _ => simp) 9 Tryz.underlying9
theorem conv_lit1b (W : World) (o : Obj) (x : Int) : (convert 185 9 (.slice (some ⟨W.heap.size + 1, 0, none⟩) 1 1)).run Tryz.prog ((W.alloc o).alloc (.cells #[.int .u8 x] 5)) = .ok (.string (strOfNums [x])) ((W.alloc o).alloc (.cells #[.int .u8 x] 5)) := by
  have h := conv_lit1 (W.alloc o) x
  have e : (W.alloc o).heap.size = W.heap.size + 1 := by simp
  rw [e] at h; exact h
theorem nums_bytes1 (c : UInt8) : strOfNums [(c.toNat : Int)] = str [c] := strOfNums_bytes [c]
theorem nums_bytes2 (c d : UInt8) : strOfNums [(c.toNat : Int), (d.toNat : Int)] = str [c, d] := strOfNums_bytes [c, d]
theorem drop_data (s : ByteArray) (k : Nat) : (s.extract k s.size).data.toList = s.data.toList.drop k := by
  rw [Lib.extract_data, List.take_of_length_le (by simp)]

set_option maxRecDepth 100000 in
set_option maxHeartbeats 1000000 in
theorem of_calls : ∀ (n : Nat) (s : ByteArray), s.size = n → n ≤ 1073741824 → ∀ (w : World),
    Calls Tryz.prog 163 #[.string s] w fun e w' => e = .returned (.string (str (halvesU s.data.toList))) ∧ Below w.heap.size w w' := by
  intro n
  induction n with
  | zero =>
    intro s hs _ w
    have he : s.toList.isEmpty = true := by rw [isEmpty_iff]; exact hs
    have hf : str (halvesU s.data.toList) = ByteArray.empty := by
      have : s.data.toList = [] := List.length_eq_zero_iff.1 (by simpa using hs)
      rw [this]; rfl
    have HF : Hid (str (halvesU s.data.toList) = ByteArray.empty) := hf
    clear hf hs
    go_enter Tryz.func163, Tryz.ntmps163
    go_wp2_with fail
    go_ret
    exact ⟨by rw [HF.out]; rfl, Below.refl _ _⟩
  | succ n ih =>
    intro s hs hn w
    have he : s.toList.isEmpty = false := by rw [isEmpty_not]; omega
    have hp : 0 < s.size := by omega
    have hp1 : 1 ≤ s.size := by omega
    have hih := ih (s.extract 1 s.size) (by simp only [ByteArray.size_extract]; omega) (by omega)
    rw [drop_data] at hih
    have HIH : Hid (∀ w : World, Calls Tryz.prog 163 #[.string (s.extract 1 s.size)] w fun e w' => e = .returned (.string (str (halvesU (s.data.toList.drop 1)))) ∧ Below w.heap.size w w') := hih
    have e0 : s.data.toList = s[0] :: s.data.toList.drop 1 := by
      have hl : 0 < s.data.toList.length := by simpa using hp
      have := List.drop_eq_getElem_cons hl
      rw [List.drop_zero] at this
      exact this
    have hf : str (halvesU s.data.toList) = strOfNums [((hi s[0]).toNat : Int), ((lo s[0]).toNat : Int)] ++ str (halvesU (s.data.toList.drop 1)) := by
      rw [nums_bytes2, str_append']
      conv => lhs; rw [e0]
      rfl
    have HF : Hid (str (halvesU s.data.toList) = strOfNums [((hi s[0]).toNat : Int), ((lo s[0]).toNat : Int)] ++ str (halvesU (s.data.toList.drop 1))) := hf
    have hd := div16 s[0]
    have hm : ((s[0]).toNat : Int) % 16 = ((lo s[0]).toNat : Int) := by rw [lo_nat]; omega
    have hsz : (str (halvesU (s.data.toList.drop 1))).size ≤ 2147483648 := by rw [str_size, halvesU_length, List.length_drop]; have : s.data.toList.length = s.size := (by simp); omega
    have hs2 : ∀ x y : Int, (strOfNums [x, y]).size = 2 := fun x y => by rw [strOfNums_size]; rfl
    have hconv := fun W x y => conv_lit2d W x y
    clear hih e0 hf ih hs hn
    go_enter Tryz.func163, Tryz.ntmps163
    go_wp2_with fail
    refine (HIH.out _).mono ?_
    rintro e w1 ⟨rfl, B1⟩
    have HB1 : Hid (Below w.heap.size w w1) := B1
    clear B1
    generalize str (halvesU (s.data.toList.drop 1)) = R at *
    generalize hi s[0] = cA at *
    generalize lo s[0] = cB at *
    have HM : Hid (((s[0]).toNat : Int) % 16 = (cB.toNat : Int)) := hm
    have HC : Hid ((cA.toNat : Int) % 256 = (cA.toNat : Int)) := by have := cA.toNat_lt; exact (show _ = _ by omega)
    go_wp2_with fail
    go_region
    all_goals go_wp2_with fail
    all_goals go_ret
    all_goals exact ⟨by rw [HF.out]; show Ending.returned (Value.string (strOfNums [(cA.toNat : Int) % 256, ((s[0]).toNat : Int) % 16] ++ R)) = _; rw [HC.out, HM.out], (HB1.out.alloc HB1.out.size _).drew⟩

theorem join_wrap (a b : UInt8) : ((16 : Int) * (a.toNat : Int) + (b.toNat : Int)) % (256 : Int) = ((join a b).toNat : Int) := by
  unfold join; rw [UInt8.toNat_ofNat']; omega

set_option maxRecDepth 100000 in
set_option maxHeartbeats 1000000 in
theorem bytes_calls : ∀ (n : Nat) (s : ByteArray), s.size = 2 * n → n ≤ 1073741824 → ∀ (w : World),
    Calls Tryz.prog 162 #[.string s] w fun e w' => e = .returned (.string (str (pairs s.data.toList))) ∧ Below w.heap.size w w' := by
  intro n
  induction n with
  | zero =>
    intro s hs _ w
    have he : s.toList.isEmpty = true := by rw [isEmpty_iff]; omega
    have hf : str (pairs s.data.toList) = ByteArray.empty := by
      have : s.data.toList = [] := List.length_eq_zero_iff.1 (by simpa using hs)
      rw [this]; rfl
    have HF : Hid (str (pairs s.data.toList) = ByteArray.empty) := hf
    clear hf hs
    go_enter Tryz.func162, Tryz.ntmps162
    go_wp2_with fail
    go_ret
    exact ⟨by rw [HF.out]; rfl, Below.refl _ _⟩
  | succ n ih =>
    intro s hs hn w
    have he : s.toList.isEmpty = false := by rw [isEmpty_not]; omega
    have hp : 0 < s.size := by omega
    have hp1 : 1 < s.size := by omega
    have hp2 : 2 ≤ s.size := by omega
    have hp1i : (1 : Int) < (s.size : Int) := by omega
    have hih := ih (s.extract 2 s.size) (by simp only [ByteArray.size_extract]; omega) (by omega)
    rw [drop_data] at hih
    have HIH : Hid (∀ w : World, Calls Tryz.prog 162 #[.string (s.extract 2 s.size)] w fun e w' => e = .returned (.string (str (pairs (s.data.toList.drop 2)))) ∧ Below w.heap.size w w') := hih
    have e0 : s.data.toList = s[0] :: s[1] :: s.data.toList.drop 2 := by
      have hl0 : 0 < s.data.toList.length := by simpa using hp
      have hl1 : 1 < s.data.toList.length := by simpa using hp1
      have h0 := List.drop_eq_getElem_cons hl0
      have h1 := List.drop_eq_getElem_cons hl1
      rw [List.drop_zero, h1] at h0
      exact h0
    have hf : str (pairs s.data.toList) = strOfNums [((join s[0] s[1]).toNat : Int)] ++ str (pairs (s.data.toList.drop 2)) := by
      rw [nums_bytes1, str_append']
      conv => lhs; rw [e0]
      rfl
    have HF : Hid (str (pairs s.data.toList) = strOfNums [((join s[0] s[1]).toNat : Int)] ++ str (pairs (s.data.toList.drop 2))) := hf
    have HJ : Hid (((16 : Int) * ((s[0]).toNat : Int) + ((s[1]).toNat : Int)) % (256 : Int) = ((join s[0] s[1]).toNat : Int)) := join_wrap s[0] s[1]
    have hsz : (str (pairs (s.data.toList.drop 2))).size ≤ 2147483648 := by rw [str_size, pairs_length, List.length_drop]; have : s.data.toList.length = s.size := (by simp); omega
    have hs2 : ∀ x : Int, (strOfNums [x]).size = 1 := fun x => by rw [strOfNums_size]; rfl
    have hconv := fun W x => conv_lit1d W x
    clear hih e0 hf ih hs hn
    go_enter Tryz.func162, Tryz.ntmps162
    go_wp2_with fail
    refine (HIH.out _).mono ?_
    rintro e w1 ⟨rfl, B1⟩
    have HB1 : Hid (Below w.heap.size w w1) := B1
    clear B1
    generalize str (pairs (s.data.toList.drop 2)) = R at *
    go_wp2_with fail
    go_region
    all_goals go_wp2_with fail
    all_goals go_ret
    all_goals exact ⟨by rw [HF.out]; show Ending.returned (Value.string (strOfNums [((16 : Int) * ((s[0]).toNat : Int) + ((s[1]).toNat : Int)) % (256 : Int)] ++ R)) = _; rw [HJ.out], (HB1.out.alloc HB1.out.size _).drew⟩

/-- all, as the document's Pack lays it out -/
def allU (l : List UInt8) (leaf : Bool) : List UInt8 := if l.length % 2 = 1 then UInt8.ofNat (markN true leaf) :: l else UInt8.ofNat (markN false leaf) :: 0 :: l
theorem allU_pairs (l : List UInt8) (leaf : Bool) : pairs (allU l leaf) = packU l leaf := by
  unfold allU packU
  by_cases h : l.length % 2 = 1
  · rw [if_pos h, if_pos h]
    cases l with
    | nil => simp at h
    | cons a r => rfl
  · rw [if_neg h, if_neg h]; rfl
theorem allU_length (l : List UInt8) (leaf : Bool) : (allU l leaf).length = 2 * (l.length / 2 + 1) := by
  unfold allU
  by_cases h : l.length % 2 = 1
  · rw [if_pos h]; simp; omega
  · rw [if_neg h]; simp; omega

set_option maxRecDepth 100000 in
set_option maxHeartbeats 1000000 in
theorem lpack_ol (s : ByteArray) (hs : s.size < 8192) (hn : Nibs s.data.toList) (hodd : s.size % 2 = 1) (w : World) :
    Calls Tryz.prog 66 #[.string s, .bool true] w fun e w' => e = .returned (.tuple #[.string (str (packU s.data.toList true)), .int .i64 0]) ∧ Below w.heap.size w w' := by
  have hl : s.data.toList.length = s.size := by simp
  have ht1 : ((s.size : Int) % 2 == 1) = true := beq_iff_eq.2 (by omega)
  have hall : strOfNums [3] ++ s = str (allU s.data.toList true) := by
    have e : strOfNums [3] = str [UInt8.ofNat (markN true true)] := rfl
    conv => lhs; rw [e, ← str_data s]
    rw [str_append']
    unfold allU; rw [if_pos (by rw [hl]; omega)]; rfl
  have hby := bytes_calls (s.size / 2 + 1) (str (allU s.data.toList true)) (by rw [str_size, allU_length, hl]) (by omega)
  rw [str_list, allU_pairs, ← hall] at hby
  have HBY : Hid (∀ w : World, Calls Tryz.prog 162 #[.string (strOfNums [3] ++ s)] w fun e w' => e = .returned (.string (str (packU s.data.toList true))) ∧ Below w.heap.size w w') := hby
  have HN : Hid (∀ j, (h : j < s.size) → (s[j]).toNat < 16) := fun j h => hn _ (by rw [← Array.mem_def]; exact Array.getElem_mem (by simpa using h))
  have hs1 : ∀ x : Int, (strOfNums [x]).size = 1 := fun x => by rw [strOfNums_size]; rfl
  have hs2 : ∀ x y : Int, (strOfNums [x, y]).size = 2 := fun x y => by rw [strOfNums_size]; rfl
  have hc1 := fun W x => conv_lit1 W x
  have hc1b := fun W o x => conv_lit1b W o x
  have hc2 := fun W x y => conv_lit2 W x y
  clear hl hall hby hn hodd
  go_enter Tryz.func66, Tryz.ntmps66
  go_wp2_with fail
  go_loopg [6] s.size (fun g r wr => wr = w ∧ ∃ k : Nat, g = s.size - k ∧ k ≤ s.size ∧ r = .int .i64 k)
  case atStart => exact ⟨rfl, 0, rfl, by omega, rfl⟩
  case round =>
    obtain ⟨hw, k, hg, hk, rfl⟩ := hrel
    subst hw
    have HG : Hid (gk = s.size - k) := hg
    clear hg
    by_cases hlt : k < s.size
    · have hk16 := HN.out k hlt
      have hci : ¬ (15 : Int) < ((s[k]).toNat : Int) := by omega
      clear hk16
      go_wp2_with fail
      go_roundg (s.size - (k + 1))
      case measure => have := HG.out; omega
      case rel => exact ⟨rfl, k + 1, rfl, by omega, by go_num⟩
    · go_wp2_with fail
      refine (HBY.out _).mono ?_
      rintro e w1 ⟨rfl, B1⟩
      have HB1 : Hid (Below wr.heap.size wr w1) := ((Below.refl _ _).alloc (Nat.le_refl _) _).alloc (by simp) _ |>.trans (B1.mono (by simp; omega))
      clear B1
      go_wp2_with fail
      go_ret2
      exact ⟨rfl, HB1.out⟩

set_option maxRecDepth 100000 in
set_option maxHeartbeats 1000000 in
theorem lpack_on (s : ByteArray) (hs : s.size < 8192) (hn : Nibs s.data.toList) (hodd : s.size % 2 = 1) (w : World) :
    Calls Tryz.prog 66 #[.string s, .bool false] w fun e w' => e = .returned (.tuple #[.string (str (packU s.data.toList false)), .int .i64 0]) ∧ Below w.heap.size w w' := by
  have hl : s.data.toList.length = s.size := by simp
  have ht1 : ((s.size : Int) % 2 == 1) = true := beq_iff_eq.2 (by omega)
  have hall : strOfNums [1] ++ s = str (allU s.data.toList false) := by
    have e : strOfNums [1] = str [UInt8.ofNat (markN true false)] := rfl
    conv => lhs; rw [e, ← str_data s]
    rw [str_append']
    unfold allU; rw [if_pos (by rw [hl]; omega)]; rfl
  have hby := bytes_calls (s.size / 2 + 1) (str (allU s.data.toList false)) (by rw [str_size, allU_length, hl]) (by omega)
  rw [str_list, allU_pairs, ← hall] at hby
  have HBY : Hid (∀ w : World, Calls Tryz.prog 162 #[.string (strOfNums [1] ++ s)] w fun e w' => e = .returned (.string (str (packU s.data.toList false))) ∧ Below w.heap.size w w') := hby
  have HN : Hid (∀ j, (h : j < s.size) → (s[j]).toNat < 16) := fun j h => hn _ (by rw [← Array.mem_def]; exact Array.getElem_mem (by simpa using h))
  have hs1 : ∀ x : Int, (strOfNums [x]).size = 1 := fun x => by rw [strOfNums_size]; rfl
  have hs2 : ∀ x y : Int, (strOfNums [x, y]).size = 2 := fun x y => by rw [strOfNums_size]; rfl
  have hc1 := fun W x => conv_lit1 W x
  have hc1b := fun W o x => conv_lit1b W o x
  have hc2 := fun W x y => conv_lit2 W x y
  clear hl hall hby hn hodd
  go_enter Tryz.func66, Tryz.ntmps66
  go_wp2_with fail
  go_loopg [6] s.size (fun g r wr => wr = w ∧ ∃ k : Nat, g = s.size - k ∧ k ≤ s.size ∧ r = .int .i64 k)
  case atStart => exact ⟨rfl, 0, rfl, by omega, rfl⟩
  case round =>
    obtain ⟨hw, k, hg, hk, rfl⟩ := hrel
    subst hw
    have HG : Hid (gk = s.size - k) := hg
    clear hg
    by_cases hlt : k < s.size
    · have hk16 := HN.out k hlt
      have hci : ¬ (15 : Int) < ((s[k]).toNat : Int) := by omega
      clear hk16
      go_wp2_with fail
      go_roundg (s.size - (k + 1))
      case measure => have := HG.out; omega
      case rel => exact ⟨rfl, k + 1, rfl, by omega, by go_num⟩
    · go_wp2_with fail
      refine (HBY.out _).mono ?_
      rintro e w1 ⟨rfl, B1⟩
      have HB1 : Hid (Below wr.heap.size wr w1) := ((Below.refl _ _).alloc (Nat.le_refl _) _).alloc (by simp) _ |>.trans (B1.mono (by simp; omega))
      clear B1
      go_wp2_with fail
      go_ret2
      exact ⟨rfl, HB1.out⟩

set_option maxRecDepth 100000 in
set_option maxHeartbeats 1000000 in
theorem lpack_el (s : ByteArray) (hs : s.size < 8192) (hn : Nibs s.data.toList) (hodd : s.size % 2 = 0) (w : World) :
    Calls Tryz.prog 66 #[.string s, .bool true] w fun e w' => e = .returned (.tuple #[.string (str (packU s.data.toList true)), .int .i64 0]) ∧ Below w.heap.size w w' := by
  have hl : s.data.toList.length = s.size := by simp
  have ht1 : ((s.size : Int) % 2 == 1) = false := beq_eq_false_iff_ne.2 (by omega)
  have hall : strOfNums [2, 0] ++ s = str (allU s.data.toList true) := by
    have e : strOfNums [2, 0] = str [UInt8.ofNat (markN false true), 0] := rfl
    conv => lhs; rw [e, ← str_data s]
    rw [str_append']
    unfold allU; rw [if_neg (by rw [hl]; omega)]; rfl
  have hby := bytes_calls (s.size / 2 + 1) (str (allU s.data.toList true)) (by rw [str_size, allU_length, hl]) (by omega)
  rw [str_list, allU_pairs, ← hall] at hby
  have HBY : Hid (∀ w : World, Calls Tryz.prog 162 #[.string (strOfNums [2, 0] ++ s)] w fun e w' => e = .returned (.string (str (packU s.data.toList true))) ∧ Below w.heap.size w w') := hby
  have HN : Hid (∀ j, (h : j < s.size) → (s[j]).toNat < 16) := fun j h => hn _ (by rw [← Array.mem_def]; exact Array.getElem_mem (by simpa using h))
  have hs1 : ∀ x : Int, (strOfNums [x]).size = 1 := fun x => by rw [strOfNums_size]; rfl
  have hs2 : ∀ x y : Int, (strOfNums [x, y]).size = 2 := fun x y => by rw [strOfNums_size]; rfl
  have hc1 := fun W x => conv_lit1 W x
  have hc1b := fun W o x => conv_lit1b W o x
  have hc2 := fun W x y => conv_lit2 W x y
  clear hl hall hby hn hodd
  go_enter Tryz.func66, Tryz.ntmps66
  go_wp2_with fail
  go_loopg [6] s.size (fun g r wr => wr = w ∧ ∃ k : Nat, g = s.size - k ∧ k ≤ s.size ∧ r = .int .i64 k)
  case atStart => exact ⟨rfl, 0, rfl, by omega, rfl⟩
  case round =>
    obtain ⟨hw, k, hg, hk, rfl⟩ := hrel
    subst hw
    have HG : Hid (gk = s.size - k) := hg
    clear hg
    by_cases hlt : k < s.size
    · have hk16 := HN.out k hlt
      have hci : ¬ (15 : Int) < ((s[k]).toNat : Int) := by omega
      clear hk16
      go_wp2_with fail
      go_roundg (s.size - (k + 1))
      case measure => have := HG.out; omega
      case rel => exact ⟨rfl, k + 1, rfl, by omega, by go_num⟩
    · go_wp2_with fail
      refine (HBY.out _).mono ?_
      rintro e w1 ⟨rfl, B1⟩
      have HB1 : Hid (Below wr.heap.size wr w1) := ((Below.refl _ _).alloc (Nat.le_refl _) _).trans (B1.mono (by simp))
      clear B1
      go_wp2_with fail
      go_ret2
      exact ⟨rfl, HB1.out⟩

set_option maxRecDepth 100000 in
set_option maxHeartbeats 1000000 in
theorem lpack_en (s : ByteArray) (hs : s.size < 8192) (hn : Nibs s.data.toList) (hodd : s.size % 2 = 0) (w : World) :
    Calls Tryz.prog 66 #[.string s, .bool false] w fun e w' => e = .returned (.tuple #[.string (str (packU s.data.toList false)), .int .i64 0]) ∧ Below w.heap.size w w' := by
  have hl : s.data.toList.length = s.size := by simp
  have ht1 : ((s.size : Int) % 2 == 1) = false := beq_eq_false_iff_ne.2 (by omega)
  have hall : strOfNums [0, 0] ++ s = str (allU s.data.toList false) := by
    have e : strOfNums [0, 0] = str [UInt8.ofNat (markN false false), 0] := rfl
    conv => lhs; rw [e, ← str_data s]
    rw [str_append']
    unfold allU; rw [if_neg (by rw [hl]; omega)]; rfl
  have hby := bytes_calls (s.size / 2 + 1) (str (allU s.data.toList false)) (by rw [str_size, allU_length, hl]) (by omega)
  rw [str_list, allU_pairs, ← hall] at hby
  have HBY : Hid (∀ w : World, Calls Tryz.prog 162 #[.string (strOfNums [0, 0] ++ s)] w fun e w' => e = .returned (.string (str (packU s.data.toList false))) ∧ Below w.heap.size w w') := hby
  have HN : Hid (∀ j, (h : j < s.size) → (s[j]).toNat < 16) := fun j h => hn _ (by rw [← Array.mem_def]; exact Array.getElem_mem (by simpa using h))
  have hs1 : ∀ x : Int, (strOfNums [x]).size = 1 := fun x => by rw [strOfNums_size]; rfl
  have hs2 : ∀ x y : Int, (strOfNums [x, y]).size = 2 := fun x y => by rw [strOfNums_size]; rfl
  have hc1 := fun W x => conv_lit1 W x
  have hc1b := fun W o x => conv_lit1b W o x
  have hc2 := fun W x y => conv_lit2 W x y
  clear hl hall hby hn hodd
  go_enter Tryz.func66, Tryz.ntmps66
  go_wp2_with fail
  go_loopg [6] s.size (fun g r wr => wr = w ∧ ∃ k : Nat, g = s.size - k ∧ k ≤ s.size ∧ r = .int .i64 k)
  case atStart => exact ⟨rfl, 0, rfl, by omega, rfl⟩
  case round =>
    obtain ⟨hw, k, hg, hk, rfl⟩ := hrel
    subst hw
    have HG : Hid (gk = s.size - k) := hg
    clear hg
    by_cases hlt : k < s.size
    · have hk16 := HN.out k hlt
      have hci : ¬ (15 : Int) < ((s[k]).toNat : Int) := by omega
      clear hk16
      go_wp2_with fail
      go_roundg (s.size - (k + 1))
      case measure => have := HG.out; omega
      case rel => exact ⟨rfl, k + 1, rfl, by omega, by go_num⟩
    · go_wp2_with fail
      refine (HBY.out _).mono ?_
      rintro e w1 ⟨rfl, B1⟩
      have HB1 : Hid (Below wr.heap.size wr w1) := ((Below.refl _ _).alloc (Nat.le_refl _) _).trans (B1.mono (by simp))
      clear B1
      go_wp2_with fail
      go_ret2
      exact ⟨rfl, HB1.out⟩

theorem lpack_calls (s : ByteArray) (leaf : Bool) (hs : s.size < 8192) (hn : Nibs s.data.toList) (w : World) :
    Calls Tryz.prog 66 #[.string s, .bool leaf] w fun e w' => e = .returned (.tuple #[.string (str (packU s.data.toList leaf)), .int .i64 0]) ∧ Below w.heap.size w w' := by
  by_cases ho : s.size % 2 = 1
  · cases leaf
    · exact lpack_on s hs hn ho w
    · exact lpack_ol s hs hn ho w
  · have he : s.size % 2 = 0 := by omega
    cases leaf
    · exact lpack_en s hs hn he w
    · exact lpack_el s hs hn he w
end Go.Proofs.YtenmjjpkbcogbaaGreatDoor

/- Lpack -/
namespace Go.Proofs.YtenmjjpkbcogbaaGreatDoor
open Go.RowKit

/-- what Pack answers -/
def packErr (l : List UInt8) : Int := if 8192 ≤ l.length then 1 else if nibsB l = true then 0 else 3
def packOut (l : List UInt8) (leaf : Bool) : ByteArray := if packErr l = 0 then str (packU l leaf) else ByteArray.empty

theorem pack_full (s : ByteArray) (leaf : Bool) (hs : s.size ≤ maxLen) (w : World) :
    Calls Tryz.prog 65 #[.string s, .bool leaf] w fun e w' => e = .returned (.tuple #[.string (packOut s.data.toList leaf), .int .i64 (packErr s.data.toList)]) ∧ Below w.heap.size w w' := by
  have hl : s.data.toList.length = s.size := by simp
  by_cases h8 : 8192 ≤ s.size
  · have he : packErr s.data.toList = 1 := by unfold packErr; rw [hl, if_pos h8]
    have ho : packOut s.data.toList leaf = ByteArray.empty := by unfold packOut; rw [he]; rfl
    have HE : Hid (packErr s.data.toList = 1 ∧ packOut s.data.toList leaf = ByteArray.empty) := ⟨he, ho⟩
    have h8' : (8192 : Int) ≤ (s.size : Int) := by omega
    unfold maxLen at hs
    clear hl he ho
    go_enter Tryz.func65, Tryz.ntmps65
    go_wp2_with fail
    go_ret2
    exact ⟨by rw [HE.out.1, HE.out.2]; rfl, Below.refl _ _⟩
  · cases hn : nibsB s.data.toList with
    | true =>
      have he : packErr s.data.toList = 0 := by unfold packErr; rw [hl, if_neg h8, hn]; rfl
      have ho : packOut s.data.toList leaf = str (packU s.data.toList leaf) := by unfold packOut; rw [he]; rfl
      rw [he, ho]
      exact pack_calls s leaf (by omega) (nibsB_true hn) w
    | false =>
      have he : packErr s.data.toList = 3 := by unfold packErr; rw [hl, if_neg h8, hn]; rfl
      have ho : packOut s.data.toList leaf = ByteArray.empty := by unfold packOut; rw [he]; rfl
      have HE : Hid (packErr s.data.toList = 3 ∧ packOut s.data.toList leaf = ByteArray.empty) := ⟨he, ho⟩
      have HM : Hid (s.size ≤ maxLen) := hs
      have HN : Hid (nibsB s.data.toList = false) := hn
      have h8' : ¬ (8192 : Int) ≤ (s.size : Int) := by omega
      unfold maxLen at hs
      clear hl he ho hn
      go_enter Tryz.func65, Tryz.ntmps65
      go_wp2_with fail
      refine (allHalf_calls s HM.out _).mono ?_
      rw [HN.out]
      rintro e w1 ⟨rfl, hw⟩
      subst hw
      go_wp2_with fail
      go_ret2
      exact ⟨by rw [HE.out.1, HE.out.2]; rfl, Below.refl _ _⟩

set_option maxRecDepth 100000 in
theorem lpack_full (s : ByteArray) (leaf : Bool) (hs : s.size ≤ maxLen) (w : World) :
    Calls Tryz.prog 66 #[.string s, .bool leaf] w fun e w' => e = .returned (.tuple #[.string (packOut s.data.toList leaf), .int .i64 (packErr s.data.toList)]) ∧ Below w.heap.size w w' := by
  have hl : s.data.toList.length = s.size := by simp
  by_cases h8 : 8192 ≤ s.size
  · have he : packErr s.data.toList = 1 := by unfold packErr; rw [hl, if_pos h8]
    have ho : packOut s.data.toList leaf = ByteArray.empty := by unfold packOut; rw [he]; rfl
    have HE : Hid (packErr s.data.toList = 1 ∧ packOut s.data.toList leaf = ByteArray.empty) := ⟨he, ho⟩
    have h8' : (8192 : Int) ≤ (s.size : Int) := by omega
    unfold maxLen at hs
    clear hl he ho
    go_enter Tryz.func66, Tryz.ntmps66
    go_wp2_with fail
    go_ret2
    exact ⟨by rw [HE.out.1, HE.out.2]; rfl, Below.refl _ _⟩
  · cases hn : nibsB s.data.toList with
    | true =>
      have he : packErr s.data.toList = 0 := by unfold packErr; rw [hl, if_neg h8, hn]; rfl
      have ho : packOut s.data.toList leaf = str (packU s.data.toList leaf) := by unfold packOut; rw [he]; rfl
      rw [he, ho]
      exact lpack_calls s leaf (by omega) (nibsB_true hn) w
    | false =>
      have he : packErr s.data.toList = 3 := by unfold packErr; rw [hl, if_neg h8, hn]; rfl
      have ho : packOut s.data.toList leaf = ByteArray.empty := by unfold packOut; rw [he]; rfl
      have HE : Hid (packErr s.data.toList = 3 ∧ packOut s.data.toList leaf = ByteArray.empty) := ⟨he, ho⟩
      have h8' : ¬ (8192 : Int) ≤ (s.size : Int) := by omega
      have HN : Hid (¬ ∀ j, (h : j < s.size) → (s[j]).toNat < 16) := by
        intro hall
        have : nibsB s.data.toList = true := nibsB_of fun x hx => by
          obtain ⟨j, hj, rfl⟩ := List.getElem_of_mem hx
          exact hall j (by simpa using hj)
        rw [this] at hn; cases hn
      unfold maxLen at hs
      clear hl he ho hn
      go_enter Tryz.func66, Tryz.ntmps66
      go_wp2_with fail
      go_loopg [6] s.size (fun g r wr => wr = w ∧ ∃ k : Nat, g = s.size - k ∧ k ≤ s.size ∧ r = .int .i64 k ∧ Hid (∀ j, (h : j < s.size) → j < k → (s[j]).toNat < 16))
      case atStart => exact ⟨rfl, 0, rfl, by omega, rfl, fun j _ h => by omega⟩
      case round =>
        obtain ⟨hw, k, hg, hk, rfl, hall⟩ := hrel
        subst hw
        have HG : Hid (gk = s.size - k) := hg
        clear hg
        by_cases hlt : k < s.size
        · by_cases hc : 15 < (s[k]).toNat
          · have hci : (15 : Int) < ((s[k]).toNat : Int) := by omega
            go_wp2_with fail
            go_ret2
            exact ⟨by rw [HE.out.1, HE.out.2]; rfl, Below.refl _ _⟩
          · have hci : ¬ (15 : Int) < ((s[k]).toNat : Int) := by omega
            go_wp2_with fail
            go_roundg (s.size - (k + 1))
            case measure => have := HG.out; omega
            case rel => exact ⟨rfl, k + 1, rfl, by omega, by go_num, fun j hj hj2 => by
                by_cases e : j = k
                · subst e; omega
                · exact hall.out j hj (by omega)⟩
        · exact absurd (fun j hj => hall.out j hj (by omega)) HN.out

theorem packs_calls (s : ByteArray) (leaf : Bool) (hs : s.size ≤ maxLen) (w : World) :
    Calls Tryz.prog 29 #[.string s, .bool leaf] w fun e w' => e = .returned (.bool true) ∧ Below w.heap.size w w' := by
  have HM : Hid (s.size ≤ maxLen) := hs
  clear hs
  go_enter Tryz.func29, Tryz.ntmps29
  go_wp2_with fail
  refine (pack_full s leaf HM.out _).mono ?_
  rintro e w1 ⟨rfl, B1⟩
  have HB1 : Hid (Below w.heap.size w w1) := B1
  clear B1
  go_wp2_with fail
  refine (lpack_full s leaf HM.out _).mono ?_
  rintro e w2 ⟨rfl, B2⟩
  have HB2 : Hid (Below w.heap.size w w2) := HB1.out.trans (B2.mono HB1.out.size)
  clear B2
  generalize packOut s.data.toList leaf = O at *
  generalize packErr s.data.toList = E at *
  go_wp2
  go_ret
  exact ⟨rfl, HB2.out⟩
end Go.Proofs.YtenmjjpkbcogbaaGreatDoor

/- Lunpack -/
namespace Go.Proofs.YtenmjjpkbcogbaaGreatDoor
open Go.RowKit

def formDec (t : List UInt8) : Decidable (formU t) := by unfold formU; infer_instance
def unErr (t : List UInt8) : Int := if 4096 < t.length then 1 else @ite Int (formU t) (formDec t) 0 7
def unOut (t : List UInt8) : ByteArray := if unErr t = 0 then str (pathU t) else ByteArray.empty
def unLeaf (t : List UInt8) : Bool := if unErr t = 0 then leafU t else false

theorem un_long {t : List UInt8} (h : 4096 < t.length) : unErr t = 1 ∧ unOut t = ByteArray.empty ∧ unLeaf t = false := by
  have e : unErr t = 1 := by unfold unErr; rw [if_pos h]
  refine ⟨e, ?_, ?_⟩
  · unfold unOut; rw [e]; rfl
  · unfold unLeaf; rw [e]; rfl
theorem un_bad {t : List UInt8} (h : ¬ 4096 < t.length) (hf : ¬ formU t) : unErr t = 7 ∧ unOut t = ByteArray.empty ∧ unLeaf t = false := by
  have e : unErr t = 7 := by unfold unErr; rw [if_neg h, if_neg hf]
  refine ⟨e, ?_, ?_⟩
  · unfold unOut; rw [e]; rfl
  · unfold unLeaf; rw [e]; rfl
theorem un_good {t : List UInt8} (h : ¬ 4096 < t.length) (hf : formU t) : unErr t = 0 ∧ unOut t = str (pathU t) ∧ unLeaf t = leafU t := by
  have e : unErr t = 0 := by unfold unErr; rw [if_neg h, if_pos hf]
  refine ⟨e, ?_, ?_⟩
  · unfold unOut; rw [e]; rfl
  · unfold unLeaf; rw [e]; rfl

theorem unpack_full (s : ByteArray) (hs : s.size ≤ maxLen) (w : World) :
    Calls Tryz.prog 67 #[.string s] w fun e w' => e = .returned (.tuple #[.string (unOut s.data.toList), .bool (unLeaf s.data.toList), .int .i64 (unErr s.data.toList)]) ∧ Below w.heap.size w w' := by
  have hl : s.data.toList.length = s.size := by simp
  by_cases h4 : 4096 < s.size
  · obtain ⟨h1, h2, h3⟩ := un_long (t := s.data.toList) (by omega)
    refine (unpack_bad s hs (.inl h4) w).mono ?_
    rintro e w1 ⟨rfl, rfl⟩
    rw [h1, h2, h3, if_pos h4]
    exact ⟨rfl, Below.refl _ _⟩
  · by_cases hf : formU s.data.toList
    · obtain ⟨h1, h2, h3⟩ := un_good (t := s.data.toList) (by omega) hf
      rw [h1, h2, h3]
      exact unpack_good s (by omega) hf w
    · obtain ⟨h1, h2, h3⟩ := un_bad (t := s.data.toList) (by omega) hf
      refine (unpack_bad s hs (.inr hf) w).mono ?_
      rintro e w1 ⟨rfl, rfl⟩
      rw [h1, h2, h3, if_neg h4]
      exact ⟨rfl, Below.refl _ _⟩

/-- the path and the leaf that the document's Unpack looks at -/
def lpathU (t : List UInt8) : List UInt8 := (halvesU t).drop (if (hi (t.getD 0 0)).toNat % 2 = 0 then 2 else 1)
def lleafU (t : List UInt8) : Bool := (((hi (t.getD 0 0)).toNat : Int) == 2) || (((hi (t.getD 0 0)).toNat : Int) == 3)

theorem lpathU_eq (t : List UInt8) (ht : t ≠ []) : lpathU t = pathU t := by
  cases t with
  | nil => exact absurd rfl ht
  | cons c r =>
    unfold lpathU pathU
    show (halvesU (c :: r)).drop (if (hi c).toNat % 2 = 0 then 2 else 1) = (if (hi c).toNat % 2 = 1 then [lo c] else []) ++ halvesU r
    by_cases h : (hi c).toNat % 2 = 0
    · rw [if_pos h, if_neg (by omega)]; rfl
    · rw [if_neg h, if_pos (by omega)]; rfl
theorem lleafU_eq (t : List UInt8) (h : (hi (t.getD 0 0)).toNat ≤ 3) : lleafU t = leafU t := by
  unfold lleafU leafU
  generalize (hi (t.getD 0 0)).toNat = m at *
  match m, h with
  | 0, _ => rfl
  | 1, _ => rfl
  | 2, _ => rfl
  | 3, _ => rfl
theorem lpack_again (t : List UInt8) (ht : t ≠ []) : packU (lpathU t) (lleafU t) = t ↔ formU t := by
  rw [lpathU_eq t ht]
  constructor
  · intro h
    have := (pack_form (pathU t) (lleafU t) (path_nibs t)).1
    rw [h] at this; exact this
  · intro h
    rw [lleafU_eq t h.2.1]
    exact form_pack t h

theorem halves_get0 (t : List UInt8) (ht : t ≠ []) (h : 0 < (str (halvesU t)).size) : (str (halvesU t))[0] = hi (t.getD 0 0) := by
  cases t with
  | nil => exact absurd rfl ht
  | cons c r => rfl

set_option maxRecDepth 100000 in
set_option maxHeartbeats 1000000 in
theorem lunpack_walk (s A P Q : ByteArray) (m : Nat) (hs : s.size ≤ 4096) (hsp : 0 < s.size) (hA : A.size = 2 * s.size) (hAp : 0 < A.size) (hA0 : (A[0]).toNat = m)
    (hP1 : ¬ m % 2 = 0 → A.extract 1 A.size = P) (hP2 : m % 2 = 0 → A.extract 2 A.size = P)
    (hOF : ∀ w : World, Calls Tryz.prog 163 #[.string s] w fun e w' => e = .returned (.string A) ∧ Below w.heap.size w w')
    (hPK : ∀ w : World, Calls Tryz.prog 66 #[.string P, .bool (((m : Int) == 2) || ((m : Int) == 3))] w fun e w' => e = .returned (.tuple #[.string Q, .int .i64 0]) ∧ Below w.heap.size w w') (w : World) :
    Calls Tryz.prog 68 #[.string s] w fun e w' => (Q = s → e = .returned (.tuple #[.string P, .bool (((m : Int) == 2) || ((m : Int) == 3)), .int .i64 0])) ∧ (¬ Q = s → e = .returned (.tuple #[.string ByteArray.empty, .bool false, .int .i64 7])) ∧ Below w.heap.size w w' := by
  have HOF : Hid _ := hOF
  have HPK : Hid _ := hPK
  have hA2 : 2 ≤ A.size := by omega
  have hA2i : (2 : Int) ≤ (A.size : Int) := by omega
  have hAb : A.size ≤ 8192 := by omega
  have h4' : ¬ (4096 : Int) < (s.size : Int) := by omega
  have he : A.toList.isEmpty = false := by rw [isEmpty_not]; omega
  have hA0i : ((A[0]).toNat : Int) = (m : Int) := by rw [hA0]
  have hQs : (Q = s ∧ (!Q.toList == s.toList) = false) ∨ (¬ Q = s ∧ (!Q.toList == s.toList) = true) := by
    rw [ByteArray.toList_eq, ByteArray.toList_eq]
    by_cases h : Q = s
    · exact .inl ⟨h, by rw [h]; simp⟩
    · refine .inr ⟨h, ?_⟩
      have : (Q.data.toList == s.data.toList) = false := beq_eq_false_iff_ne.2 fun e => h (by rw [← str_data Q, e, str_data])
      rw [this]; rfl
  by_cases hpar : m % 2 = 0
  · have hE := hP2 hpar
    have hmp : ((m : Int) % 2 == 0) = true := beq_iff_eq.2 (by omega)
    clear hP1 hP2 hOF hPK hA hpar hA0
    rcases hQs with ⟨hq, hqb⟩ | ⟨hq, hqb⟩
    all_goals have HQ : Hid _ := hq
    all_goals clear hq
    all_goals cases h2 : ((m : Int) == 2) <;> cases h3 : ((m : Int) == 3) <;> rw [h2, h3] at HPK
    all_goals go_enter Tryz.func68, Tryz.ntmps68
    all_goals go_wp2_with fail
    all_goals refine (HOF.out _).mono ?_
    all_goals rintro e w1 ⟨rfl, B1⟩
    all_goals have HB1 : Hid (Below w.heap.size w w1) := B1
    all_goals clear B1
    all_goals go_wp2_with fail
    all_goals refine (HPK.out _).mono ?_
    all_goals rintro e w2 ⟨rfl, B2⟩
    all_goals have HB2 : Hid (Below w.heap.size w w2) := HB1.out.trans (B2.mono HB1.out.size)
    all_goals clear B2
    all_goals go_wp2_with fail
    all_goals go_ret3
    all_goals first
      | exact ⟨fun _ => rfl, fun h => absurd HQ.out h, HB2.out⟩
      | exact ⟨fun h => absurd h HQ.out, fun _ => rfl, HB2.out⟩
  · have hE := hP1 hpar
    have hmp : ((m : Int) % 2 == 0) = false := beq_eq_false_iff_ne.2 (by omega)
    clear hP1 hP2 hOF hPK hA hpar hA0
    rcases hQs with ⟨hq, hqb⟩ | ⟨hq, hqb⟩
    all_goals have HQ : Hid _ := hq
    all_goals clear hq
    all_goals cases h2 : ((m : Int) == 2) <;> cases h3 : ((m : Int) == 3) <;> rw [h2, h3] at HPK
    all_goals go_enter Tryz.func68, Tryz.ntmps68
    all_goals go_wp2_with fail
    all_goals refine (HOF.out _).mono ?_
    all_goals rintro e w1 ⟨rfl, B1⟩
    all_goals have HB1 : Hid (Below w.heap.size w w1) := B1
    all_goals clear B1
    all_goals go_wp2_with fail
    all_goals refine (HPK.out _).mono ?_
    all_goals rintro e w2 ⟨rfl, B2⟩
    all_goals have HB2 : Hid (Below w.heap.size w w2) := HB1.out.trans (B2.mono HB1.out.size)
    all_goals clear B2
    all_goals go_wp2_with fail
    all_goals go_ret3
    all_goals first
      | exact ⟨fun _ => rfl, fun h => absurd HQ.out h, HB2.out⟩
      | exact ⟨fun h => absurd h HQ.out, fun _ => rfl, HB2.out⟩

set_option maxRecDepth 100000 in
set_option maxHeartbeats 1000000 in
theorem lunpack_full (s : ByteArray) (w : World) :
    Calls Tryz.prog 68 #[.string s] w fun e w' => e = .returned (.tuple #[.string (unOut s.data.toList), .bool (unLeaf s.data.toList), .int .i64 (unErr s.data.toList)]) ∧ Below w.heap.size w w' := by
  have hl : s.data.toList.length = s.size := by simp
  by_cases h4 : 4096 < s.size
  · have HE : Hid _ := un_long (t := s.data.toList) (by omega)
    have h4' : (4096 : Int) < (s.size : Int) := by omega
    clear hl
    go_enter Tryz.func68, Tryz.ntmps68
    go_wp2_with fail
    go_ret3
    exact ⟨by rw [HE.out.1, HE.out.2.1, HE.out.2.2]; rfl, Below.refl _ _⟩
  · have h4' : ¬ (4096 : Int) < (s.size : Int) := by omega
    have HOF : Hid (∀ w : World, Calls Tryz.prog 163 #[.string s] w fun e w' => e = .returned (.string (str (halvesU s.data.toList))) ∧ Below w.heap.size w w') := of_calls s.size s rfl (by omega)
    by_cases h0 : s.size = 0
    · have e0 : s.data.toList = [] := List.length_eq_zero_iff.1 (by omega)
      have HE : Hid _ := un_bad (t := s.data.toList) (by omega) (fun h => h.1 e0)
      have he : (str (halvesU s.data.toList)).toList.isEmpty = true := by rw [isEmpty_iff, str_size, halvesU_length]; omega
      generalize str (halvesU s.data.toList) = A at *
      clear hl e0 h0
      go_enter Tryz.func68, Tryz.ntmps68
      go_wp2_with fail
      refine (HOF.out _).mono ?_
      rintro e w1 ⟨rfl, B1⟩
      have HB1 : Hid (Below w.heap.size w w1) := B1
      clear B1
      go_wp2_with fail
      go_ret3
      exact ⟨by rw [HE.out.1, HE.out.2.1, HE.out.2.2]; rfl, HB1.out⟩
    · have hp : 0 < s.size := by omega
      have hne : s.data.toList ≠ [] := fun h => by rw [h] at hl; exact h0 hl.symm
      have hlen : (lpathU s.data.toList).length < 8192 := by
        unfold lpathU
        rw [List.length_drop, halvesU_length, hl]
        by_cases h : (hi (s.data.toList.getD 0 0)).toNat % 2 = 0
        · rw [if_pos h]; omega
        · rw [if_neg h]; omega
      have hnb : nibsB (lpathU s.data.toList) = true := nibsB_of (by rw [lpathU_eq _ hne]; exact path_nibs _)
      have hpe : packErr (lpathU s.data.toList) = 0 := by unfold packErr; rw [if_neg (by omega), if_pos hnb]
      have hpo : packOut (lpathU s.data.toList) (lleafU s.data.toList) = str (packU (lpathU s.data.toList) (lleafU s.data.toList)) := by unfold packOut; rw [if_pos hpe]
      have hag := lpack_again s.data.toList hne
      have hA0 : ∀ h : 0 < (str (halvesU s.data.toList)).size, (str (halvesU s.data.toList))[0] = hi (s.data.toList.getD 0 0) := by
        intro h
        exact halves_get0 _ hne h
      have hAs : (str (halvesU s.data.toList)).size = 2 * s.size := by rw [str_size, halvesU_length, hl]
      have hP : ∀ k, ((str (halvesU s.data.toList)).extract k (str (halvesU s.data.toList)).size) = str ((halvesU s.data.toList).drop k) := by
        intro k
        rw [← str_data (ByteArray.extract _ _ _), drop_data, str_list]
      have hP1 : ¬ (hi (s.data.toList.getD 0 0)).toNat % 2 = 0 → ((str (halvesU s.data.toList)).extract 1 (str (halvesU s.data.toList)).size) = str (lpathU s.data.toList) := fun h => by rw [hP]; unfold lpathU; rw [if_neg h]
      have hP2 : (hi (s.data.toList.getD 0 0)).toNat % 2 = 0 → ((str (halvesU s.data.toList)).extract 2 (str (halvesU s.data.toList)).size) = str (lpathU s.data.toList) := fun h => by rw [hP]; unfold lpathU; rw [if_pos h]
      have hPK := lpack_full (str (lpathU s.data.toList)) (lleafU s.data.toList) (by rw [str_size]; unfold maxLen; omega)
      rw [str_list, hpe, hpo] at hPK
      have hfin : (packU (lpathU s.data.toList) (lleafU s.data.toList) = s.data.toList → unErr s.data.toList = 0 ∧ unOut s.data.toList = str (lpathU s.data.toList) ∧ unLeaf s.data.toList = lleafU s.data.toList) ∧ (¬ packU (lpathU s.data.toList) (lleafU s.data.toList) = s.data.toList → unErr s.data.toList = 7 ∧ unOut s.data.toList = ByteArray.empty ∧ unLeaf s.data.toList = false) := by
        constructor
        · intro h
          have hf := hag.1 h
          have := un_good (t := s.data.toList) (by omega) hf
          rw [lpathU_eq _ hne, lleafU_eq _ hf.2.1]; exact this
        · intro h
          exact un_bad (t := s.data.toList) (by omega) (fun hf => h (hag.2 hf))
      have hQ : ∀ a : List UInt8, (str a = s) ↔ (a = s.data.toList) := fun a => ⟨fun h => by rw [← h, str_list], fun h => by rw [h, str_data]⟩
      refine (lunpack_walk s (str (halvesU s.data.toList)) (str (lpathU s.data.toList)) (str (packU (lpathU s.data.toList) (lleafU s.data.toList))) (hi (s.data.toList.getD 0 0)).toNat (by omega) (by omega) (by omega) (by omega) (by rw [hA0]) hP1 hP2 HOF.out hPK w).mono ?_
      rintro e w1 ⟨hg, hb, hB⟩
      refine ⟨?_, hB⟩
      by_cases hq : packU (lpathU s.data.toList) (lleafU s.data.toList) = s.data.toList
      · rw [hg ((hQ _).2 hq), (hfin.1 hq).1, (hfin.1 hq).2.1, (hfin.1 hq).2.2]; rfl
      · rw [hb (fun h => hq ((hQ _).1 h)), (hfin.2 hq).1, (hfin.2 hq).2.1, (hfin.2 hq).2.2]

theorem unpacks_calls (s : ByteArray) (hs : s.size ≤ maxLen) (w : World) :
    Calls Tryz.prog 30 #[.string s] w fun e w' => e = .returned (.bool true) ∧ Below w.heap.size w w' := by
  have HM : Hid (s.size ≤ maxLen) := hs
  clear hs
  go_enter Tryz.func30, Tryz.ntmps30
  go_wp2_with fail
  refine (unpack_full s HM.out _).mono ?_
  rintro e w1 ⟨rfl, B1⟩
  have HB1 : Hid (Below w.heap.size w w1) := B1
  clear B1
  go_wp2_with fail
  refine (lunpack_full s _).mono ?_
  rintro e w2 ⟨rfl, B2⟩
  have HB2 : Hid (Below w.heap.size w w2) := HB1.out.trans (B2.mono HB1.out.size)
  clear B2
  generalize unOut s.data.toList = O at *
  generalize unLeaf s.data.toList = L at *
  generalize unErr s.data.toList = E at *
  cases L
  all_goals go_wp2
  all_goals go_ret
  all_goals exact ⟨rfl, HB2.out⟩

end Go.Proofs.YtenmjjpkbcogbaaGreatDoor

/- LrlpA -/
namespace Go.Proofs.YtenmjjpkbcogbaaGreatDoor
open Go.RowKit

set_option maxHeartbeats 400000 in
theorem digits_calls : ∀ (f n : Nat), n < 256 ^ f → f ≤ 8 → n < 140737488355329 → ∀ (w : World),
    Calls Tryz.prog 291 #[.int .i64 n] w fun e w' => e = .returned (.string (str (digs f n))) ∧ Below w.heap.size w w' := by
  intro f
  induction f with
  | zero =>
    intro n hn _ _ w
    have h0 : n = 0 := by simpa using hn
    subst h0
    clear hn
    go_enter Tryz.func291, Tryz.ntmps291
    go_wp2_with fail
    go_ret
    exact ⟨rfl, Below.refl _ _⟩
  | succ f ih =>
    intro n hn hf hb w
    by_cases h0 : n = 0
    · have h0' : ((n : Int) == 0) = true := beq_iff_eq.2 (by omega)
      have HF : Hid (str (digs (f + 1) n) = ByteArray.empty) := by rw [h0, digs_zero]; rfl
      clear hn h0
      go_enter Tryz.func291, Tryz.ntmps291
      go_wp2_with fail
      go_ret
      exact ⟨by rw [HF.out]; rfl, Below.refl _ _⟩
    · have h0' : ((n : Int) == 0) = false := beq_eq_false_iff_ne.2 (by omega)
      have hconv := fun W x => conv_one W x
      have hih := ih (n / 256) (by rw [Nat.pow_succ] at hn; omega) (by omega) (by omega)
      have ec : ((n / 256 : Nat) : Int) = (n : Int) / 256 := by omega
      rw [ec] at hih
      have HIH : Hid (∀ w : World, Calls Tryz.prog 291 #[.int .i64 ((n : Int) / 256)] w fun e w' => e = .returned (.string (str (digs f (n / 256)))) ∧ Below w.heap.size w w') := hih
      have hw : IntKind.u8.wrap ((n : Int) % 256) = (n : Int) % 256 := by rw [IntKind.wrap_u8']; omega
      have hs1 : (strOfNums [(n : Int) % 256]).size = 1 := by rw [strOfNums_size]; rfl
      have hfin : str (digs (f + 1) n) = str (digs f (n / 256)) ++ strOfNums [(n : Int) % 256] := by
        have e1 : ((n : Int) % 256) = ((n % 256 : Nat) : Int) := by omega
        rw [e1, nums_one _ (by omega), str_append]
        conv => lhs; unfold digs
        rw [if_neg h0]
      have HF : Hid (str (digs (f + 1) n) = str (digs f (n / 256)) ++ strOfNums [(n : Int) % 256]) := hfin
      have hsz : (str (digs f (n / 256))).size ≤ 8 := by rw [str_size]; have := digs_length f (n / 256); omega
      clear hih ec ih hn h0 hfin
      go_enter Tryz.func291, Tryz.ntmps291
      go_wp2_with fail
      refine (HIH.out _).mono ?_
      rintro e w1 ⟨rfl, B1⟩
      have HB1 : Hid (Below w.heap.size w w1) := B1
      clear B1
      generalize str (digs f (n / 256)) = D at *
      go_wp2_with fail
      go_ret
      exact ⟨by rw [HF.out]; rfl, HB1.out.alloc HB1.out.size _⟩

set_option maxHeartbeats 400000 in
theorem lhead_calls (kind n : Nat) (hk : kind ≤ 192) (hn : n < 140737488355329) (w : World) :
    Calls Tryz.prog 263 #[.int .i64 kind, .int .i64 n] w fun e w' => e = .returned (.string (str (headU kind n))) ∧ Below w.heap.size w w' := by
  have hconv := fun W x => conv_one W x
  by_cases h : n ≤ 55
  · have h' : decide ((n : Int) < 56) = true := by simp; omega
    have hw : IntKind.u8.wrap ((kind : Int) + (n : Int)) = ((kind + n : Nat) : Int) := by rw [IntKind.wrap_u8']; omega
    have hf : str (headU kind n) = strOfNums [((kind + n : Nat) : Int)] := by
      unfold headU; rw [if_pos h, nums_one _ (by omega)]
    have HF : Hid (str (headU kind n) = strOfNums [((kind + n : Nat) : Int)]) := hf
    clear hf
    go_enter Tryz.func263, Tryz.ntmps263
    go_wp2_with fail
    go_ret
    refine ⟨by rw [HF.out]; rfl, (Below.refl _ _).alloc (Nat.le_refl _) _⟩
  · have h' : decide ((n : Int) < 56) = false := by simp; omega
    have hd8 := digs8 n
    have hsz : (str (digs 8 n)).size = (digs 8 n).length := str_size _
    have hf : str (headU kind n) = strOfNums [((kind + 55 + (digs 8 n).length : Nat) : Int)] ++ str (digs 8 n) := by
      unfold headU; rw [if_neg h, nums_one _ (by omega), str_append]; rfl
    have HF : Hid (str (headU kind n) = strOfNums [((kind + 55 + (digs 8 n).length : Nat) : Int)] ++ str (digs 8 n)) := hf
    clear hf
    go_enter Tryz.func263, Tryz.ntmps263
    go_wp2_with fail
    refine (digits_calls 8 n (by omega) (by omega) hn _).mono ?_
    rintro e w1 ⟨rfl, B1⟩
    have HB1 : Hid (Below w.heap.size w w1) := B1
    clear B1
    generalize str (digs 8 n) = D at *
    generalize hL : (digs 8 n).length = L at *
    have hw : IntKind.u8.wrap ((kind : Int) + 55 + (L : Int)) = ((kind + 55 + L : Nat) : Int) := by rw [IntKind.wrap_u8']; omega
    have hs1 : ∀ x : Int, (strOfNums [x]).size = 1 := fun x => by rw [strOfNums_size]; rfl
    go_wp2_with fail
    go_ret
    exact ⟨by rw [HF.out]; rfl, HB1.out.alloc HB1.out.size _⟩

theorem list_calls (s : ByteArray) (hn : s.size < 140737488355329) (w : World) :
    Calls Tryz.prog 236 #[.string s] w fun e w' => e = .returned (.string (str (listC s.data.toList))) ∧ Below w.heap.size w w' := by
  have hl : s.data.toList.length = s.size := by simp
  have hd8 := headU_length 192 s.size
  have hsz : (str (headU 192 s.size)).size ≤ 9 := by rw [str_size]; exact hd8
  have HN : Hid (s.size < 140737488355329) := hn
  have hfin : str (listC s.data.toList) = str (headU 192 s.size) ++ s := by
    unfold listC
    rw [hl]
    conv => rhs; rw [← str_data s]
    rw [str_append]
    simp only [str_data]
  have HF : Hid (str (listC s.data.toList) = str (headU 192 s.size) ++ s) := hfin
  clear hl hd8 hfin
  go_enter Tryz.func236, Tryz.ntmps236
  go_wp2_with fail
  refine (lhead_calls 192 s.size (by omega) HN.out _).mono ?_
  rintro e w1 ⟨rfl, B1⟩
  have HB1 : Hid (Below w.heap.size w w1) := B1
  clear B1
  generalize hD : str (headU 192 s.size) = D at *
  clear hD
  go_wp2_with fail
  go_ret
  exact ⟨by rw [HF.out]; rfl, HB1.out⟩

theorem text_calls (s : ByteArray) (hn : s.size < 140737488355329) (w : World) :
    Calls Tryz.prog 206 #[.string s] w fun e w' => e = .returned (.string (str (textC s.data.toList))) ∧ Below w.heap.size w w' := by
  have hl : s.data.toList.length = s.size := by simp
  have hd8 := headU_length 128 s.size
  have hsz : (str (headU 128 s.size)).size ≤ 9 := by rw [str_size]; exact hd8
  have HN : Hid (s.size < 140737488355329) := hn
  have hnb : bareB s.data.toList = false → str (textC s.data.toList) = str (headU 128 s.size) ++ s := by
    intro h
    unfold textC
    rw [if_neg (by rw [h]; decide), hl]
    conv => rhs; rw [← str_data s]
    exact (str_append _ _).symm
  have hb : bareB s.data.toList = true → str (textC s.data.toList) = s := by
    intro h; unfold textC; rw [if_pos h, str_data]
  by_cases h1 : s.size = 1
  · have h1' : ((s.size : Int) == 1) = true := beq_iff_eq.2 (by omega)
    have hp : 0 < s.size := by omega
    have e0 : s.data.toList.getD 0 0 = s[0] := by rw [List.getD_eq_getElem?_getD, List.getElem?_eq_getElem (by simpa using hp)]; rfl
    by_cases h : (s[0]).toNat < 128
    · have hlt : ((s[0]).toNat : Int) < 128 := by omega
      have HF : Hid (str (textC s.data.toList) = s) := hb (by unfold bareB; rw [hl, e0, decide_eq_true h1, decide_eq_true h]; rfl)
      clear hl e0 hb hnb h1 hd8 hsz
      go_enter Tryz.func206, Tryz.ntmps206
      go_wp2_with fail
      go_ret
      exact ⟨by rw [HF.out]; rfl, Below.refl _ _⟩
    · have hlt : ¬ ((s[0]).toNat : Int) < 128 := by omega
      have HF : Hid (str (textC s.data.toList) = str (headU 128 s.size) ++ s) := hnb (by unfold bareB; rw [e0, decide_eq_false h]; simp)
      clear hl e0 hb hnb h1 hd8
      go_enter Tryz.func206, Tryz.ntmps206
      go_wp2_with fail
      refine (lhead_calls 128 s.size (by omega) HN.out _).mono ?_
      rintro e w1 ⟨rfl, B1⟩
      have HB1 : Hid (Below w.heap.size w w1) := B1
      clear B1
      generalize hD : str (headU 128 s.size) = D at *
      clear hD
      go_wp2_with fail
      go_ret
      exact ⟨by rw [HF.out]; rfl, HB1.out⟩
  · have h1' : ((s.size : Int) == 1) = false := beq_eq_false_iff_ne.2 (by omega)
    have HF : Hid (str (textC s.data.toList) = str (headU 128 s.size) ++ s) := hnb (by unfold bareB; rw [hl, decide_eq_false h1]; rfl)
    clear hl hb hnb h1 hd8
    go_enter Tryz.func206, Tryz.ntmps206
    go_wp2_with fail
    refine (lhead_calls 128 s.size (by omega) HN.out _).mono ?_
    rintro e w1 ⟨rfl, B1⟩
    have HB1 : Hid (Below w.heap.size w w1) := B1
    clear B1
    generalize hD : str (headU 128 s.size) = D at *
    clear hD
    go_wp2_with fail
    go_ret
    exact ⟨by rw [HF.out]; rfl, HB1.out⟩
end Go.Proofs.YtenmjjpkbcogbaaGreatDoor

/- LrlpB -/
namespace Go.Proofs.YtenmjjpkbcogbaaGreatDoor
open Go.RowKit

def FlatSaid (d : Nat) : Prop := ∀ (w : World) (S : Nat → Prop) (v0 v1 v2 : Value) (x : Tree) (l : Nat), l ≤ 6 → ItemIs d w S [v0, v1, v2] x →
  Calls Tryz.prog 159 #[.agg #[v0, v1, v2], .int .i64 l] w fun e w' => e = .returned (.bool (flatU l x)) ∧ Below w.heap.size w w'

set_option maxRecDepth 100000 in
set_option maxHeartbeats 1000000 in
theorem flat_of (d : Nat) (ih : ∀ e, d = e + 1 → FlatSaid e) : FlatSaid d := by
  intro w S v0 v1 v2 x l h6 hx
  have hbel : Below w.heap.size w (w.alloc (.cells #[v0, v1, v2] 56)) := (Below.refl _ _).alloc (Nat.le_refl _) _
  have HB : Hid (Below w.heap.size w (w.alloc (.cells #[v0, v1, v2] 56))) := hbel
  rcases item_inv hx with ⟨t, rfl, rfl, rfl, ht⟩ | ⟨e, t, ks, xs, he, rfl, rfl, rfl, hr, hb, hk⟩
  · rw [flat_text]
    clear hx hbel ih
    go_enter Tryz.func159, Tryz.ntmps159
    go_wp2_with fail
    go_ret
    exact ⟨rfl, HB.out⟩
  · have HI : Hid (FlatSaid e) := ih e he
    obtain ⟨ka, kc, hkv⟩ : ∃ ka kc, v2 = .slice ka ks.length kc := by
      rcases hr.lie with ⟨h0, a, c, rfl⟩ | ⟨b, o, c, rfl, _⟩
      · exact ⟨a, c, by rw [h0]⟩
      · exact ⟨_, c, rfl⟩
    subst hkv
    obtain ⟨n, hn⟩ : ∃ n, n = ks.length := ⟨_, rfl⟩
    have HN : Hid (n = ks.length) := hn
    have HK : Hid (∀ i, i < ks.length → ItemIs e w S ((xs.drop (3 * i)).take 3) (ks.getD i (textT []))) := hk
    rw [← hn] at hb hx HB hbel ⊢
    have HR : Hid (RowIs w S (.slice ka n kc) ks.length xs) := by rw [hn]; exact hn ▸ hr
    obtain ⟨R, hR⟩ : ∃ R, R = flatU l (listT ks) := ⟨_, rfl⟩
    have HRR : Hid (R = flatU l (listT ks)) := hR
    rw [← hR]
    clear hr hk ih hn hR hx hbel
    by_cases hl0 : l = 0
    · have hl' : ((l : Int) == 0) = true := beq_iff_eq.2 (by omega)
      have hf : R = false := by rw [HRR.out, hl0, flat_zero]
      have HF : Hid (R = false) := hf
      clear hf hl0
      go_enter Tryz.func159, Tryz.ntmps159
      go_wp2_with fail
      go_ret
      exact ⟨by rw [HF.out]; rfl, HB.out⟩
    · have hl' : ((l : Int) == 0) = false := beq_eq_false_iff_ne.2 (by omega)
      have e7 : l = (l - 1) + 1 := by omega
      by_cases h64 : 64 < n
      · have hl2 : decide ((64 : Int) < (n : Int)) = true := by simp; omega
        have hf : R = false := by rw [HRR.out, e7, flat_list, decide_eq_false (by rw [← HN.out]; omega)]; rfl
        have HF : Hid (R = false) := hf
        clear hf e7 hl0
        go_enter Tryz.func159, Tryz.ntmps159
        go_wp2_with fail
        go_ret
        exact ⟨by rw [HF.out]; rfl, HB.out⟩
      · have hl2 : decide ((64 : Int) < (n : Int)) = false := by simp; omega
        have hall : R = ks.all (flatU (l - 1)) := by rw [HRR.out, e7, flat_list, decide_eq_true (by rw [← HN.out]; omega)]; rfl
        have HA : Hid (R = ks.all (flatU (l - 1))) := hall
        have ecast : ((l - 1 : Nat) : Int) = (l : Int) - 1 := by omega
        have HEC : Hid (((l - 1 : Nat) : Int) = (l : Int) - 1) := ecast
        clear hall e7 hl0 ecast
        go_enter Tryz.func159, Tryz.ntmps159
        go_wp2_with fail
        go_loopg [5] n (fun g r wr => (Below w.heap.size w wr ∧ wr.cell? ⟨w.heap.size, 2, none⟩ = some (.slice ka n kc)) ∧ ∃ i : Nat, g = n - i ∧ i ≤ n ∧ r = .int .i64 i ∧ Hid (∀ j, j < i → flatU (l - 1) (ks.getD j (textT [])) = true))
        case atStart => exact ⟨⟨HB.out, by simp⟩, 0, rfl, by omega, rfl, fun j h => by omega⟩
        case round =>
          obtain ⟨⟨hbl, hc2⟩, i, hg, hi, rfl, hd⟩ := hrel
          have HG : Hid (gk = n - i) := hg
          have HBL : Hid (Below w.heap.size w wr) := hbl
          clear hg hbl
          by_cases hlt : i < n
          · obtain ⟨b, o, u0, u1, u2, hka, g0, g1, g2, hit⟩ := row_item (HR.out.below HBL.out) HN.out (fun i hi => (HK.out i hi).below HBL.out) i hlt
            subst hka
            have hmem : ks.getD i (textT []) ∈ ks := by
              have hi' := hlt
              rw [HN.out] at hi'
              have e : ks.getD i (textT []) = ks[i] := by simp [List.getD, List.getElem?_eq_getElem hi']
              rw [e]; exact List.getElem_mem hi'
            have HMM : Hid (ks.getD i (textT []) ∈ ks) := hmem
            have hcall := HI.out wr S u0 u1 u2 _ (l - 1) (by omega) hit
            rw [HEC.out] at hcall
            have HC : Hid (Calls Tryz.prog 159 #[.agg #[u0, u1, u2], .int .i64 ((l : Int) - 1)] wr fun e w' => e = .returned (.bool (flatU (l - 1) (ks.getD i (textT [])))) ∧ Below wr.heap.size wr w') := hcall
            clear hmem hit hcall
            go_wp2_with fail
            refine HC.out.mono ?_
            cases hfl : flatU (l - 1) (ks.getD i (textT [])) with
            | true =>
              have HFL : Hid (flatU (l - 1) (ks.getD i (textT [])) = true) := hfl
              clear hfl HC
              rintro e w' ⟨rfl, B1⟩
              have HB1 : Hid (Below w.heap.size w w') := HBL.out.trans (B1.mono HBL.out.size)
              have HC2 : Hid (w'.cell? ⟨w.heap.size, 2, none⟩ = some (.slice (some ⟨b, o, none⟩) n kc)) := cell_later B1 hc2
              clear B1
              go_wp2_with fail
              go_roundg (n - (i + 1))
              case measure => have := HG.out; omega
              case rel => exact ⟨⟨HB1.out, HC2.out⟩, i + 1, rfl, by omega, by go_num, fun j hj => by
                  by_cases e : j = i
                  · subst e; exact HFL.out
                  · exact hd.out j (by omega)⟩
            | false =>
              have hf : R = false := by
                rw [HA.out]
                cases hq : ks.all (flatU (l - 1)) with
                | false => rfl
                | true => have := List.all_eq_true.1 hq _ HMM.out; rw [hfl] at this; cases this
              have HF : Hid (R = false) := hf
              clear hfl HC hf
              rintro e w' ⟨rfl, B1⟩
              have HB1 : Hid (Below w.heap.size w w') := HBL.out.trans (B1.mono HBL.out.size)
              clear B1
              go_wp2_with fail
              go_ret
              exact ⟨by rw [HF.out]; rfl, HB1.out⟩
          · have ht : R = true := by
              rw [HA.out]
              refine List.all_eq_true.2 fun x hx => ?_
              obtain ⟨j, hj, rfl⟩ := List.getElem_of_mem hx
              have := hd.out j (by have := HN.out; omega)
              have e : ks.getD j (textT []) = ks[j] := by simp [List.getD, List.getElem?_eq_getElem hj]
              rw [e] at this; exact this
            have HT : Hid (R = true) := ht
            clear ht
            go_wp2_with fail
            go_ret
            exact ⟨by rw [HT.out]; rfl, HBL.out⟩

theorem flat_all : ∀ d, FlatSaid d
  | 0 => flat_of 0 (fun e h => by omega)
  | d + 1 => flat_of (d + 1) (fun e h => by
      have : e = d := by omega
      subst this
      exact flat_all e)
end Go.Proofs.YtenmjjpkbcogbaaGreatDoor

/- LrlpC -/
namespace Go.Proofs.YtenmjjpkbcogbaaGreatDoor
open Go.RowKit

/-- C is the code c, or its beginning where that is too long -/
structure CodeIs (C : ByteArray) (c : List UInt8) : Prop where
  small : C.size ≤ 4200
  fits : c.length ≤ 4096 → C = str c
  long : 4096 < c.length → 4096 < C.size

def LCodeSaid (d : Nat) : Prop := ∀ (w : World) (S : Nat → Prop) (v0 v1 v2 : Value) (x : Tree), ItemIs d w S [v0, v1, v2] x →
  Calls Tryz.prog 160 #[.agg #[v0, v1, v2]] w fun e w' => (∃ C : ByteArray, e = .returned (.string C) ∧ CodeIs C (codeU d x)) ∧ Below w.heap.size w w'

theorem textC_length (t : List UInt8) : t.length ≤ (textC t).length ∧ (textC t).length ≤ t.length + 9 := by
  unfold textC
  split
  · omega
  · rw [List.length_append]; have := headU_length 128 t.length; omega
theorem listC_length (t : List UInt8) : t.length ≤ (listC t).length ∧ (listC t).length ≤ t.length + 9 := by
  unfold listC
  rw [List.length_append]; have := headU_length 192 t.length; omega

set_option maxRecDepth 100000 in
set_option maxHeartbeats 1000000 in
theorem lcode_of (d : Nat) (ih : ∀ e, d = e + 1 → LCodeSaid e) : LCodeSaid d := by
  intro w S v0 v1 v2 x hx
  have hbel : Below w.heap.size w (w.alloc (.cells #[v0, v1, v2] 56)) := (Below.refl _ _).alloc (Nat.le_refl _) _
  have HB : Hid (Below w.heap.size w (w.alloc (.cells #[v0, v1, v2] 56))) := hbel
  rcases item_inv hx with ⟨t, rfl, rfl, rfl, ht⟩ | ⟨e, t, ks, xs, he, rfl, rfl, rfl, hr, hb, hk⟩
  · rw [codeU_text]
    have hl : t.data.toList.length = t.size := by simp
    have htc := textC_length t.data.toList
    rw [hl] at htc
    by_cases h4 : 4096 < t.size
    · have h4' : (4096 : Int) < (t.size : Int) := by omega
      have hx4 : 4097 ≤ t.size := by omega
      have HC : Hid (CodeIs (t.extract 0 4097) (textC t.data.toList)) := ⟨by simp only [ByteArray.size_extract]; omega, fun h => by omega, fun _ => by simp only [ByteArray.size_extract]; omega⟩
      clear hx hbel ih hl htc
      go_enter Tryz.func160, Tryz.ntmps160
      go_wp2_with fail
      go_ret
      exact ⟨⟨_, rfl, HC.out⟩, HB.out⟩
    · have h4' : ¬ (4096 : Int) < (t.size : Int) := by omega
      have HC : Hid (CodeIs (str (textC t.data.toList)) (textC t.data.toList)) := ⟨by rw [str_size]; omega, fun _ => rfl, fun h => by rw [str_size]; exact h⟩
      have HT : Hid (t.size < 140737488355329) := ht
      clear hx hbel ih hl htc
      go_enter Tryz.func160, Tryz.ntmps160
      go_wp2_with fail
      refine (text_calls t HT.out _).mono ?_
      rintro e w1 ⟨rfl, B1⟩
      have HB1 : Hid (Below w.heap.size w w1) := HB.out.trans (B1.mono HB.out.size)
      clear B1
      go_wp2_with fail
      go_ret
      exact ⟨⟨_, rfl, HC.out⟩, HB1.out⟩
  · have HI : Hid (LCodeSaid e) := ih e he
    subst he
    rw [codeU_list]
    obtain ⟨ka, kc, hkv⟩ : ∃ ka kc, v2 = .slice ka ks.length kc := by
      rcases hr.lie with ⟨h0, a, c, rfl⟩ | ⟨b, o, c, rfl, _⟩
      · exact ⟨a, c, by rw [h0]⟩
      · exact ⟨_, c, rfl⟩
    subst hkv
    obtain ⟨n, hn⟩ : ∃ n, n = ks.length := ⟨_, rfl⟩
    have HN : Hid (n = ks.length) := hn
    have HK : Hid (∀ i, i < ks.length → ItemIs e w S ((xs.drop (3 * i)).take 3) (ks.getD i (textT []))) := hk
    rw [← hn] at hb hx HB hbel ⊢
    have HR : Hid (RowIs w S (.slice ka n kc) ks.length xs) := by rw [hn]; exact hn ▸ hr
    obtain ⟨T, hT⟩ : ∃ T, T = listC (ks.map (codeU e)).flatten := ⟨_, rfl⟩
    have HT : Hid (T = listC (ks.map (codeU e)).flatten) := hT
    rw [← hT]
    clear hr hk ih hn hT hx hbel
    go_enter Tryz.func160, Tryz.ntmps160
    go_wp2_with fail
    go_loopg [3, 4] n (fun g v r wr => (Below w.heap.size w wr ∧ wr.cell? ⟨w.heap.size, 2, none⟩ = some (.slice ka n kc)) ∧ ∃ (i : Nat) (B : ByteArray), g = n - i ∧ i ≤ n ∧ r = .int .i64 i ∧ v = .string B ∧ B.size ≤ 4096 ∧ Hid (B = str (codesTo e ks i)))
    case atStart => exact ⟨⟨HB.out, by simp⟩, 0, ByteArray.empty, rfl, by omega, rfl, rfl, by simp, rfl⟩
    case round =>
      obtain ⟨⟨hbl, hc2⟩, i, B, hg, hi, rfl, rfl, hB, hd⟩ := hrel
      have HG : Hid (gk = n - i) := hg
      have HBL : Hid (Below w.heap.size w wr) := hbl
      clear hg hbl
      by_cases hlt : i < n
      · obtain ⟨b, o, u0, u1, u2, hka, g0, g1, g2, hit⟩ := row_item (HR.out.below HBL.out) HN.out (fun i hi => (HK.out i hi).below HBL.out) i hlt
        subst hka
        have hcall := HI.out wr S u0 u1 u2 _ hit
        have HC : Hid (Calls Tryz.prog 160 #[.agg #[u0, u1, u2]] wr fun e1 w' => (∃ C : ByteArray, e1 = .returned (.string C) ∧ CodeIs C (codeU e (ks.getD i (textT [])))) ∧ Below wr.heap.size wr w') := hcall
        have HLO : Hid (4096 < (codesTo e ks (i + 1)).length → 4096 < T.length) := by
          intro h
          have h1 := codesTo_le e ks (i + 1)
          rw [HT.out]
          have := (listC_length (ks.map (codeU e)).flatten).1
          omega
        have HSU : Hid (codesTo e ks (i + 1) = codesTo e ks i ++ codeU e (ks.getD i (textT []))) := codesTo_succ e ks i (by rw [← HN.out]; exact hlt)
        clear hit hcall
        generalize codeU e (ks.getD i (textT [])) = c at *
        go_wp2_with fail
        refine HC.out.mono ?_
        rintro e1 w1 ⟨⟨C, rfl, hCI⟩, B1⟩
        have HB1 : Hid (Below w.heap.size w w1) := HBL.out.trans (B1.mono HBL.out.size)
        have HC2 : Hid (w1.cell? ⟨w.heap.size, 2, none⟩ = some (.slice (some ⟨b, o, none⟩) n kc)) := cell_later B1 hc2
        have hsm := hCI.small
        have HCI : Hid (CodeIs C c) := hCI
        have hap : (B ++ C).size = B.size + C.size := by simp
        clear B1 hCI HC g0 g1 g2
        by_cases hlong : 4096 < B.size + C.size
        · have hl' : decide ((4096 : Int) < (B.size : Int) + (C.size : Int)) = true := by simp; omega
          have hTl : 4096 < T.length := by
            apply HLO.out
            rw [HSU.out, List.length_append]
            by_cases hc : c.length ≤ 4096
            · have h1 := HCI.out.fits hc
              have h2 : B.size = (codesTo e ks i).length := by rw [hd.out, str_size]
              have h3 : C.size = c.length := by rw [h1, str_size]
              omega
            · omega
          have HQ : Hid (CodeIs ((B ++ C).extract 0 4097) T) := ⟨by simp only [ByteArray.size_extract]; omega, fun h => by omega, fun _ => by simp only [ByteArray.size_extract]; omega⟩
          have hbb : 4097 ≤ B.size + C.size := by omega
          clear hTl
          go_wp2_with fail
          go_ret
          exact ⟨⟨_, rfl, HQ.out⟩, HB1.out⟩
        · have hl' : decide ((4096 : Int) < (B.size : Int) + (C.size : Int)) = false := by simp; omega
          have HD : Hid (B ++ C = str (codesTo e ks (i + 1))) := by
            have hc : c.length ≤ 4096 := by
              by_cases h : c.length ≤ 4096
              · exact h
              · have := HCI.out.long (by omega); omega
            have e2 : B ++ C = str (codesTo e ks i ++ c) := by rw [hd.out, HCI.out.fits hc, str_append]
            rw [HSU.out]; exact e2
          go_wp2_with fail
          go_roundg (n - (i + 1))
          case measure => have := HG.out; omega
          case rel => exact ⟨⟨HB1.out, HC2.out⟩, i + 1, B ++ C, rfl, by omega, by go_num, rfl, by rw [hap]; omega, HD.out⟩
      · have hfin : codesTo e ks i = (ks.map (codeU e)).flatten := codesTo_all e ks i (by rw [← HN.out]; omega)
        have hBd : B.data.toList = (ks.map (codeU e)).flatten := by rw [hd.out, str_list, hfin]
        have hTB : T = listC B.data.toList := by rw [HT.out, hBd]
        have hlen := (listC_length B.data.toList).2
        have hl : B.data.toList.length = B.size := by simp
        have HQ : Hid (CodeIs (str (listC B.data.toList)) T) := by
          rw [hTB]
          exact ⟨by rw [str_size]; omega, fun _ => rfl, fun h => by rw [str_size]; exact h⟩
        have hlt' : ¬ ((i : Int) < (n : Int)) := by omega
        have HBS : Hid (B.size < 140737488355329) := show B.size < 140737488355329 by omega
        clear hfin hBd hTB hlen hl
        go_wp2_with fail
        refine (list_calls B HBS.out _).mono ?_
        rintro e1 w1 ⟨rfl, B1⟩
        have HB1 : Hid (Below w.heap.size w w1) := HBL.out.trans (B1.mono HBL.out.size)
        clear B1
        go_wp2_with fail
        go_ret
        exact ⟨⟨_, rfl, HQ.out⟩, HB1.out⟩

theorem lcode_all : ∀ d, LCodeSaid d
  | 0 => lcode_of 0 (fun e h => by omega)
  | d + 1 => lcode_of (d + 1) (fun e h => by
      have : e = d := by omega
      subst this
      exact lcode_all e)
end Go.Proofs.YtenmjjpkbcogbaaGreatDoor

/- LrlpD -/
namespace Go.Proofs.YtenmjjpkbcogbaaGreatDoor
open Go.RowKit

theorem code_any : ∀ (d L : Nat) (w : World) (S : Nat → Prop) (cs : List Value) (x : Tree), ItemIs d w S cs x → flatU L x = true → codeU d x = codeU L x := by
  intro d
  induction d with
  | zero =>
    intro L w S cs x hx hf
    obtain ⟨t, k, _, rfl, _⟩ := hx
    rw [codeU_text, codeU_text]
  | succ d ih =>
    intro L w S cs x hx hf
    rcases hx with ⟨t, k, _, rfl, _⟩ | ⟨t, k, ks, xs, _, rfl, hr, hb, hk⟩
    · rw [codeU_text, codeU_text]
    · cases L with
      | zero => rw [flat_zero] at hf; cases hf
      | succ L =>
        rw [flat_list] at hf
        have hall : ∀ x, x ∈ ks → flatU L x = true := by
          simp only [Bool.and_eq_true] at hf
          exact List.all_eq_true.1 hf.2
        rw [codeU_list, codeU_list]
        congr 2
        refine List.map_congr_left fun y hy => ?_
        obtain ⟨i, hi, rfl⟩ := List.getElem_of_mem hy
        have e : ks.getD i (textT []) = ks[i] := by simp [List.getD, List.getElem?_eq_getElem hi]
        have h1 := hk i hi
        rw [e] at h1
        exact ih L w S _ _ h1 (hall _ hy)

set_option maxRecDepth 100000 in
set_option maxHeartbeats 1000000 in
theorem encode_any (d : Nat) (w : World) (S : Nat → Prop) (v0 v1 v2 : Value) (x : Tree) (hx : ItemIs d w S [v0, v1, v2] x) :
    Calls Tryz.prog 63 #[.agg #[v0, v1, v2]] w fun e w' => e = .returned (.tuple #[.string (encOut x), .int .i64 (encErr x)]) ∧ Below w.heap.size w w' := by
  have hbel : Below w.heap.size w (w.alloc (.cells #[v0, v1, v2] 56)) := (Below.refl _ _).alloc (Nat.le_refl _) _
  have HX : Hid (ItemIs d (w.alloc (.cells #[v0, v1, v2] 56)) S [v0, v1, v2] x) := hx.below hbel
  have HB : Hid (Below w.heap.size w (w.alloc (.cells #[v0, v1, v2] 56))) := hbel
  rcases item_inv hx with ⟨t, rfl, rfl, rfl, ht⟩ | ⟨e, t, ks, xs, he, rfl, rfl, rfl, hr, hb, hk⟩
  · have hfl := flat_text 6 t.data.toList
    have ho : encOut (textT t.data.toList) = outC (codeU 6 (textT t.data.toList)) := by unfold encOut; rw [if_pos hfl]
    have he : encErr (textT t.data.toList) = (if fitsC (codeU 6 (textT t.data.toList)) = true then 0 else 1) := by unfold encErr; rw [if_pos hfl]
    have HEO : Hid (encOut (textT t.data.toList) = outC (codeU 6 (textT t.data.toList))) := ho
    have HEE : Hid (encErr (textT t.data.toList) = (if fitsC (codeU 6 (textT t.data.toList)) = true then 0 else 1)) := he
    clear hx hbel ho he hfl
    go_enter Tryz.func63, Tryz.ntmps63
    go_wp2_with fail
    refine ((code_all d).1 _ S _ _ _ _ HX.out).mono ?_
    rw [codeU_text, ← codeU_text 6]
    rintro e w1 ⟨rfl, B1⟩
    have HB1 : Hid (Below w.heap.size w w1) := HB.out.trans (B1.mono HB.out.size)
    clear B1
    generalize codeU 6 (textT t.data.toList) = c at *
    cases hf : fitsC c with
    | true =>
      have HF : Hid (fitsC c = true) := hf
      clear hf
      go_wp2_with fail
      go_ret2
      exact ⟨by rw [HEO.out, HEE.out, HF.out]; rfl, HB1.out⟩
    | false =>
      have HF : Hid (fitsC c = false) := hf
      have HO : Hid (outC c = ByteArray.empty) := by unfold outC; rw [hf]; rfl
      clear hf
      go_wp2_with fail
      go_ret2
      exact ⟨by rw [HEO.out, HEE.out, HF.out, HO.out]; rfl, HB1.out⟩
  · have hw := within_all e _ S v2 ks xs 1 (by omega) (by omega) (hr.below hbel) hb (fun i hi => (hk i hi).below hbel)
    have HW : Hid (Calls Tryz.prog 157 #[v2, .int .i64 1] (w.alloc (.cells #[.bool true, .string t, v2] 56)) fun e w' => e = .returned (.bool (flatU 6 (listT ks))) ∧ w' = w.alloc (.cells #[.bool true, .string t, v2] 56)) := hw
    cases hfl : flatU 6 (listT ks) with
    | false =>
      have ho : encOut (listT ks) = ByteArray.empty := by unfold encOut; rw [hfl]; rfl
      have he : encErr (listT ks) = 8 := by unfold encErr; rw [hfl]; rfl
      rw [ho, he]
      have HFL : Hid (flatU 6 (listT ks) = false) := hfl
      clear hx hbel ho he hfl hr hk hw
      go_enter Tryz.func63, Tryz.ntmps63
      go_wp2_with fail
      refine HW.out.mono ?_
      rw [HFL.out]
      rintro e w1 ⟨rfl, hw1⟩
      subst hw1
      go_wp2_with fail
      go_ret2
      exact ⟨rfl, HB.out⟩
    | true =>
      have ho : encOut (listT ks) = outC (codeU 6 (listT ks)) := by unfold encOut; rw [if_pos hfl]
      have he : encErr (listT ks) = (if fitsC (codeU 6 (listT ks)) = true then 0 else 1) := by unfold encErr; rw [if_pos hfl]
      have HEO : Hid (encOut (listT ks) = outC (codeU 6 (listT ks))) := ho
      have HEE : Hid (encErr (listT ks) = (if fitsC (codeU 6 (listT ks)) = true then 0 else 1)) := he
      have HFL : Hid (flatU 6 (listT ks) = true) := hfl
      clear hx hbel ho he hfl hr hk hw
      go_enter Tryz.func63, Tryz.ntmps63
      go_wp2_with fail
      refine HW.out.mono ?_
      rw [HFL.out]
      rintro e w1 ⟨rfl, hw1⟩
      subst hw1
      go_wp2_with fail
      refine ((code_all d).1 _ S _ _ _ _ HX.out).mono ?_
      rw [code_any d 6 _ _ _ _ HX.out HFL.out]
      rintro e w1 ⟨rfl, B1⟩
      have HB1 : Hid (Below w.heap.size w w1) := HB.out.trans (B1.mono HB.out.size)
      clear B1
      generalize codeU 6 (listT ks) = c at *
      cases hf : fitsC c with
      | true =>
        have HF : Hid (fitsC c = true) := hf
        clear hf
        go_wp2_with fail
        go_ret2
        exact ⟨by rw [HEO.out, HEE.out, HF.out]; rfl, HB1.out⟩
      | false =>
        have HF : Hid (fitsC c = false) := hf
        have HO : Hid (outC c = ByteArray.empty) := by unfold outC; rw [hf]; rfl
        clear hf
        go_wp2_with fail
        go_ret2
        exact ⟨by rw [HEO.out, HEE.out, HF.out, HO.out]; rfl, HB1.out⟩

theorem lencode_calls (d : Nat) (w : World) (S : Nat → Prop) (v0 v1 v2 : Value) (x : Tree) (hx : ItemIs d w S [v0, v1, v2] x) :
    Calls Tryz.prog 64 #[.agg #[v0, v1, v2]] w fun e w' => e = .returned (.tuple #[.string (encOut x), .int .i64 (encErr x)]) ∧ Below w.heap.size w w' := by
  have HX : Hid (∀ w1, Below w.heap.size w w1 → ItemIs d w1 S [v0, v1, v2] x) := fun w1 b => hx.below b
  have HB : Hid (Below w.heap.size w (w.alloc (.cells #[v0, v1, v2] 56))) := (Below.refl _ _).alloc (Nat.le_refl _) _
  cases hfl : flatU 6 x with
  | false =>
    have ho : encOut x = ByteArray.empty := by unfold encOut; rw [hfl]; rfl
    have he : encErr x = 8 := by unfold encErr; rw [hfl]; rfl
    rw [ho, he]
    have HFL : Hid (flatU 6 x = false) := hfl
    clear hx ho he hfl
    go_enter Tryz.func64, Tryz.ntmps64
    go_wp2_with fail
    refine (flat_all d _ S _ _ _ x 6 (by omega) (HX.out _ HB.out)).mono ?_
    rw [HFL.out]
    rintro e w1 ⟨rfl, B1⟩
    have HB1 : Hid (Below w.heap.size w w1) := HB.out.trans (B1.mono HB.out.size)
    have hc0 : w1.cell? ⟨w.heap.size, 0, none⟩ = some v0 := cell_later B1 (by simp)
    have hc1 : w1.cell? ⟨w.heap.size, 1, none⟩ = some v1 := cell_later B1 (by simp)
    have hc2 : w1.cell? ⟨w.heap.size, 2, none⟩ = some v2 := cell_later B1 (by simp)
    clear B1
    go_wp2_with fail
    go_ret2
    exact ⟨rfl, HB1.out⟩
  | true =>
    have HFL : Hid (flatU 6 x = true) := hfl
    have ho : encOut x = outC (codeU 6 x) := by unfold encOut; rw [if_pos hfl]
    have he : encErr x = (if fitsC (codeU 6 x) = true then 0 else 1) := by unfold encErr; rw [if_pos hfl]
    have HEO : Hid (encOut x = outC (codeU 6 x)) := ho
    have HEE : Hid (encErr x = (if fitsC (codeU 6 x) = true then 0 else 1)) := he
    have HCD : Hid (codeU d x = codeU 6 x) := code_any d 6 _ _ _ _ hx hfl
    clear hx ho he hfl
    go_enter Tryz.func64, Tryz.ntmps64
    go_wp2_with fail
    refine (flat_all d _ S _ _ _ x 6 (by omega) (HX.out _ HB.out)).mono ?_
    rw [HFL.out]
    rintro e w1 ⟨rfl, B1⟩
    have HB1 : Hid (Below w.heap.size w w1) := HB.out.trans (B1.mono HB.out.size)
    have hc0 : w1.cell? ⟨w.heap.size, 0, none⟩ = some v0 := cell_later B1 (by simp)
    have hc1 : w1.cell? ⟨w.heap.size, 1, none⟩ = some v1 := cell_later B1 (by simp)
    have hc2 : w1.cell? ⟨w.heap.size, 2, none⟩ = some v2 := cell_later B1 (by simp)
    clear B1
    go_wp2_with fail
    refine (lcode_all d _ S _ _ _ x (HX.out _ HB1.out)).mono ?_
    rw [HCD.out]
    rintro e w2 ⟨⟨C, rfl, hC⟩, B2⟩
    have HB2 : Hid (Below w.heap.size w w2) := HB1.out.trans (B2.mono HB1.out.size)
    clear B2
    generalize codeU 6 x = c at *
    have hsm := hC.small
    by_cases hf : c.length ≤ 4096
    · have h1 := hC.fits hf
      have hcs : C.size ≤ 4096 := by rw [h1, str_size]; exact hf
      have hl' : decide ((4096 : Int) < (C.size : Int)) = false := by simp; omega
      have HF : Hid (fitsC c = true) := by unfold fitsC; exact decide_eq_true hf
      have HO : Hid (outC c = C) := by rw [h1]; exact outC_data c HF.out
      clear h1 hC hf
      go_wp2_with fail
      go_ret2
      exact ⟨by rw [HEO.out, HEE.out, HF.out, HO.out]; rfl, HB2.out⟩
    · have hcs := hC.long (by omega)
      have hl' : decide ((4096 : Int) < (C.size : Int)) = true := by simp; omega
      have HF : Hid (fitsC c = false) := by unfold fitsC; exact decide_eq_false hf
      have HO : Hid (outC c = ByteArray.empty) := by unfold outC; rw [HF.out]; rfl
      clear hC hf
      go_wp2_with fail
      go_ret2
      exact ⟨by rw [HEO.out, HEE.out, HF.out, HO.out]; rfl, HB2.out⟩

theorem encodes_calls (d : Nat) (w : World) (S : Nat → Prop) (v0 v1 v2 : Value) (x : Tree) (hx : ItemIs d w S [v0, v1, v2] x) :
    Calls Tryz.prog 28 #[.agg #[v0, v1, v2]] w fun e w' => e = .returned (.tuple #[.string (encOut x), .bool true]) ∧ Below w.heap.size w w' := by
  have HX : Hid (∀ w1, Below w.heap.size w w1 → ItemIs d w1 S [v0, v1, v2] x) := fun w1 b => hx.below b
  have HB : Hid (Below w.heap.size w (w.alloc (.cells #[v0, v1, v2] 56))) := (Below.refl _ _).alloc (Nat.le_refl _) _
  clear hx
  go_enter Tryz.func28, Tryz.ntmps28
  go_wp2_with fail
  refine (encode_any d _ S _ _ _ x (HX.out _ HB.out)).mono ?_
  rintro e w1 ⟨rfl, B1⟩
  have HB1 : Hid (Below w.heap.size w w1) := HB.out.trans (B1.mono HB.out.size)
  have hc0 : w1.cell? ⟨w.heap.size, 0, none⟩ = some v0 := cell_later B1 (by simp)
  have hc1 : w1.cell? ⟨w.heap.size, 1, none⟩ = some v1 := cell_later B1 (by simp)
  have hc2 : w1.cell? ⟨w.heap.size, 2, none⟩ = some v2 := cell_later B1 (by simp)
  clear B1
  go_wp2_with fail
  refine (lencode_calls d _ S _ _ _ x (HX.out _ HB1.out)).mono ?_
  rintro e w2 ⟨rfl, B2⟩
  have HB2 : Hid (Below w.heap.size w w2) := HB1.out.trans (B2.mono HB1.out.size)
  clear B2
  generalize hO : encOut x = O at *
  generalize encErr x = E at *
  have HO : Hid (encOut x = O) := hO
  clear hO
  go_wp2
  go_ret2
  exact ⟨by rw [HO.out]; rfl, HB2.out⟩
end Go.Proofs.YtenmjjpkbcogbaaGreatDoor

/- LrlpE -/
namespace Go.Proofs.YtenmjjpkbcogbaaGreatDoor
open Go.RowKit

/-- a number, no more than 4097 -/
def capN (n : Nat) : Nat := if 4096 < n then 4097 else n
theorem capN_le (n : Nat) : capN n ≤ 4097 := by unfold capN; split <;> omega
theorem capN_step (b c : Nat) : capN (256 * capN b + c) = capN (b * 256 + c) := by
  unfold capN
  by_cases h : 4096 < b
  · rw [if_pos h, if_pos (by omega), if_pos (by omega)]
  · rw [if_neg h, Nat.mul_comm]

set_option maxRecDepth 100000 in
set_option maxHeartbeats 1000000 in
theorem size_calls (s : ByteArray) (hs : s.size ≤ 4096) (w : World) :
    Calls Tryz.prog 275 #[.string s] w fun e w' => e = .returned (.int .i64 (capN (be s.data.toList))) ∧ w' = w := by
  have HL : Hid (s.data.toList.length = s.size) := by show s.data.toList.length = s.size; simp
  go_enter Tryz.func275, Tryz.ntmps275
  go_wp2_with fail
  go_loopg [3, 4] s.size (fun g v r wr => wr = w ∧ ∃ k n : Nat, g = s.size - k ∧ k ≤ s.size ∧ r = .int .i64 k ∧ v = .int .i64 n ∧ n ≤ 4097 ∧ Hid (n = capN (be (s.data.toList.take k))))
  case atStart => exact ⟨rfl, 0, 0, rfl, by omega, rfl, rfl, by omega, rfl⟩
  case round =>
    obtain ⟨hw, k, n, hg, hk, rfl, rfl, hn, hd⟩ := hrel
    subst hw
    have HG : Hid (gk = s.size - k) := hg
    clear hg
    by_cases hlt : k < s.size
    · obtain ⟨c, hcc⟩ : ∃ c : Nat, (s[k]).toNat = c := ⟨_, rfl⟩
      have hc : c < 256 := by rw [← hcc]; exact (s[k]).toNat_lt
      have HST : Hid (capN (be (s.data.toList.take (k + 1))) = capN (256 * n + c)) := by
        show capN (be (s.data.toList.take (k + 1))) = capN (256 * n + c)
        rw [be_take_succ s k hlt, hd.out, capN_step, hcc]
      have hki : (k : Int) < (s.size : Int) := by omega
      by_cases h4 : 4096 < 256 * n + c
      · have h4' : decide ((4096 : Int) < 256 * (n : Int) + (c : Int)) = true := by simp; omega
        have HE : Hid (capN (256 * n + c) = 4097) := by unfold capN; rw [if_pos h4]; rfl
        go_wp2_with fail
        go_roundg (s.size - (k + 1))
        case measure => have := HG.out; omega
        case rel => exact ⟨rfl, k + 1, 4097, rfl, by omega, by go_num, rfl, by omega, by rw [HST.out, HE.out]; rfl⟩
      · have h4' : decide ((4096 : Int) < 256 * (n : Int) + (c : Int)) = false := by simp; omega
        have HE : Hid (capN (256 * n + c) = 256 * n + c) := by unfold capN; rw [if_neg h4]; rfl
        go_wp2_with fail
        go_roundg (s.size - (k + 1))
        case measure => have := HG.out; omega
        case rel => exact ⟨rfl, k + 1, 256 * n + c, rfl, by omega, by go_num, by go_num, by omega, by rw [HST.out, HE.out]; rfl⟩
    · have HF : Hid (capN (be s.data.toList) = n) := by
        show capN (be s.data.toList) = n
        rw [hd.out, List.take_of_length_le (by rw [HL.out]; omega)]
      have hki : ¬ (k : Int) < (s.size : Int) := by omega
      go_wp2_with fail
      go_ret
      exact ⟨by rw [HF.out]; rfl, rfl⟩

/-- split, by its definition -/
def splitR (s : List UInt8) : Except Nat (Bool × Nat × Nat) :=
  match headR s with
  | .error e => .error e
  | .ok (l, f, n) => if l = false ∧ 0 < f ∧ bareB ((s.drop f).take n) = true then .error 7 else .ok (l, f, n)
def SplitOut (r : Except Nat (Bool × Nat × Nat)) (e : Ending) : Prop :=
  match r with
  | .error c => ∃ l, e = .returned (.tuple #[.bool l, .int .i64 0, .int .i64 0, .int .i64 c])
  | .ok (l, f, n) => e = .returned (.tuple #[.bool l, .int .i64 f, .int .i64 n, .int .i64 0])

/-- behind the head: content of n bytes from f on -/
def tailR (s : List UInt8) (l : Bool) (f n : Nat) : Except Nat (Bool × Nat × Nat) :=
  if s.length - f < n then .error 5 else if l = false ∧ n = 1 ∧ (s.getD f 0).toNat < 128 then .error 7 else .ok (l, f, n)
theorem split_tail (s : List UInt8) (l : Bool) (f n : Nat) (hf : 0 < f) (h : headR s = spanR s l f n) : splitR s = tailR s l f n := by
  unfold splitR tailR
  rw [h]
  unfold spanR
  by_cases h1 : s.length - f < n
  · rw [if_pos h1, if_pos h1]
  · rw [if_neg h1, if_neg h1]
    simp only
    have hiff : bareB ((s.drop f).take n) = true ↔ (n = 1 ∧ (s.getD f 0).toNat < 128) := by
      unfold bareB
      have hlen : ((s.drop f).take n).length = n := by rw [List.length_take, List.length_drop]; omega
      rw [hlen]
      simp only [Bool.and_eq_true, decide_eq_true_eq]
      constructor
      · rintro ⟨rfl, h2⟩
        refine ⟨rfl, ?_⟩
        have : ((s.drop f).take 1).getD 0 0 = s.getD f 0 := by simp [List.getD]
        rw [this] at h2; exact h2
      · rintro ⟨rfl, h2⟩
        refine ⟨rfl, ?_⟩
        have : ((s.drop f).take 1).getD 0 0 = s.getD f 0 := by simp [List.getD]
        rw [this]; exact h2
    by_cases h2 : l = false ∧ 0 < f ∧ bareB ((s.drop f).take n) = true
    · rw [if_pos h2, if_pos ⟨h2.1, hiff.1 h2.2.2⟩]
    · rw [if_neg h2, if_neg (fun h3 => h2 ⟨h3.1, hf, hiff.2 h3.2⟩)]

set_option maxRecDepth 100000 in
set_option maxHeartbeats 1000000 in
theorem split_list (s : ByteArray) (hs : s.size ≤ 4096) (hp : 0 < s.size) (c : Nat) (hcc : (s[0]).toNat = c) (hcb : c < 256) (h1 : ¬ c < 128) (h2 : 192 ≤ c) (w : World) :
    Calls Tryz.prog 233 #[.string s] w fun e w' => SplitOut (splitR s.data.toList) e ∧ w' = w := by
  have hl : s.data.toList.length = s.size := by simp
  have hln : s.data.toList.length ≠ 0 := by rw [hl]; omega
  have hc : (s.data.toList.getD 0 0).toNat = c := by rw [List.getD_eq_getElem?_getD, List.getElem?_eq_getElem (by rw [hl]; exact hp)]; exact hcc
  have h1' : decide ((c : Int) < 128) = false := by simp; omega
  have h2' : decide ((192 : Int) ≤ (c : Int)) = true := by simp; omega
  have hbase : 192 = if 192 ≤ c then 192 else 128 := by rw [if_pos h2]
  have hdl : decide (192 ≤ c) = true := decide_eq_true h2
  obtain ⟨n, hn⟩ : ∃ n : Nat, n = c - 192 := ⟨_, rfl⟩
  have hni : (c : Int) - 192 = (n : Int) := by omega
  have hn63 : n ≤ 63 := by omega
  by_cases h55 : n ≤ 55
  · have h55' : decide ((55 : Int) < (n : Int)) = false := by simp; omega
    have hR := headR_short s.data.toList hln c 192 hc h1 hbase (by omega)
    rw [hdl, ← hn] at hR
    have hT := split_tail _ _ _ _ (by omega) hR
    rw [hT]
    unfold tailR
    rw [hl]
    by_cases hsp : s.size - 1 < n
    · rw [if_pos hsp]
      have hsp' : decide ((s.size : Int) - 1 < (n : Int)) = true := by simp; omega
      clear hl hln hc hR hbase hdl hn hT hsp
      go_enter Tryz.func233, Tryz.ntmps233
      go_wp2_with fail
      exact bodyPost_ret (v := .tuple #[.bool true, .int .i64 0, .int .i64 0, .int .i64 5]) (by simp [results, Tryz.results233, go_sem]) rfl ⟨⟨true, rfl⟩, rfl⟩
    · rw [if_neg hsp]
      have hsp' : decide ((s.size : Int) - 1 < (n : Int)) = false := by simp; omega
      rw [if_neg (fun h => by cases h.1)]
      clear hl hln hc hR hbase hdl hn hT hsp
      go_enter Tryz.func233, Tryz.ntmps233
      go_wp2_with fail
      exact bodyPost_ret (v := .tuple #[.bool true, .int .i64 1, .int .i64 (n : Int), .int .i64 0]) (by simp [results, Tryz.results233, go_sem]) rfl ⟨rfl, rfl⟩
  · have h55' : decide ((55 : Int) < (n : Int)) = true := by simp; omega
    obtain ⟨q, hq⟩ : ∃ q : Nat, q = n - 55 := ⟨_, rfl⟩
    have hqi : (n : Int) - 55 = (q : Int) := by omega
    have hq1 : 1 ≤ q := by omega
    have hq8 : q ≤ 8 := by omega
    have hR := headR_long s.data.toList hln c 192 hc h1 hbase (by omega)
    rw [hdl, ← hn, ← hq, show 1 + n - 55 = 1 + q by omega] at hR
    have hE : lenErr (s.data.toList.drop 1) q = if s.size - 1 < q then 5 else if ((s.data.toList.drop 1).getD 0 0).toNat = 0 ∨ be ((s.data.toList.drop 1).take q) ≤ 55 then 7 else 0 := by
      unfold lenErr; rw [List.length_drop, hl]
    have hV : lenVal (s.data.toList.drop 1) q = if lenErr (s.data.toList.drop 1) q = 0 then be ((s.data.toList.drop 1).take q) else 0 := rfl
    by_cases hlen : s.size < 1 + q
    · rw [if_pos (by omega)] at hE
      rw [hE, if_neg (by decide)] at hR
      have hS : splitR s.data.toList = .error 5 := by unfold splitR; rw [hR]
      rw [hS]
      have hlen' : decide ((s.size : Int) < 1 + (q : Int)) = true := by simp; omega
      clear hl hln hc hR hbase hdl hn hq hE hV hS hlen
      go_enter Tryz.func233, Tryz.ntmps233
      go_wp2_with fail
      exact bodyPost_ret (v := .tuple #[.bool true, .int .i64 0, .int .i64 0, .int .i64 5]) (by simp [results, Tryz.results233, go_sem]) rfl ⟨⟨true, rfl⟩, rfl⟩
    · rw [if_neg (by omega)] at hE
      have hp1 : 1 < s.size := by omega
      have hp1i : (1 : Int) < (s.size : Int) := by omega
      obtain ⟨c1, hcc1⟩ : ∃ c1 : Nat, (s[1]).toNat = c1 := ⟨_, rfl⟩
      have hc1 : ((s.data.toList.drop 1).getD 0 0).toNat = c1 := by
        rw [List.getD_eq_getElem?_getD, List.getElem?_drop, List.getElem?_eq_getElem (by rw [hl]; exact hp1)]; exact hcc1
      rw [hc1] at hE
      have hex : (s.extract 1 (1 + q)).data.toList = (s.data.toList.drop 1).take q := by rw [cut_data, Nat.add_sub_cancel_left]
      obtain ⟨f, hf⟩ : ∃ f : Nat, f = 1 + q := ⟨_, rfl⟩
      have hfi : (1 : Int) + (q : Int) = (f : Int) := by omega
      have hfb : f ≤ s.size := by omega
      have hlen' : decide ((s.size : Int) < (f : Int)) = false := by simp; omega
      have hf1 : 1 ≤ f := by omega
      rw [← hf] at hex
      have hsz := size_calls (s.extract 1 f) (by simp only [ByteArray.size_extract]; omega)
      rw [hex] at hsz
      generalize be ((s.data.toList.drop 1).take q) = N at *
      obtain ⟨V, hVc⟩ : ∃ V : Nat, V = capN N := ⟨_, rfl⟩
      have hV1 : N ≤ 4096 → V = N := fun h => by rw [hVc]; unfold capN; rw [if_neg (by omega)]
      have hV2 : 4096 < N → V = 4097 := fun h => by rw [hVc]; unfold capN; rw [if_pos h]
      rw [← hVc] at hsz
      have HSZ : Hid (∀ w : World, Calls Tryz.prog 275 #[.string (s.extract 1 f)] w fun e w' => e = .returned (.int .i64 V) ∧ w' = w) := hsz
      by_cases hbad : c1 = 0 ∨ N ≤ 55
      · rw [if_pos hbad] at hE
        rw [hE, if_neg (by decide)] at hR
        have hS : splitR s.data.toList = .error 7 := by unfold splitR; rw [hR]
        rw [hS]
        by_cases h0 : c1 = 0
        · have h0' : ((c1 : Int) == 0) = true := beq_iff_eq.2 (by omega)
          clear hl hln hc hR hbase hdl hn hq hE hV hS hlen hc1 hsz hex hV1 hV2 hVc hbad h0 hf
          go_enter Tryz.func233, Tryz.ntmps233
          go_wp2_with fail
          refine (HSZ.out _).mono ?_
          rintro e w1 ⟨rfl, hw1⟩
          subst hw1
          go_wp2_with fail
          exact bodyPost_ret (v := .tuple #[.bool true, .int .i64 0, .int .i64 0, .int .i64 7]) (by simp [results, Tryz.results233, go_sem]) rfl ⟨⟨true, rfl⟩, rfl⟩
        · have h0' : ((c1 : Int) == 0) = false := beq_eq_false_iff_ne.2 (by omega)
          have h56 : decide ((V : Int) < 56) = true := by
            have : N ≤ 55 := by rcases hbad with h | h; exact absurd h h0; exact h
            have := hV1 (by omega)
            simp; omega
          clear hl hln hc hR hbase hdl hn hq hE hV hS hlen hc1 hsz hex hV1 hV2 hVc hbad h0 hf
          go_enter Tryz.func233, Tryz.ntmps233
          go_wp2_with fail
          refine (HSZ.out _).mono ?_
          rintro e w1 ⟨rfl, hw1⟩
          subst hw1
          go_wp2_with fail
          exact bodyPost_ret (v := .tuple #[.bool true, .int .i64 0, .int .i64 0, .int .i64 7]) (by simp [results, Tryz.results233, go_sem]) rfl ⟨⟨true, rfl⟩, rfl⟩
      · rw [if_neg hbad] at hE
        rw [hV, hE, if_pos rfl, if_pos rfl] at hR
        have hT := split_tail _ _ _ _ (by omega) hR
        rw [hT]
        unfold tailR
        rw [hl]
        have h0' : ((c1 : Int) == 0) = false := beq_eq_false_iff_ne.2 (by omega)
        have hV56 : 56 ≤ V := by by_cases h : N ≤ 4096; have := hV1 h; omega; have := hV2 (by omega); omega
        have hV97 : V ≤ 4097 := by by_cases h : N ≤ 4096; have := hV1 h; omega; have := hV2 (by omega); omega
        have h56 : decide ((V : Int) < 56) = false := by simp; omega
        rw [← hf]
        by_cases hsp : s.size - f < N
        · rw [if_pos hsp]
          have hsp' : decide ((s.size : Int) - (f : Int) < (V : Int)) = true := by
            by_cases h : N ≤ 4096
            · have := hV1 h; simp; omega
            · have := hV2 (by omega); simp; omega
          clear hl hln hc hR hbase hdl hn hq hE hV hlen hc1 hsz hex hV1 hV2 hVc hbad hT hsp hf
          go_enter Tryz.func233, Tryz.ntmps233
          go_wp2_with fail
          refine (HSZ.out _).mono ?_
          rintro e w1 ⟨rfl, hw1⟩
          subst hw1
          go_wp2_with fail
          exact bodyPost_ret (v := .tuple #[.bool true, .int .i64 0, .int .i64 0, .int .i64 5]) (by simp [results, Tryz.results233, go_sem]) rfl ⟨⟨true, rfl⟩, rfl⟩
        · rw [if_neg hsp, if_neg (fun h => by omega)]
          have hVN : V = N := hV1 (by omega)
          subst hVN
          have hsp' : decide ((s.size : Int) - (f : Int) < (V : Int)) = false := by simp; omega
          have hn1' : ((V : Int) == 1) = false := beq_eq_false_iff_ne.2 (by omega)
          clear hl hln hc hR hbase hdl hn hq hE hV hlen hc1 hsz hex hV1 hV2 hVc hbad hT hsp hf
          go_enter Tryz.func233, Tryz.ntmps233
          go_wp2_with fail
          refine (HSZ.out _).mono ?_
          rintro e w1 ⟨rfl, hw1⟩
          subst hw1
          go_wp2_with fail
          exact bodyPost_ret (v := .tuple #[.bool true, .int .i64 (f : Int), .int .i64 (V : Int), .int .i64 0]) (by simp [results, Tryz.results233, go_sem]) rfl ⟨by show _ = _; rfl, rfl⟩

set_option maxRecDepth 100000 in
set_option maxHeartbeats 1000000 in
theorem split_text (s : ByteArray) (hs : s.size ≤ 4096) (hp : 0 < s.size) (c : Nat) (hcc : (s[0]).toNat = c) (hcb : c < 256) (h1 : ¬ c < 128) (h2 : ¬ 192 ≤ c) (w : World) :
    Calls Tryz.prog 233 #[.string s] w fun e w' => SplitOut (splitR s.data.toList) e ∧ w' = w := by
  have hl : s.data.toList.length = s.size := by simp
  have hln : s.data.toList.length ≠ 0 := by rw [hl]; omega
  have hc : (s.data.toList.getD 0 0).toNat = c := by rw [List.getD_eq_getElem?_getD, List.getElem?_eq_getElem (by rw [hl]; exact hp)]; exact hcc
  have h1' : decide ((c : Int) < 128) = false := by simp; omega
  have h2' : decide ((192 : Int) ≤ (c : Int)) = false := by simp; omega
  have hbase : 128 = if 192 ≤ c then 192 else 128 := by rw [if_neg h2]
  have hdl : decide (192 ≤ c) = false := decide_eq_false h2
  obtain ⟨n, hn⟩ : ∃ n : Nat, n = c - 128 := ⟨_, rfl⟩
  have hni : (c : Int) - 128 = (n : Int) := by omega
  have hn63 : n ≤ 63 := by omega
  by_cases h55 : n ≤ 55
  · have h55' : decide ((55 : Int) < (n : Int)) = false := by simp; omega
    have hR := headR_short s.data.toList hln c 128 hc h1 hbase (by omega)
    rw [hdl, ← hn] at hR
    have hT := split_tail _ _ _ _ (by omega) hR
    rw [hT]
    unfold tailR
    rw [hl]
    by_cases hsp : s.size - 1 < n
    · rw [if_pos hsp]
      have hsp' : decide ((s.size : Int) - 1 < (n : Int)) = true := by simp; omega
      clear hl hln hc hR hbase hdl hn hT hsp
      go_enter Tryz.func233, Tryz.ntmps233
      go_wp2_with fail
      exact bodyPost_ret (v := .tuple #[.bool false, .int .i64 0, .int .i64 0, .int .i64 5]) (by simp [results, Tryz.results233, go_sem]) rfl ⟨⟨false, rfl⟩, rfl⟩
    · rw [if_neg hsp]
      have hsp' : decide ((s.size : Int) - 1 < (n : Int)) = false := by simp; omega
      by_cases hn1 : n = 1
      · have hn1' : ((n : Int) == 1) = true := beq_iff_eq.2 (by omega)
        have hp1 : 1 < s.size := by omega
        have hp1i : (1 : Int) < (s.size : Int) := by omega
        obtain ⟨c1, hcc1⟩ : ∃ c1 : Nat, (s[1]).toNat = c1 := ⟨_, rfl⟩
        have hc1 : (s.data.toList.getD 1 0).toNat = c1 := by rw [List.getD_eq_getElem?_getD, List.getElem?_eq_getElem (by rw [hl]; exact hp1)]; exact hcc1
        rw [hc1]
        by_cases hb : c1 < 128
        · rw [if_pos ⟨rfl, hn1, hb⟩]
          have hb' : decide ((c1 : Int) < 128) = true := by simp; omega
          clear hl hln hc hR hbase hdl hn hT hsp hc1 hn1
          go_enter Tryz.func233, Tryz.ntmps233
          go_wp2_with fail
          exact bodyPost_ret (v := .tuple #[.bool false, .int .i64 0, .int .i64 0, .int .i64 7]) (by simp [results, Tryz.results233, go_sem]) rfl ⟨⟨false, rfl⟩, rfl⟩
        · rw [if_neg (fun h => hb h.2.2)]
          have hb' : decide ((c1 : Int) < 128) = false := by simp; omega
          clear hl hln hc hR hbase hdl hn hT hsp hc1 hn1
          go_enter Tryz.func233, Tryz.ntmps233
          go_wp2_with fail
          exact bodyPost_ret (v := .tuple #[.bool false, .int .i64 1, .int .i64 (n : Int), .int .i64 0]) (by simp [results, Tryz.results233, go_sem]) rfl ⟨rfl, rfl⟩
      · rw [if_neg (fun h => hn1 h.2.1)]
        have hn1' : ((n : Int) == 1) = false := beq_eq_false_iff_ne.2 (by omega)
        clear hl hln hc hR hbase hdl hn hT hsp hn1
        go_enter Tryz.func233, Tryz.ntmps233
        go_wp2_with fail
        exact bodyPost_ret (v := .tuple #[.bool false, .int .i64 1, .int .i64 (n : Int), .int .i64 0]) (by simp [results, Tryz.results233, go_sem]) rfl ⟨rfl, rfl⟩
  · have h55' : decide ((55 : Int) < (n : Int)) = true := by simp; omega
    obtain ⟨q, hq⟩ : ∃ q : Nat, q = n - 55 := ⟨_, rfl⟩
    have hqi : (n : Int) - 55 = (q : Int) := by omega
    have hq1 : 1 ≤ q := by omega
    have hq8 : q ≤ 8 := by omega
    have hR := headR_long s.data.toList hln c 128 hc h1 hbase (by omega)
    rw [hdl, ← hn, ← hq, show 1 + n - 55 = 1 + q by omega] at hR
    have hE : lenErr (s.data.toList.drop 1) q = if s.size - 1 < q then 5 else if ((s.data.toList.drop 1).getD 0 0).toNat = 0 ∨ be ((s.data.toList.drop 1).take q) ≤ 55 then 7 else 0 := by
      unfold lenErr; rw [List.length_drop, hl]
    have hV : lenVal (s.data.toList.drop 1) q = if lenErr (s.data.toList.drop 1) q = 0 then be ((s.data.toList.drop 1).take q) else 0 := rfl
    by_cases hlen : s.size < 1 + q
    · rw [if_pos (by omega)] at hE
      rw [hE, if_neg (by decide)] at hR
      have hS : splitR s.data.toList = .error 5 := by unfold splitR; rw [hR]
      rw [hS]
      have hlen' : decide ((s.size : Int) < 1 + (q : Int)) = true := by simp; omega
      clear hl hln hc hR hbase hdl hn hq hE hV hS hlen
      go_enter Tryz.func233, Tryz.ntmps233
      go_wp2_with fail
      exact bodyPost_ret (v := .tuple #[.bool false, .int .i64 0, .int .i64 0, .int .i64 5]) (by simp [results, Tryz.results233, go_sem]) rfl ⟨⟨false, rfl⟩, rfl⟩
    · rw [if_neg (by omega)] at hE
      have hp1 : 1 < s.size := by omega
      have hp1i : (1 : Int) < (s.size : Int) := by omega
      obtain ⟨c1, hcc1⟩ : ∃ c1 : Nat, (s[1]).toNat = c1 := ⟨_, rfl⟩
      have hc1 : ((s.data.toList.drop 1).getD 0 0).toNat = c1 := by
        rw [List.getD_eq_getElem?_getD, List.getElem?_drop, List.getElem?_eq_getElem (by rw [hl]; exact hp1)]; exact hcc1
      rw [hc1] at hE
      have hex : (s.extract 1 (1 + q)).data.toList = (s.data.toList.drop 1).take q := by rw [cut_data, Nat.add_sub_cancel_left]
      obtain ⟨f, hf⟩ : ∃ f : Nat, f = 1 + q := ⟨_, rfl⟩
      have hfi : (1 : Int) + (q : Int) = (f : Int) := by omega
      have hfb : f ≤ s.size := by omega
      have hlen' : decide ((s.size : Int) < (f : Int)) = false := by simp; omega
      have hf1 : 1 ≤ f := by omega
      rw [← hf] at hex
      have hsz := size_calls (s.extract 1 f) (by simp only [ByteArray.size_extract]; omega)
      rw [hex] at hsz
      generalize be ((s.data.toList.drop 1).take q) = N at *
      obtain ⟨V, hVc⟩ : ∃ V : Nat, V = capN N := ⟨_, rfl⟩
      have hV1 : N ≤ 4096 → V = N := fun h => by rw [hVc]; unfold capN; rw [if_neg (by omega)]
      have hV2 : 4096 < N → V = 4097 := fun h => by rw [hVc]; unfold capN; rw [if_pos h]
      rw [← hVc] at hsz
      have HSZ : Hid (∀ w : World, Calls Tryz.prog 275 #[.string (s.extract 1 f)] w fun e w' => e = .returned (.int .i64 V) ∧ w' = w) := hsz
      by_cases hbad : c1 = 0 ∨ N ≤ 55
      · rw [if_pos hbad] at hE
        rw [hE, if_neg (by decide)] at hR
        have hS : splitR s.data.toList = .error 7 := by unfold splitR; rw [hR]
        rw [hS]
        by_cases h0 : c1 = 0
        · have h0' : ((c1 : Int) == 0) = true := beq_iff_eq.2 (by omega)
          clear hl hln hc hR hbase hdl hn hq hE hV hS hlen hc1 hsz hex hV1 hV2 hVc hbad h0 hf
          go_enter Tryz.func233, Tryz.ntmps233
          go_wp2_with fail
          refine (HSZ.out _).mono ?_
          rintro e w1 ⟨rfl, hw1⟩
          subst hw1
          go_wp2_with fail
          exact bodyPost_ret (v := .tuple #[.bool false, .int .i64 0, .int .i64 0, .int .i64 7]) (by simp [results, Tryz.results233, go_sem]) rfl ⟨⟨false, rfl⟩, rfl⟩
        · have h0' : ((c1 : Int) == 0) = false := beq_eq_false_iff_ne.2 (by omega)
          have h56 : decide ((V : Int) < 56) = true := by
            have : N ≤ 55 := by rcases hbad with h | h; exact absurd h h0; exact h
            have := hV1 (by omega)
            simp; omega
          clear hl hln hc hR hbase hdl hn hq hE hV hS hlen hc1 hsz hex hV1 hV2 hVc hbad h0 hf
          go_enter Tryz.func233, Tryz.ntmps233
          go_wp2_with fail
          refine (HSZ.out _).mono ?_
          rintro e w1 ⟨rfl, hw1⟩
          subst hw1
          go_wp2_with fail
          exact bodyPost_ret (v := .tuple #[.bool false, .int .i64 0, .int .i64 0, .int .i64 7]) (by simp [results, Tryz.results233, go_sem]) rfl ⟨⟨false, rfl⟩, rfl⟩
      · rw [if_neg hbad] at hE
        rw [hV, hE, if_pos rfl, if_pos rfl] at hR
        have hT := split_tail _ _ _ _ (by omega) hR
        rw [hT]
        unfold tailR
        rw [hl]
        have h0' : ((c1 : Int) == 0) = false := beq_eq_false_iff_ne.2 (by omega)
        have hV56 : 56 ≤ V := by by_cases h : N ≤ 4096; have := hV1 h; omega; have := hV2 (by omega); omega
        have hV97 : V ≤ 4097 := by by_cases h : N ≤ 4096; have := hV1 h; omega; have := hV2 (by omega); omega
        have h56 : decide ((V : Int) < 56) = false := by simp; omega
        rw [← hf]
        by_cases hsp : s.size - f < N
        · rw [if_pos hsp]
          have hsp' : decide ((s.size : Int) - (f : Int) < (V : Int)) = true := by
            by_cases h : N ≤ 4096
            · have := hV1 h; simp; omega
            · have := hV2 (by omega); simp; omega
          clear hl hln hc hR hbase hdl hn hq hE hV hlen hc1 hsz hex hV1 hV2 hVc hbad hT hsp hf
          go_enter Tryz.func233, Tryz.ntmps233
          go_wp2_with fail
          refine (HSZ.out _).mono ?_
          rintro e w1 ⟨rfl, hw1⟩
          subst hw1
          go_wp2_with fail
          exact bodyPost_ret (v := .tuple #[.bool false, .int .i64 0, .int .i64 0, .int .i64 5]) (by simp [results, Tryz.results233, go_sem]) rfl ⟨⟨false, rfl⟩, rfl⟩
        · rw [if_neg hsp, if_neg (fun h => by omega)]
          have hVN : V = N := hV1 (by omega)
          subst hVN
          have hsp' : decide ((s.size : Int) - (f : Int) < (V : Int)) = false := by simp; omega
          have hn1' : ((V : Int) == 1) = false := beq_eq_false_iff_ne.2 (by omega)
          clear hl hln hc hR hbase hdl hn hq hE hV hlen hc1 hsz hex hV1 hV2 hVc hbad hT hsp hf
          go_enter Tryz.func233, Tryz.ntmps233
          go_wp2_with fail
          refine (HSZ.out _).mono ?_
          rintro e w1 ⟨rfl, hw1⟩
          subst hw1
          go_wp2_with fail
          exact bodyPost_ret (v := .tuple #[.bool false, .int .i64 (f : Int), .int .i64 (V : Int), .int .i64 0]) (by simp [results, Tryz.results233, go_sem]) rfl ⟨by show _ = _; rfl, rfl⟩

theorem lsplit_calls (s : ByteArray) (hs : s.size ≤ 4096) (hp : 0 < s.size) (w : World) :
    Calls Tryz.prog 233 #[.string s] w fun e w' => SplitOut (splitR s.data.toList) e ∧ w' = w := by
  obtain ⟨c, hcc⟩ : ∃ c : Nat, (s[0]).toNat = c := ⟨_, rfl⟩
  have hcb : c < 256 := by rw [← hcc]; exact (s[0]).toNat_lt
  by_cases h1 : c < 128
  · have hl : s.data.toList.length = s.size := by simp
    have hc : (s.data.toList.getD 0 0).toNat = c := by rw [List.getD_eq_getElem?_getD, List.getElem?_eq_getElem (by rw [hl]; exact hp)]; exact hcc
    have hS : splitR s.data.toList = .ok (false, 0, 1) := by
      unfold splitR; rw [headR_low _ (by rw [hl]; omega) c hc h1]; simp
    rw [hS]
    have h1' : decide ((c : Int) < 128) = true := by simp; omega
    clear hl hc hS
    go_enter Tryz.func233, Tryz.ntmps233
    go_wp2_with fail
    exact bodyPost_ret (v := .tuple #[.bool false, .int .i64 0, .int .i64 1, .int .i64 0]) (by simp [results, Tryz.results233, go_sem]) rfl ⟨rfl, rfl⟩
  · by_cases h2 : 192 ≤ c
    · exact split_list s hs hp c hcc hcb h1 h2 w
    · exact split_text s hs hp c hcc hcb h1 h2 w
end Go.Proofs.YtenmjjpkbcogbaaGreatDoor

/- LrlpF -/
namespace Go.Proofs.YtenmjjpkbcogbaaGreatDoor
open Go.RowKit

def TakeOut (d : Nat) (w : World) (s : ByteArray) (r : Except Nat (Tree × Nat)) (e : Ending) (w' : World) : Prop :=
  match r with
  | .error c => e = .returned (.tuple #[.agg #[.bool false, .string ByteArray.empty, .slice none 0 0], .string ByteArray.empty, .int .i64 c])
  | .ok (x, u) => ∃ l t a m c, e = .returned (.tuple #[.agg #[.bool l, .string t, .slice a m c], .string (s.extract u s.size), .int .i64 0]) ∧ ItemIs d w' (fun b => w.heap.size ≤ b) [.bool l, .string t, .slice a m c] x
def TakeSaid (d : Nat) : Prop := ∀ (w : World) (s : ByteArray), s.size ≤ 4096 →
  Calls Tryz.prog 156 #[.string s, .int .i64 d] w fun e w' => TakeOut d w s (takeR d s.data.toList) e w' ∧ Below w.heap.size w w'

theorem splitR_nil (s : List UInt8) (h : s.length = 0) : splitR s = .error 5 := by unfold splitR; rw [headR_nil s h]
theorem takeS_err (d : Nat) (s : List UInt8) (c : Nat) (h : splitR s = .error c) : takeR d s = .error c ∧ c ≠ 0 := by
  unfold splitR at h
  cases hh : headR s with
  | error e =>
    rw [hh] at h; cases h
    have := headR_err _ _ hh
    exact ⟨takeR_err d s c hh, by omega⟩
  | ok lfn =>
    obtain ⟨l, f, n⟩ := lfn
    rw [hh] at h
    simp only at h
    by_cases hb : l = false ∧ 0 < f ∧ bareB ((s.drop f).take n) = true
    · rw [if_pos hb] at h; cases h
      obtain ⟨rfl, h1, h2⟩ := hb
      exact ⟨takeR_bare d s f n hh h1 h2, by decide⟩
    · rw [if_neg hb] at h; cases h
theorem splitR_head (s : List UInt8) (l : Bool) (f n : Nat) (h : splitR s = .ok (l, f, n)) : headR s = .ok (l, f, n) ∧ ¬ (l = false ∧ 0 < f ∧ bareB ((s.drop f).take n) = true) := by
  unfold splitR at h
  cases hh : headR s with
  | error e => rw [hh] at h; cases h
  | ok lfn =>
    obtain ⟨l', f', n'⟩ := lfn
    rw [hh] at h
    simp only at h
    by_cases hb : l' = false ∧ 0 < f' ∧ bareB ((s.drop f').take n') = true
    · rw [if_pos hb] at h; cases h
    · rw [if_neg hb] at h; cases h
      exact ⟨rfl, hb⟩
theorem takeS_text (d : Nat) (s : List UInt8) (f n : Nat) (h : splitR s = .ok (false, f, n)) : takeR d s = .ok (textT ((s.drop f).take n), f + n) := by
  obtain ⟨h1, h2⟩ := splitR_head _ _ _ _ h
  exact takeR_text d s f n h1 (fun h => h2 ⟨rfl, h⟩)
theorem splitR_le (s : List UInt8) (l : Bool) (f n : Nat) (h : splitR s = .ok (l, f, n)) : f + n ≤ s.length := by
  obtain ⟨h1, _⟩ := splitR_head _ _ _ _ h
  obtain ⟨hs0, hcase⟩ := headR_ok _ l f n h1
  rcases hcase with ⟨_, rfl, rfl, _⟩ | ⟨_, h, _⟩
  · omega
  · exact h

theorem res_keep {h : Nat} {w1 w2 : World} {x y z : Value} (hz : h < w1.heap.size) (k0 : w1.cell? ⟨h, 0, none⟩ = some x) (k1 : w1.cell? ⟨h, 1, none⟩ = some y) (k2 : w1.cell? ⟨h, 2, none⟩ = some z)
    (f0 : w1.frozen? ⟨h, 0, none⟩ = false) (f1 : w1.frozen? ⟨h, 1, none⟩ = false) (f2 : w1.frozen? ⟨h, 2, none⟩ = false) (hb : Below w1.heap.size w1 w2) :
    w2.cell? ⟨h, 0, none⟩ = some x ∧ w2.cell? ⟨h, 1, none⟩ = some y ∧ w2.cell? ⟨h, 2, none⟩ = some z ∧ w2.frozen? ⟨h, 0, none⟩ = false ∧ w2.frozen? ⟨h, 1, none⟩ = false ∧ w2.frozen? ⟨h, 2, none⟩ = false := by
  obtain ⟨h1, h2⟩ := bcell hb
  refine ⟨?_, ?_, ?_, ?_, ?_, ?_⟩
  · rw [h1 _ _ hz]; exact k0
  · rw [h1 _ _ hz]; exact k1
  · rw [h1 _ _ hz]; exact k2
  · rw [h2 _ _ hz]; exact f0
  · rw [h2 _ _ hz]; exact f1
  · rw [h2 _ _ hz]; exact f2

set_option maxRecDepth 100000 in
set_option maxHeartbeats 1000000 in
theorem take_of (d : Nat) (ih : ∀ e, d = e + 1 → TakeSaid e) (hd6 : d ≤ 6) : TakeSaid d := by
  intro w s hs
  have hl : s.data.toList.length = s.size := by simp
  by_cases h0 : s.size = 0
  · have he : s.toList.isEmpty = true := by rw [isEmpty_iff]; exact h0
    rw [(takeS_err d _ 5 (splitR_nil _ (by omega))).1]
    clear hl h0
    go_enter Tryz.func156, Tryz.ntmps156
    go_wp2_with fail
    exact bodyPost_ret (v := .tuple #[.agg #[.bool false, .string ⟨#[]⟩, .slice none 0 0], .string ⟨#[]⟩, .int .i64 5]) (by simp [results, Tryz.results156, go_sem]) rfl ⟨rfl, (Below.refl _ _).alloc (Nat.le_refl _) _⟩
  have he : s.toList.isEmpty = false := by rw [isEmpty_not]; exact h0
  have hsp := lsplit_calls s hs (by omega)
  cases hS : splitR s.data.toList with
  | error c =>
    obtain ⟨hT, hc0⟩ := takeS_err d _ c hS
    rw [hT]
    rw [hS] at hsp
    have HSP : Hid (∀ w, Calls Tryz.prog 233 #[.string s] w fun e w' => SplitOut (.error c) e ∧ w' = w) := hsp
    have hc' : ((c : Int) != 0) = true := by simp; omega
    clear hsp hS hl hT h0
    go_enter Tryz.func156, Tryz.ntmps156
    go_wp2_with fail
    refine (HSP.out _).mono ?_
    rintro e w1 ⟨⟨l, rfl⟩, hw1⟩
    subst hw1
    go_wp2_with fail
    exact bodyPost_ret (v := .tuple #[.agg #[.bool false, .string ⟨#[]⟩, .slice none 0 0], .string ⟨#[]⟩, .int .i64 (c : Int)]) (by simp [results, Tryz.results156, go_sem]) rfl ⟨rfl, (Below.refl _ _).alloc (Nat.le_refl _) _⟩
  | ok lfn =>
    obtain ⟨l, f, n⟩ := lfn
    have hfn := splitR_le _ _ _ _ hS
    rw [hl] at hfn
    rw [hS] at hsp
    have HSP : Hid (∀ w, Calls Tryz.prog 233 #[.string s] w fun e w' => e = .returned (.tuple #[.bool l, .int .i64 f, .int .i64 n, .int .i64 0]) ∧ w' = w) := hsp
    have hcd : (s.extract f (f + n)).data.toList = (s.data.toList.drop f).take n := by rw [cut_data, Nat.add_sub_cancel_left]
    have hcz : (s.extract f (f + n)).size = n := by simp only [ByteArray.size_extract]; omega
    obtain ⟨t, ht⟩ : ∃ t : Nat, t = f + n := ⟨_, rfl⟩
    have hti : (f : Int) + (n : Int) = (t : Int) := by omega
    rw [← ht] at hcd hcz hfn
    have hft : f ≤ t := by omega
    have hfi : (f : Int) ≤ (t : Int) := by omega
    have hfn' : (t : Int) ≤ (s.size : Int) := by omega
    cases l with
    | false =>
      rw [takeS_text d _ f n hS, ← ht]
      have HTS : Hid (∀ W : World, ItemIs d W (fun b => w.heap.size ≤ b) [.bool false, .string (s.extract f t), .slice none 0 0] (textT ((s.data.toList.drop f).take n))) := by
        intro W
        have := item_text d W (fun b => w.heap.size ≤ b) (s.extract f t) (.slice none 0 0) (by rw [hcz]; omega)
        rw [hcd] at this; exact this
      clear hsp hS hl h0 hcd hcz ih ht
      go_enter Tryz.func156, Tryz.ntmps156
      go_wp2_with fail
      refine (HSP.out _).mono ?_
      rintro e w1 ⟨rfl, hw1⟩
      subst hw1
      go_wp2_with fail
      exact bodyPost_ret (v := .tuple #[.agg #[.bool false, .string (s.extract f t), .slice none 0 0], .string (s.extract t s.size), .int .i64 0]) (by simp [results, Tryz.results156, go_sem]) rfl ⟨⟨false, s.extract f t, none, 0, 0, rfl, HTS.out _⟩, (Below.refl _ _).alloc (Nat.le_refl _) _⟩
    | true =>
      obtain ⟨hh, _⟩ := splitR_head _ _ _ _ hS
      cases d with
      | zero =>
        rw [takeR_deep _ f n hh]
        clear hsp hS hl h0 hcd hcz ih ht hh
        go_enter Tryz.func156, Tryz.ntmps156
        go_wp2_with fail
        refine (HSP.out _).mono ?_
        rintro e w1 ⟨rfl, hw1⟩
        subst hw1
        go_wp2_with fail
        exact bodyPost_ret (v := .tuple #[.agg #[.bool false, .string ⟨#[]⟩, .slice none 0 0], .string ⟨#[]⟩, .int .i64 8]) (by simp [results, Tryz.results156, go_sem]) rfl ⟨rfl, (Below.refl _ _).alloc (Nat.le_refl _) _⟩
      | succ d =>
        have HI : Hid (TakeSaid d) := ih d rfl
        obtain ⟨i0, hi0, hz0, hz1, hz2⟩ := info_parts info25
        have hd0 : (((d + 1 : Nat) : Int) == 0) = false := beq_eq_false_iff_ne.2 (by omega)
        obtain ⟨D, hD⟩ : ∃ D : Int, ((d + 1 : Nat) : Int) = D := ⟨_, rfl⟩
        have hD1 : D - 1 = (d : Int) := by omega
        have hDb : 1 ≤ D ∧ D ≤ 6 := by omega
        rw [hD] at hd0 ⊢
        obtain ⟨R, hR⟩ : ∃ R, R = takeAll (takeR d) 64 ((s.data.toList.drop f).take n) := ⟨_, rfl⟩
        have HNE : Hid (∀ c, R = .error c → c ≠ 0) := fun c h => by rw [hR] at h; exact takeAll_ne _ (takeR_ne d) _ _ _ h
        have HR0 : Hid (R = joinR [] (takeAll (takeR d) (64 - 0) (s.extract f t).data.toList)) := by
          show R = joinR [] (takeAll (takeR d) (64 - 0) (s.extract f t).data.toList)
          rw [hcd, hR]; unfold joinR; cases takeAll (takeR d) 64 ((s.data.toList.drop f).take n) <;> rfl
        have HRE : Hid (∀ c, R = .error c → takeR (d + 1) s.data.toList = .error c) := fun c h => takeR_kids_err d _ f n c hh (by rw [← hR]; exact h)
        have HRO : Hid (∀ ks, R = .ok ks → takeR (d + 1) s.data.toList = .ok (listT ks, t)) := fun ks h => by rw [ht]; exact takeR_kids_ok d _ f n ks hh (by rw [← hR]; exact h)
        have HBS : Hid ((s.extract f t).size ≤ 4096) := by show (s.extract f t).size ≤ 4096; rw [hcz]; omega
        obtain ⟨H, hH⟩ : ∃ H, H = w.heap.size := ⟨_, rfl⟩
        clear hsp hS hl h0 hcd hcz ih ht hh hD hR hd6 hH
        go_enter Tryz.func156, Tryz.ntmps156
        go_wp2_with fail
        refine (HSP.out _).mono ?_
        rintro e w1 ⟨rfl, hw1⟩
        subst hw1
        go_wp2_with fail
        go_loopg [11, 13] (s.extract f t).size (fun g c v wr => ∃ (b : ByteArray) (m : Nat) (a : Option Addr) (cap : Nat) (ks : List Tree) (xs : List Value), g = b.size ∧ b.size ≤ 4096 ∧ m ≤ 64 ∧ c = .string b ∧ v = .slice a m cap ∧
          Hid (R = joinR ks (takeAll (takeR d) (64 - m) b.data.toList)) ∧ Hid (ks.length = m) ∧ wr.ownsRow (w.heap.size + 1) 56 3 (.slice a m cap) m xs ∧
          Hid (∀ i, i < m → ItemIs d wr (fun q => w.heap.size + 1 ≤ q ∧ (Value.slice a m cap).ownBlock ≠ some q) ((xs.drop (3 * i)).take 3) (ks.getD i (textT []))) ∧ Below (w.heap.size + 1) (w.alloc (.cells #[.bool false, .string ⟨#[]⟩, .slice none 0 0] 56)) wr)
        case atStart => exact ⟨s.extract f t, 0, none, 0, [], [], rfl, HBS.out, by omega, rfl, rfl, HR0.out, rfl, ⟨rfl, .inl ⟨rfl, rfl⟩⟩, fun i h => by omega, Below.refl _ _⟩
        case round =>
          obtain ⟨b, m, a, cap, ks, xs, hg, hb, hm, rfl, rfl, hRR, hkl, hown, hit, hbel⟩ := hrel
          have hbel' : Below (w.alloc (.cells #[.bool false, .string ⟨#[]⟩, .slice none 0 0] 56)).heap.size (w.alloc (.cells #[.bool false, .string ⟨#[]⟩, .slice none 0 0] 56)) wr := by simpa using hbel
          obtain ⟨k0, k1, k2, f0, f1, f2⟩ := res3 hbel'
          have hz : w.heap.size < wr.heap.size := by have := hbel'.size; simp at this; omega
          have HG : Hid (gk = b.size) := hg
          have HO : Hid (wr.ownsRow (w.heap.size + 1) 56 3 (.slice a m cap) m xs) := hown
          have HB : Hid (Below (w.heap.size + 1) (w.alloc (.cells #[.bool false, .string ⟨#[]⟩, .slice none 0 0] 56)) wr) := hbel
          have HBW0 : Hid (Below w.heap.size w wr) := ((Below.refl _ _).alloc (Nat.le_refl _) _).trans (hbel.mono (by omega))
          have HBL : Hid (b.data.toList.length = b.size) := by show b.data.toList.length = b.size; simp
          clear hg hown hbel hbel' HR0 HBS
          by_cases h0 : 0 < b.size
          · have he2 : b.toList.isEmpty = false := by rw [isEmpty_not]; omega
            by_cases h64 : m = 64
            · have h64' : ((m : Int) == 64) = true := beq_iff_eq.2 (by omega)
              have hE : takeR (d + 1) s.data.toList = .error 8 := HRE.out 8 (by
                rw [hRR.out, h64, Nat.sub_self, takeAll_full _ _ (by rw [HBL.out]; omega)]; rfl)
              have HE : Hid (takeR (d + 1) s.data.toList = .error 8) := hE
              clear hE
              go_wp2_with fail
              exact bodyPost_ret (v := .tuple #[.agg #[.bool false, .string ⟨#[]⟩, .slice none 0 0], .string ⟨#[]⟩, .int .i64 8]) (by simp [results, Tryz.results156, go_sem, k0, k1, k2]) rfl ⟨by rw [HE.out]; rfl, below_set3 HBW0.out _ _ _⟩
            · have h64' : ((m : Int) == 64) = false := beq_eq_false_iff_ne.2 (by omega)
              have e64 : 64 - m = (64 - (m + 1)) + 1 := by omega
              cases hT : takeR d b.data.toList with
              | error c =>
                have hE0 : R = .error c := by
                  rw [hRR.out, e64, takeAll_err _ _ _ c (by rw [HBL.out]; omega) hT]; rfl
                have hE := HRE.out c hE0
                have hc0 : ((c : Int) != 0) = true := by have := HNE.out c hE0; simp; omega
                have HE : Hid (takeR (d + 1) s.data.toList = .error c) := hE
                have HT : Hid (takeR d b.data.toList = .error c) := hT
                clear hE hE0 hT e64
                go_wp2_with fail
                refine (HI.out _ b hb).mono ?_
                rw [HT.out]
                rintro e w1 ⟨rfl, B1⟩
                obtain ⟨m0, m1, m2, q0, q1, q2⟩ := res_keep hz k0 k1 k2 f0 f1 f2 B1
                have HB1 : Hid (Below w.heap.size w w1) := HBW0.out.trans (B1.mono HBW0.out.size)
                have hz1' : w.heap.size < w1.heap.size := by have := B1.size; omega
                clear B1 k0 k1 k2 f0 f1 f2
                go_wp2_with fail
                exact bodyPost_ret (v := .tuple #[.agg #[.bool false, .string ⟨#[]⟩, .slice none 0 0], .string ⟨#[]⟩, .int .i64 (c : Int)]) (by simp [results, Tryz.results156, go_sem, m0, m1, m2, hz1']) rfl ⟨by rw [HE.out]; rfl, below_set3_alloc HB1.out hz1' _ _ _ _⟩
              | ok xu =>
                obtain ⟨x, u⟩ := xu
                have HS : Hid (R = joinR (ks ++ [x]) (takeAll (takeR d) (64 - (m + 1)) (b.data.toList.drop u))) := by
                  rw [hRR.out, e64, takeAll_step _ _ _ x u (by rw [HBL.out]; omega) hT, joinR_joinR]; rfl
                obtain ⟨u1, u2, _, _⟩ := takeR_ok d _ x u hT
                have hub : u ≤ b.size := by rw [HBL.out] at u2; exact u2
                have HT : Hid (takeR d b.data.toList = .ok (x, u)) := hT
                clear hT e64 u2
                go_wp2_with fail
                refine (HI.out _ b hb).mono ?_
                rw [HT.out]
                rintro e w1 ⟨⟨kl, kt, ka, km, kc, rfl, hkid⟩, B1⟩
                have HKID : Hid (ItemIs d w1 (fun q => wr.heap.size ≤ q) [.bool kl, .string kt, .slice ka km kc] x) := hkid
                have HB1 : Hid (Below (w.heap.size + 1) (w.alloc (.cells #[.bool false, .string ⟨#[]⟩, .slice none 0 0] 56)) w1) := HB.out.trans (B1.mono (by omega))
                have HBW : Hid (Below wr.heap.size wr w1) := B1
                have HO1 : Hid (w1.ownsRow (w.heap.size + 1) 56 3 (.slice a m cap) m xs) := own_below HO.out B1
                have hs1 : wr.heap.size ≤ w1.heap.size := B1.size
                clear hkid B1 k0 k1 k2 f0 f1 f2
                go_upto_region 19 with fail
                go_wp2_with (at_builtin; refine wpList_append_lies _ rfl (.tmp 68) (.tmp 70) 46 rfl (w.heap.size + 1) 56 i0 _ 3 48 Tryz.underlying46 hi0 hz0 hz1 hz2 rfl (by decide) (.slice a m cap) m xs rfl ((HO1.out.alloc _).alloc _) ⟨w1.heap.size + 1, 0, none⟩ 1 1 [.bool kl, .string kt, .slice ka km kc] rfl rfl ?c1 ?c2 (by omega) ?c3 ?c4 ?c5 _ rfl ?c6)
                case c1 => exact own_three (w1.alloc _) _ _ _ (by simp)
                case c2 => intro v hv; simp at hv; rcases hv with rfl | rfl | rfl <;> rfl
                case c3 => unfold maxLen; omega
                case c4 => omega
                case c5 => simp; omega
                intro g2 cap2 w2 hown2 hgrow2 hat2 hlt2
                have hW : ∀ q, q < w1.heap.size → ((w1.alloc (.cells #[.bool kl, .string kt, .slice ka km kc] 56)).alloc (.cells #[.bool kl, .string kt, .slice ka km kc] 56)).heap[q]? = w1.heap[q]? := fun q hq => by
                  rw [Below.heap_alloc _ _ _ (by simp; omega), Below.heap_alloc _ _ _ hq]
                have hgr : ∀ q, q < w1.heap.size → (Value.slice a m cap).ownBlock ≠ some q → w2.heap[q]? = w1.heap[q]? := fun q hq hne => by
                  rw [← hW q hq]; exact hgrow2.block q (by simp; omega) (fun h => hne h.symm)
                have hg2 : ∀ q, q < w1.heap.size → (Value.slice a m cap).ownBlock ≠ some q → (Value.slice (some ⟨g2, 0, none⟩) (m + 1) cap2).ownBlock ≠ some q := fun q hq hne h => by
                  have hgq : g2 = q := by simpa [Value.ownBlock] using h
                  rcases hat2 with h2 | h2
                  · rw [hgq] at h2; exact hne h2
                  · omega
                have hbel2 : Below (w.heap.size + 1) (w.alloc (.cells #[.bool false, .string ⟨#[]⟩, .slice none 0 0] 56)) w2 := ((HB1.out.alloc (by omega) _).alloc (by simp; omega) _).grown hgrow2 (by simp; omega) (fun k hk => (HO1.out.lt k hk).1)
                have hit2 : ∀ i, i < m + 1 → ItemIs d w2 (fun q => w.heap.size + 1 ≤ q ∧ (Value.slice (some ⟨g2, 0, none⟩) (m + 1) cap2).ownBlock ≠ some q) (((xs ++ [Value.bool kl, Value.string kt, Value.slice ka km kc]).drop (3 * i)).take 3) ((ks ++ [x]).getD i (textT [])) := by
                  intro i hi
                  have hxl : xs.length = 3 * m := by have := HO1.out.1; omega
                  by_cases him : i < m
                  · have e1 : ((xs ++ [Value.bool kl, Value.string kt, Value.slice ka km kc]).drop (3 * i)).take 3 = (xs.drop (3 * i)).take 3 := by
                      rw [List.drop_append_of_le_length (by omega), List.take_append_of_le_length (by rw [List.length_drop]; omega)]
                    have e2 : (ks ++ [x]).getD i (textT []) = ks.getD i (textT []) := by
                      rw [List.getD_eq_getElem?_getD, List.getElem?_append_left (by have := hkl.out; omega), List.getD_eq_getElem?_getD]
                    rw [e1, e2]
                    refine ItemIs.move (w := wr) (fun q hq hlt => ?_) d _ _ (hit.out i him)
                    have hq1 : q < w1.heap.size := by omega
                    exact ⟨⟨hq.1, hg2 q hq1 hq.2⟩, (hgr q hq1 hq.2).trans (HBW.out.block q hlt)⟩
                  · have him' : i = m := by omega
                    subst him'
                    have e1 : ((xs ++ [Value.bool kl, Value.string kt, Value.slice ka km kc]).drop (3 * i)).take 3 = [.bool kl, .string kt, .slice ka km kc] := by
                      rw [← hxl, List.drop_left]; rfl
                    have e2 : (ks ++ [x]).getD i (textT []) = x := by
                      rw [List.getD_eq_getElem?_getD, ← hkl.out, List.getElem?_append_right (Nat.le_refl _), Nat.sub_self]; rfl
                    rw [e1, e2]
                    refine ItemIs.move (w := w1) (fun q hq hlt => ?_) d _ _ HKID.out
                    have hne : (Value.slice a i cap).ownBlock ≠ some q := fun h => by have := (HO.out.lt q h).2; omega
                    exact ⟨⟨by omega, hg2 q hlt hne⟩, hgr q hlt hne⟩
                have HI2 : Hid (∀ i, i < m + 1 → ItemIs d w2 (fun q => w.heap.size + 1 ≤ q ∧ (Value.slice (some ⟨g2, 0, none⟩) (m + 1) cap2).ownBlock ≠ some q) (((xs ++ [Value.bool kl, Value.string kt, Value.slice ka km kc]).drop (3 * i)).take 3) ((ks ++ [x]).getD i (textT []))) := hit2
                have HO2 : Hid (w2.ownsRow (w.heap.size + 1) 56 3 (.slice (some ⟨g2, 0, none⟩) (m + 1) cap2) (m + 1) (xs ++ [Value.bool kl, Value.string kt, Value.slice ka km kc])) := hown2
                have HB2 : Hid (Below (w.heap.size + 1) (w.alloc (.cells #[.bool false, .string ⟨#[]⟩, .slice none 0 0] 56)) w2) := hbel2
                clear hW hgr hg2 hbel2 hit2 hown2 hgrow2 hat2 hlt2
                go_wp2_with fail
                go_roundg (b.size - u)
                case measure => have := HG.out; omega
                case rel =>
                  refine ⟨b.extract u b.size, m + 1, some ⟨g2, 0, none⟩, cap2, ks ++ [x], xs ++ [Value.bool kl, Value.string kt, Value.slice ka km kc], by simp, by simp; omega, by omega, rfl, rfl, ?_, by show (ks ++ [x]).length = m + 1; rw [List.length_append, hkl.out]; rfl, HO2.out, HI2.out, HB2.out⟩
                  have e : (b.extract u b.size).data.toList = b.data.toList.drop u := by rw [Lib.extract_data, List.take_of_length_le (by simp)]
                  show R = _
                  rw [e]; exact HS.out
          · have he2 : b.toList.isEmpty = true := by rw [isEmpty_iff]; omega
            have hE : takeR (d + 1) s.data.toList = .ok (listT ks, t) := HRO.out ks (by
              rw [hRR.out, takeAll_nil _ _ _ (by rw [HBL.out]; omega)]; unfold joinR; simp)
            have HE : Hid (takeR (d + 1) s.data.toList = .ok (listT ks, t)) := hE
            have HMV : Hid (∀ (W3 : World), (∀ b, b ≠ w.heap.size → W3.heap[b]? = wr.heap[b]?) → ItemIs (d + 1) W3 (fun b => w.heap.size ≤ b) [.bool true, .string ⟨#[]⟩, .slice a m cap] (listT ks)) := fun W3 h3 => by
              have hrow := own_row HO.out
              have hrow' : RowIs W3 (fun b => w.heap.size ≤ b) (.slice a m cap) ks.length xs := by
                rw [hkl.out]
                exact hrow.move (fun q hq _ => ⟨by omega, h3 q (by omega)⟩)
              refine item_list d W3 _ _ (.slice a m cap) ks xs hrow' (by rw [hkl.out]; omega) (fun i hi => ItemIs.move (w := wr) (fun q hq _ => ⟨by omega, h3 q (by omega)⟩) d _ _ (hit.out i (by rw [← hkl.out]; exact hi)))
            clear hE
            go_wp2_with fail
            exact bodyPost_ret (v := .tuple #[.agg #[.bool true, .string ⟨#[]⟩, .slice a m cap], .string (s.extract t s.size), .int .i64 0]) (by simp [results, Tryz.results156, go_sem, k0, k1, k2]) rfl ⟨by rw [HE.out]; exact ⟨true, ⟨#[]⟩, a, m, cap, rfl, HMV.out _ (fun b hb => by simp [heap_setCell_other, hb])⟩, below_set3 HBW0.out _ _ _⟩

theorem take_all : ∀ d, d ≤ 6 → TakeSaid d
  | 0, _ => take_of 0 (fun e h => by omega) (by omega)
  | d + 1, h6 => take_of (d + 1) (fun e h => by
      have : e = d := by omega
      subst this
      exact take_all e (by omega)) h6
end Go.Proofs.YtenmjjpkbcogbaaGreatDoor

/- LrlpG -/
namespace Go.Proofs.YtenmjjpkbcogbaaGreatDoor
open Go.RowKit

set_option maxRecDepth 100000 in
set_option maxHeartbeats 1000000 in
theorem ldecode_calls (w : World) (s : ByteArray) :
    Calls Tryz.prog 60 #[.string s] w fun e w' => DecOut w (decR s.data.toList) e w' ∧ Below w.heap.size w w' := by
  have hl : s.data.toList.length = s.size := by simp
  by_cases h4 : 4096 < s.size
  · rw [decR_long _ (by rw [hl]; exact h4)]
    have h4' : (4096 : Int) < (s.size : Int) := by omega
    clear hl
    go_enter Tryz.func60, Tryz.ntmps60
    go_wp2_with fail
    exact bodyPost_ret (v := .tuple #[.agg #[.bool false, .string ⟨#[]⟩, .slice none 0 0], .int .i64 1]) (by simp [results, Tryz.results60, go_sem]) rfl ⟨⟨rfl, by decide⟩, (Below.refl _ _).alloc (Nat.le_refl _) _⟩
  have h4' : ¬ ((4096 : Int) < (s.size : Int)) := by omega
  have h4l : ¬ 4096 < s.data.toList.length := by rw [hl]; exact h4
  have hread := fun w => take_all 6 (by omega) w s (by omega)
  cases hT : takeR 6 s.data.toList with
  | error c =>
    rw [decR_err _ h4l c hT]
    have hc0 := takeR_ne 6 _ _ hT
    have hc0' : ((c : Int) != 0) = true := by simp; omega
    rw [hT] at hread
    have HR : Hid (∀ w : World, Calls Tryz.prog 156 #[.string s, .int .i64 6] w fun e w' => TakeOut 6 w s (.error c) e w' ∧ Below w.heap.size w w') := hread
    have HC0 : Hid (c ≠ 0) := hc0
    clear hl h4l hT hread hc0
    go_enter Tryz.func60, Tryz.ntmps60
    go_wp2_with fail
    refine (HR.out _).mono ?_
    rintro e w1 ⟨rfl, B1⟩
    obtain ⟨k0, k1, k2, f0, f1, f2⟩ := res3 B1
    have HB1 : Hid (Below w.heap.size w w1) := ((Below.refl _ _).alloc (Nat.le_refl _) _).trans (B1.mono (by simp))
    have hz : w.heap.size < w1.heap.size := by have := B1.size; simp at this; omega
    clear B1
    go_wp2_with fail
    exact bodyPost_ret (v := .tuple #[.agg #[.bool false, .string ⟨#[]⟩, .slice none 0 0], .int .i64 (c : Int)]) (by simp [results, Tryz.results60, go_sem, k0, k1, k2, hz]) rfl ⟨⟨rfl, HC0.out⟩, below_set3_alloc HB1.out hz _ _ _ _⟩
  | ok xu =>
    obtain ⟨x, u⟩ := xu
    rw [hT] at hread
    have HR : Hid (∀ w : World, Calls Tryz.prog 156 #[.string s, .int .i64 6] w fun e w' => TakeOut 6 w s (.ok (x, u)) e w' ∧ Below w.heap.size w w') := hread
    by_cases hu : u < s.size
    · rw [decR_extra _ h4l x u hT (by rw [hl]; exact hu)]
      have hub : u ≤ s.size := by omega
      have hes : (s.extract u s.size).toList.isEmpty = false := by rw [isEmpty_not]; simp only [ByteArray.size_extract]; omega
      clear hl h4l hT hread
      go_enter Tryz.func60, Tryz.ntmps60
      go_wp2_with fail
      refine (HR.out _).mono ?_
      rintro e w1 ⟨⟨l, t, a, m, c, rfl, hit⟩, B1⟩
      obtain ⟨k0, k1, k2, f0, f1, f2⟩ := res3 B1
      have HB1 : Hid (Below w.heap.size w w1) := ((Below.refl _ _).alloc (Nat.le_refl _) _).trans (B1.mono (by simp))
      have hz : w.heap.size < w1.heap.size := by have := B1.size; simp at this; omega
      clear B1 hit
      go_wp2_with fail
      exact bodyPost_ret (v := .tuple #[.agg #[.bool false, .string ⟨#[]⟩, .slice none 0 0], .int .i64 6]) (by simp [results, Tryz.results60, go_sem, k0, k1, k2, hz]) rfl ⟨⟨rfl, by decide⟩, below_set3_alloc HB1.out hz _ _ _ _⟩
    · rw [decR_done _ h4l x u hT (by rw [hl]; exact hu)]
      have hes : (s.extract u s.size).toList.isEmpty = true := by rw [isEmpty_iff]; simp only [ByteArray.size_extract]; omega
      clear hl h4l hT hread
      go_enter Tryz.func60, Tryz.ntmps60
      go_wp2_with fail
      refine (HR.out _).mono ?_
      rintro e w1 ⟨⟨l, t, a, m, c, rfl, hit⟩, B1⟩
      obtain ⟨k0, k1, k2, f0, f1, f2⟩ := res3 B1
      have HB1 : Hid (Below w.heap.size w w1) := ((Below.refl _ _).alloc (Nat.le_refl _) _).trans (B1.mono (by simp))
      have hz : w.heap.size < w1.heap.size := by have := B1.size; simp at this; omega
      have hmv : ∀ (W3 : World), (∀ b, b < w1.heap.size → b ≠ w.heap.size → W3.heap[b]? = w1.heap[b]?) → ItemIs 6 W3 (fun b => w.heap.size ≤ b) [.bool l, .string t, .slice a m c] x := fun W3 h3 => by
        refine ItemIs.move (w := w1) (S := fun b => w.heap.size + 1 ≤ b) (fun b hb hlt => ⟨by omega, h3 b hlt (by omega)⟩) 6 _ _ (by simpa using hit)
      have HMV : Hid (∀ (W3 : World), (∀ b, b < w1.heap.size → b ≠ w.heap.size → W3.heap[b]? = w1.heap[b]?) → ItemIs 6 W3 (fun b => w.heap.size ≤ b) [.bool l, .string t, .slice a m c] x) := hmv
      clear B1 hit hmv
      go_wp2_with fail
      exact bodyPost_ret (v := .tuple #[.agg #[.bool l, .string t, .slice a m c], .int .i64 0]) (by simp [results, Tryz.results60, go_sem, k0, k1, k2, hz]) rfl ⟨⟨l, t, a, m, c, rfl, HMV.out _ (fun b hlt hb => by
        rw [Below.heap_alloc _ _ _ (by simp [World.setCell]; omega)]
        simp [heap_setCell_other, hb])⟩, below_set3_alloc HB1.out hz _ _ _ _⟩


def SameSaid (d : Nat) : Prop := ∀ (w : World) (v0 v1 v2 u0 u1 u2 : Value) (x : Tree), ItemIs d w (fun _ => True) [v0, v1, v2] x → ItemIs d w (fun _ => True) [u0, u1, u2] x →
  Calls Tryz.prog 61 #[.agg #[v0, v1, v2], .agg #[u0, u1, u2]] w fun e w' => e = .returned (.bool true) ∧ Below w.heap.size w w'

theorem textT_inj {a b : ByteArray} (h : textT a.data.toList = textT b.data.toList) : a = b := by
  unfold textT at h
  have h2 : a.data.toList = b.data.toList := by injection h with h1; injection h1
  rw [← str_data a, h2, str_data]

set_option maxRecDepth 100000 in
set_option maxHeartbeats 1000000 in
theorem same_of (d : Nat) (ih : ∀ e, d = e + 1 → SameSaid e) : SameSaid d := by
  intro w v0 v1 v2 u0 u1 u2 x hx hy
  have hbel : Below w.heap.size w ((w.alloc (.cells #[v0, v1, v2] 56)).alloc (.cells #[u0, u1, u2] 56)) := ((Below.refl _ _).alloc (Nat.le_refl _) _).alloc (by simp) _
  have HB : Hid (Below w.heap.size w ((w.alloc (.cells #[v0, v1, v2] 56)).alloc (.cells #[u0, u1, u2] 56))) := hbel
  rcases item_inv hx with ⟨t, rfl, rfl, rfl, ht⟩ | ⟨e, t, ks, xs, he, rfl, rfl, rfl, hr, hb, hk⟩
  · rcases item_inv hy with ⟨t', rfl, rfl, htt, ht'⟩ | ⟨e', t', ks', xs', he', rfl, rfl, hl, hr', hb', hk'⟩
    · obtain rfl := textT_inj htt
      clear hx hy hbel ih htt
      go_enter Tryz.func61, Tryz.ntmps61
      go_wp2
      go_ret
      exact ⟨rfl, HB.out⟩
    · cases hl
  · rcases item_inv hy with ⟨t', rfl, rfl, htt, ht'⟩ | ⟨e', t', ks', xs', he', rfl, rfl, hl, hr', hb', hk'⟩
    · cases htt
    · obtain rfl : ks = ks' := by unfold listT at hl; injection hl
      obtain rfl : e = e' := by omega
      have HI : Hid (SameSaid e) := ih e he
      obtain ⟨ka, kc, hkv⟩ : ∃ ka kc, v2 = .slice ka ks.length kc := by
        rcases hr.lie with ⟨h0, a, c, rfl⟩ | ⟨b, o, c, rfl, _⟩
        · exact ⟨a, c, by rw [h0]⟩
        · exact ⟨_, c, rfl⟩
      obtain ⟨la, lc, hlv⟩ : ∃ la lc, u2 = .slice la ks.length lc := by
        rcases hr'.lie with ⟨h0, a, c, rfl⟩ | ⟨b, o, c, rfl, _⟩
        · exact ⟨a, c, by rw [h0]⟩
        · exact ⟨_, c, rfl⟩
      subst hkv hlv
      obtain ⟨n, hn⟩ : ∃ n, n = ks.length := ⟨_, rfl⟩
      have HN : Hid (n = ks.length) := hn
      have HK : Hid (∀ i, i < ks.length → ItemIs e w (fun _ => True) ((xs.drop (3 * i)).take 3) (ks.getD i (textT []))) := hk
      have HK' : Hid (∀ i, i < ks.length → ItemIs e w (fun _ => True) ((xs'.drop (3 * i)).take 3) (ks.getD i (textT []))) := hk'
      rw [← hn] at hb hx hy HB hbel ⊢
      have HR : Hid (RowIs w (fun _ => True) (.slice ka n kc) ks.length xs) := by rw [hn]; exact hn ▸ hr
      have HR' : Hid (RowIs w (fun _ => True) (.slice la n lc) ks.length xs') := by rw [hn]; exact hn ▸ hr'
      clear hr hk ih hn hx hy hbel hr' hk' hb' hl he he'
      go_enter Tryz.func61, Tryz.ntmps61
      go_wp2_with fail
      go_loopg [5] n (fun g r wr => (Below w.heap.size w wr ∧ wr.cell? ⟨w.heap.size, 2, none⟩ = some (.slice ka n kc) ∧ wr.cell? ⟨w.heap.size + 1, 2, none⟩ = some (.slice la n lc)) ∧ ∃ i : Nat, g = n - i ∧ i ≤ n ∧ r = .int .i64 i)
      case atStart => exact ⟨⟨HB.out, by simp, by simp⟩, 0, rfl, by omega, rfl⟩
      case round =>
        obtain ⟨⟨hbl, hc2, hc3⟩, i, hg, hi, rfl⟩ := hrel
        have HG : Hid (gk = n - i) := hg
        have HBL : Hid (Below w.heap.size w wr) := hbl
        clear hg hbl
        by_cases hlt : i < n
        · obtain ⟨b, o, p0, p1, p2, hka, g0, g1, g2, hit⟩ := row_item (HR.out.below HBL.out) HN.out (fun i hi => (HK.out i hi).below HBL.out) i hlt
          obtain ⟨b', o', p0', p1', p2', hka', g0', g1', g2', hit'⟩ := row_item (HR'.out.below HBL.out) HN.out (fun i hi => (HK'.out i hi).below HBL.out) i hlt
          subst hka hka'
          have HC : Hid (∀ W : World, Below wr.heap.size wr W → Calls Tryz.prog 61 #[.agg #[p0, p1, p2], .agg #[p0', p1', p2']] W fun e w' => e = .returned (.bool true) ∧ Below W.heap.size W w') :=
            fun W hW => HI.out W p0 p1 p2 p0' p1' p2' _ (hit.below hW) (hit'.below hW)
          clear hit hit'
          go_upto_region 10 with fail
          go_cut [6] (fun v wx => v = .bool true ∧ Below wr.heap.size wr wx)
          case first =>
            go_region_with (go_at_call 61; refine (HC.out _ (by first | exact Below.refl _ _ | exact (Below.refl _ _).drew | exact (Below.refl _ _).drew.drew)).mono ?_; rintro e1 w1 ⟨rfl, B1⟩)
            all_goals (have HB0 : Hid _ := B1; clear B1; go_wp2_with fail; go_meet; exact ⟨rfl, by first | exact HB0.out | exact HB0.out.drew | exact HB0.out.drew.drew | exact (Below.refl _ _).drew.trans HB0.out | exact ((Below.refl _ _).drew.trans HB0.out).drew⟩)
          case rest =>
            obtain ⟨rfl, B1⟩ := hcut
            have HB1 : Hid (Below w.heap.size w wc) := HBL.out.trans (B1.mono HBL.out.size)
            have HC2 : Hid (wc.cell? ⟨w.heap.size, 2, none⟩ = some (.slice (some ⟨b, o, none⟩) n kc)) := cell_later B1 hc2
            have HC3 : Hid (wc.cell? ⟨w.heap.size + 1, 2, none⟩ = some (.slice (some ⟨b', o', none⟩) n lc)) := cell_later B1 hc3
            clear B1
            go_wp2_with fail
            go_roundg (n - (i + 1))
            case measure => have := HG.out; omega
            case rel => exact ⟨⟨HB1.out, HC2.out, HC3.out⟩, i + 1, rfl, by omega, by go_num⟩
        · go_wp2_with fail
          go_ret
          exact ⟨rfl, HBL.out⟩

theorem same_all : ∀ d, SameSaid d
  | 0 => same_of 0 (fun e h => by omega)
  | d + 1 => same_of (d + 1) (fun e h => by
      have : e = d := by omega
      subst this
      exact same_all e)
end Go.Proofs.YtenmjjpkbcogbaaGreatDoor

/- LrlpH -/
namespace Go.Proofs.YtenmjjpkbcogbaaGreatDoor
open Go.RowKit

/-- the item that Decode tells -/
def decT (s : List UInt8) : Tree := match decR s with
  | .error _ => textT []
  | .ok x => x
theorem item_zero (w : World) (S : Nat → Prop) : ItemIs 6 w S [.bool false, .string ⟨#[]⟩, .slice none 0 0] (textT []) :=
  item_text 6 w S ⟨#[]⟩ _ (by decide)

/-- both Decodes, told alike -/
def DecSame (w : World) (x : Tree) (c : Int) (e : Ending) (w' : World) : Prop :=
  ∃ l t a m k, e = .returned (.tuple #[.agg #[.bool l, .string t, .slice a m k], .int .i64 c]) ∧ ItemIs 6 w' (fun b => w.heap.size ≤ b) [.bool l, .string t, .slice a m k] x ∧ (c ≠ 0 → m = 0)
def decC (s : List UInt8) : Int := match decR s with
  | .error c => c
  | .ok _ => 0
theorem decSame_of {w : World} {s : List UInt8} {e : Ending} {w' : World} (h : DecOut w (decR s) e w') : DecSame w (decT s) (decC s) e w' := by
  unfold decT decC
  cases hd : decR s with
  | error c =>
    rw [hd] at h
    exact ⟨false, ⟨#[]⟩, none, 0, 0, h.1, item_zero _ _, fun _ => rfl⟩
  | ok x =>
    rw [hd] at h
    obtain ⟨l, t, a, m, k, h1, h2⟩ := h
    exact ⟨l, t, a, m, k, h1, h2, fun h => absurd rfl h⟩

set_option maxRecDepth 100000 in
set_option maxHeartbeats 1000000 in
theorem decodes_calls (w : World) (s : ByteArray) (hs : s.size ≤ maxLen) :
    Calls Tryz.prog 26 #[.string s] w fun e w' => (∃ l t a m k, e = .returned (.tuple #[.agg #[.bool l, .string t, .slice a m k], .bool true]) ∧ ItemIs 6 w' (fun b => w.heap.size ≤ b) [.bool l, .string t, .slice a m k] (decT s.data.toList)) ∧ Below w.heap.size w w' := by
  have HA : Hid (∀ w, Calls Tryz.prog 59 #[.string s] w fun e w' => DecSame w (decT s.data.toList) (decC s.data.toList) e w' ∧ Below w.heap.size w w') := fun w => (decode_calls w s hs).mono fun e w1 h => ⟨decSame_of h.1, h.2⟩
  have HL : Hid (∀ w, Calls Tryz.prog 60 #[.string s] w fun e w' => DecSame w (decT s.data.toList) (decC s.data.toList) e w' ∧ Below w.heap.size w w') := fun w => (ldecode_calls w s).mono fun e w1 h => ⟨decSame_of h.1, h.2⟩
  clear hs
  generalize decT s.data.toList = x at *
  generalize decC s.data.toList = c at *
  go_enter Tryz.func26, Tryz.ntmps26
  go_wp2_with fail
  refine (HA.out _).mono ?_
  rintro e w1 ⟨⟨l, t, a, m, k, rfl, hit, hm⟩, B1⟩
  obtain ⟨k0, k1, k2, f0, f1, f2⟩ := res3 B1
  have hz : w.heap.size < w1.heap.size := by have := B1.size; simp at this; omega
  have HB1 : Hid (Below w.heap.size w w1) := ((Below.refl _ _).alloc (Nat.le_refl _) _).trans (B1.mono (by simp))
  have HIT : Hid (ItemIs 6 w1 (fun b => w.heap.size + 1 ≤ b) [.bool l, .string t, .slice a m k] x) := by
    show ItemIs 6 w1 (fun b => w.heap.size + 1 ≤ b) [.bool l, .string t, .slice a m k] x
    simpa using hit
  have HM : Hid (c ≠ 0 → m = 0) := hm
  clear B1 hit hm
  go_wp2_with fail
  refine (HL.out _).mono ?_
  rintro e w2 ⟨⟨l2, t2, a2, m2, k2', rfl, hit2, hx2⟩, B2⟩
  clear hx2
  obtain ⟨q0, q1, q2, r0, r1, r2, c2⟩ := res4 hz k0 k1 k2 f0 f1 f2 B2
  obtain ⟨p0, p1, _, _, _, _⟩ := res3 B2
  have hz2 : w1.heap.size < w2.heap.size := by have := B2.size; simp at this; omega
  have HB2 : Hid (Below w.heap.size w w2) := (HB1.out.alloc (by omega) _).trans (B2.mono (by simp; omega))
  have HIT1 : Hid (ItemIs 6 w2 (fun _ => True) [.bool l, .string t, .slice a m k] x) := ItemIs.move (w := w1) (fun b hb hlt => ⟨trivial, (B2.block b (by simp; omega)).trans (Below.heap_alloc _ _ _ hlt)⟩) 6 _ _ HIT.out
  have HIT2 : Hid (ItemIs 6 w2 (fun b => w1.heap.size + 1 ≤ b) [.bool l2, .string t2, .slice a2 m2 k2'] x) := by
    show ItemIs 6 w2 (fun b => w1.heap.size + 1 ≤ b) [.bool l2, .string t2, .slice a2 m2 k2'] x
    simpa using hit2
  clear B2 hit2 HIT k0 k1 k2 f0 f1 f2
  go_wp2_with fail
  have hbA : Below w2.heap.size w2 (w2.alloc (.cells #[.bool l2, .string t2, .slice a2 m2 k2'] 56)) := (Below.refl _ _).alloc (Nat.le_refl _) _
  refine (same_all 6 _ _ _ _ _ _ _ x (HIT1.out.below hbA) (ItemIs.move (w := w2) (fun b _ hlt => ⟨trivial, hbA.block b hlt⟩) 6 _ _ HIT2.out)).mono ?_
  rintro e w3 ⟨rfl, B3⟩
  obtain ⟨s0, s1, s2, v0, v1, v2, _⟩ := res4 (w := w) (w1 := w2) (by omega) q0 q1 q2 r0 r1 r2 B3
  obtain ⟨o0, o1, o2, _, _, _⟩ := res3 B3
  have hcA : w3.cell? ⟨w1.heap.size, 2, none⟩ = some (.slice a m k) := by
    rw [B3.cell (p := ⟨w1.heap.size, 2, none⟩) (by simp; omega), World.cell?_alloc_lt _ _ _ hz2]; exact c2
  have hz3 : w2.heap.size < w3.heap.size := by have := B3.size; simp at this; omega
  have HB3 : Hid (Below w.heap.size w w3) := (HB2.out.alloc (by omega) _).trans (B3.mono (by simp; omega))
  have HIT3 : Hid (∀ W : World, (∀ b, b ≠ w.heap.size → b < w3.heap.size → W.heap[b]? = w3.heap[b]?) → ItemIs 6 W (fun b => w.heap.size ≤ b) [.bool l2, .string t2, .slice a2 m2 k2'] x) := fun W hW =>
    ItemIs.move (w := w2) (fun b hb hlt => ⟨by omega, (hW b (by omega) (by omega)).trans ((B3.block b (by simp; omega)).trans (hbA.block b hlt))⟩) 6 _ _ HIT2.out
  clear B3 hbA HIT1 HIT2 q0 q1 q2 r0 r1 r2 p0 p1 c2
  by_cases hc : c = 0
  · subst hc
    go_wp2_with fail
    exact bodyPost_ret (v := .tuple #[.agg #[.bool l2, .string t2, .slice a2 m2 k2'], .bool true]) (by simp [results, Tryz.results26, go_sem, s0, s1, s2]) rfl ⟨⟨l2, t2, a2, m2, k2', rfl, HIT3.out _ (fun b hb _ => by simp [heap_setCell_other, hb])⟩, below_set3 HB3.out _ _ _⟩
  · have hc' : (c != 0) = true := by simp; exact hc
    have hm0 := HM.out hc
    subst hm0
    go_wp2_with fail
    exact bodyPost_ret (v := .tuple #[.agg #[.bool l2, .string t2, .slice a2 m2 k2'], .bool true]) (by simp [results, Tryz.results26, go_sem, s0, s1, s2]) rfl ⟨⟨l2, t2, a2, m2, k2', rfl, HIT3.out _ (fun b hb _ => by simp [heap_setCell_other, hb])⟩, below_set3 HB3.out _ _ _⟩
end Go.Proofs.YtenmjjpkbcogbaaGreatDoor
