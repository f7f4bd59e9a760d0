/-
  The small walks of rlp's encoder: bare, bytesOf, headOf, headed.
-/
import Derived.Test.YtenmjjpkbcogbaaNibB
import Derived.Test.YtenmjjpkbcogbaaRlpT
namespace Go.Proofs.Ytenmjjpkbcogbaa
open Go.RowKit

theorem conv_one (W : World) (x : Int) : (convert 41 9 (.slice (some ⟨W.heap.size, 0, none⟩) 1 1)).run Try.prog (W.alloc (.cells #[.int .u8 x] 5)) = .ok (.string (strOfNums [x])) (W.alloc (.cells #[.int .u8 x] 5)) :=
  run_convert_bytes_arg (P := Try.prog) _ 41 5 Try.underlying41 Try.underlying5 W.heap.size 0 1 1 [x] rfl (fun i hi => by
    have : i = 0 := by omega
    subst this
    simp) 9 Try.underlying9
theorem nums_one (n : Nat) (h : n < 256) : strOfNums [(n : Int)] = str [UInt8.ofNat n] := by
  have e : ([(n : Int)] : List Int) = [UInt8.ofNat n].map (fun c => (c.toNat : Int)) := by
    simp only [List.map_cons, List.map_nil, UInt8.toNat_ofNat']; congr 1; omega
  rw [e, strOfNums_bytes]
theorem str_append (a b : List UInt8) : str a ++ str b = str (a ++ b) := by
  have h : (str a ++ str b).data.toList = (str (a ++ b)).data.toList := by simp [str_list]
  rw [← str_data (str a ++ str b), h, str_data]

theorem bare_calls (s : ByteArray) (w : World) :
    Calls Try.prog 18 #[.string s] w fun e w' => e = .returned (.bool (bareB s.data.toList)) ∧ w' = w := by
  have hl : s.data.toList.length = s.size := by simp
  by_cases h1 : s.size = 1
  · have h1' : ((s.size : Int) == 1) = true := beq_iff_eq.2 (by omega)
    have hp : 0 < s.size := by omega
    have e0 : s.data.toList.getD 0 0 = s[0] := by rw [List.getD_eq_getElem?_getD, List.getElem?_eq_getElem (by simpa using hp)]; rfl
    have hb : bareB s.data.toList = decide (((s[0]).toNat : Int) < 128) := by
      unfold bareB
      rw [hl, e0, decide_eq_true h1, Bool.true_and]
      by_cases h : (s[0]).toNat < 128
      · rw [decide_eq_true h, decide_eq_true (by omega)]
      · rw [decide_eq_false h, decide_eq_false (by omega)]
    have HB : Hid (bareB s.data.toList = decide (((s[0]).toNat : Int) < 128)) := hb
    clear hb hl e0 h1
    go_enter Try.func18, Try.ntmps18
    go_wp2
    go_ret
    exact ⟨by rw [HB.out]; rfl, rfl⟩
  · have h1' : ((s.size : Int) == 1) = false := beq_eq_false_iff_ne.2 (by omega)
    have hb : bareB s.data.toList = false := by
      unfold bareB
      rw [hl, decide_eq_false h1]; rfl
    have HB : Hid (bareB s.data.toList = false) := hb
    clear hb hl h1
    go_enter Try.func18, Try.ntmps18
    go_wp2
    go_ret
    exact ⟨by rw [HB.out]; rfl, rfl⟩

set_option maxHeartbeats 400000 in
theorem bytesOf_calls (n : Nat) (hn : n < 140737488355329) (w : World) :
    Calls Try.prog 25 #[.int .i64 n] w fun e w' => e = .returned (.string (str (digs 8 n))) ∧ Below w.heap.size w w' := by
  have hconv := fun W x => conv_one W x
  go_enter Try.func25, Try.ntmps25
  go_wp2_with fail
  go_loopg [0, 3] n (fun g a o wr => ∃ (m f : Nat) (out : ByteArray), g = m ∧ m ≤ n ∧ a = .int .i64 m ∧ o = .string out ∧ Hid (digs 8 n = digs f m ++ out.data.toList ∧ m < 256 ^ f ∧ f ≤ 8 ∧ out.size + f = 8) ∧ Below w.heap.size w wr)
  case atStart => exact ⟨n, 8, ByteArray.empty, rfl, Nat.le_refl _, rfl, rfl, ⟨by simp, by omega, Nat.le_refl _, rfl⟩, Below.refl _ _⟩
  case round =>
    obtain ⟨m, f, out, hg, hm, rfl, rfl, hd, hbel⟩ := hrel
    have HG : Hid (gk = m) := hg
    have HB : Hid (Below w.heap.size w wr) := hbel
    have hsz : out.size ≤ 8 := by have := hd.out.2.2.2; omega
    clear hg hbel
    by_cases h0 : 0 < m
    · have hw : IntKind.u8.wrap ((m : Int) % 256) = ((m % 256 : Nat) : Int) := by rw [IntKind.wrap_u8']; omega
      have h0' : (0 : Int) < (m : Int) := by omega
      have hns := nums_one (m % 256) (by omega)
      have hs1 : (strOfNums [(m : Int) % 256]).size = 1 := by rw [strOfNums_size]; rfl
      have HNS : Hid (strOfNums [((m % 256 : Nat) : Int)] = str [UInt8.ofNat (m % 256)]) := hns
      clear hns
      go_wp2_with fail
      go_roundg (m / 256)
      case measure => have := HG.out; omega
      case rel =>
        obtain ⟨d1, d2, d3, d4⟩ := hd.out
        have e : strOfNums [(m : Int) % 256] ++ out = str (UInt8.ofNat (m % 256) :: out.data.toList) := by
          have e1 : ((m : Int) % 256) = ((m % 256 : Nat) : Int) := by omega
          rw [e1, HNS.out]
          conv => lhs; rw [← str_data out]
          rw [str_append]; rfl
        cases f with
        | zero => simp at d2; omega
        | succ f =>
          refine ⟨m / 256, f, strOfNums [(m : Int) % 256] ++ out, rfl, by omega, by go_num, rfl, ⟨?_, by rw [Nat.pow_succ] at d2; omega, by omega, ?_⟩, HB.out.alloc HB.out.size _⟩
          · rw [d1, e, str_list]
            conv => lhs; unfold digs
            rw [if_neg (by omega), List.append_assoc]; rfl
          · rw [e, str_size]; simp; omega
    · have hm0 : m = 0 := by omega
      subst hm0
      have hfin : str (digs 8 n) = out := by rw [hd.out.1, digs_zero, List.nil_append, str_data]
      have HF : Hid (str (digs 8 n) = out) := hfin
      clear hfin
      go_wp2_with fail
      go_ret
      exact ⟨by rw [HF.out]; rfl, HB.out⟩

theorem digs8 (n : Nat) : (digs 8 n).length ≤ 8 := digs_length 8 n
theorem headU_length (kind n : Nat) : (headU kind n).length ≤ 9 := by
  unfold headU
  split
  · simp
  · have := digs8 n; simp; omega

set_option maxHeartbeats 400000 in
theorem headOf_calls (kind n : Nat) (hk : kind ≤ 192) (hn : n < 140737488355329) (w : World) :
    Calls Try.prog 24 #[.int .i64 kind, .int .i64 n] w fun e w' => e = .returned (.string (str (headU kind n))) ∧ Below w.heap.size w w' := by
  have hconv := fun W x => conv_one W x
  by_cases h : n ≤ 55
  · have h' : decide ((n : Int) ≤ 55) = true := by simp; omega
    have hw : IntKind.u8.wrap ((kind : Int) + (n : Int)) = ((kind + n : Nat) : Int) := by rw [IntKind.wrap_u8']; omega
    have hf : str (headU kind n) = strOfNums [((kind + n : Nat) : Int)] := by
      unfold headU; rw [if_pos h, nums_one _ (by omega)]
    have HF : Hid (str (headU kind n) = strOfNums [((kind + n : Nat) : Int)]) := hf
    clear hf
    go_enter Try.func24, Try.ntmps24
    go_wp2_with fail
    go_ret
    refine ⟨by rw [HF.out]; rfl, (Below.refl _ _).alloc (Nat.le_refl _) _⟩
  · have h' : decide ((n : Int) ≤ 55) = false := by simp; omega
    have hd8 := digs8 n
    have hsz : (str (digs 8 n)).size = (digs 8 n).length := str_size _
    have hf : str (headU kind n) = strOfNums [((kind + 55 + (digs 8 n).length : Nat) : Int)] ++ str (digs 8 n) := by
      unfold headU; rw [if_neg h, nums_one _ (by omega), str_append]; rfl
    have HF : Hid (str (headU kind n) = strOfNums [((kind + 55 + (digs 8 n).length : Nat) : Int)] ++ str (digs 8 n)) := hf
    clear hf
    go_enter Try.func24, Try.ntmps24
    go_wp2_with fail
    refine (bytesOf_calls n hn _).mono ?_
    rintro e w1 ⟨rfl, B1⟩
    have HB1 : Hid (Below w.heap.size w w1) := B1
    clear B1
    generalize str (digs 8 n) = D at *
    generalize hL : (digs 8 n).length = L at *
    have hw : IntKind.u8.wrap ((kind : Int) + 55 + (L : Int)) = ((kind + 55 + L : Nat) : Int) := by rw [IntKind.wrap_u8']; omega
    have hs1 : ∀ x : Int, (strOfNums [x]).size = 1 := fun x => by rw [strOfNums_size]; rfl
    go_wp2_with fail
    go_ret
    exact ⟨by rw [HF.out]; rfl, HB1.out.alloc HB1.out.size _⟩

def fitsB (kind : Nat) (l : List UInt8) : Bool := decide ((headU kind l.length).length + l.length ≤ 4096)
set_option maxHeartbeats 400000 in
theorem headed_calls (kind : Nat) (s : ByteArray) (hk : kind ≤ 192) (hn : s.size < 140737488355329) (w : World) :
    Calls Try.prog 21 #[.int .i64 kind, .string s] w fun e w' => e = .returned (.tuple #[.string (if fitsB kind s.data.toList then str (headU kind s.size ++ s.data.toList) else ByteArray.empty), .bool (fitsB kind s.data.toList)]) ∧ Below w.heap.size w w' := by
  have hl : s.data.toList.length = s.size := by simp
  have hd8 := headU_length kind s.size
  have hsz : (str (headU kind s.size)).size = (headU kind s.size).length := str_size _
  have HF : Hid (str (headU kind s.size ++ s.data.toList) = str (headU kind s.size) ++ s) := by
    conv => rhs; rw [← str_data s]
    exact (str_append _ _).symm
  by_cases h : (headU kind s.size).length + s.size ≤ 4096
  · have hfb : fitsB kind s.data.toList = true := by unfold fitsB; rw [hl]; exact decide_eq_true h
    rw [hfb, if_pos rfl, HF.out]
    have h' : decide ((4096 : Int) < ((headU kind s.size).length : Int) + (s.size : Int)) = false := by simp; omega
    clear hl HF hfb
    go_enter Try.func21, Try.ntmps21
    go_wp2_with fail
    refine (headOf_calls kind s.size hk hn _).mono ?_
    rintro e w1 ⟨rfl, B1⟩
    have HB1 : Hid (Below w.heap.size w w1) := B1
    clear B1
    generalize hD : str (headU kind s.size) = D at *
    have HD : Hid (str (headU kind s.size) = D) := hD
    clear hD
    generalize (headU kind s.size).length = L at *
    go_wp2_with fail
    go_ret2
    exact ⟨by rw [HD.out]; rfl, HB1.out⟩
  · have hfb : fitsB kind s.data.toList = false := by unfold fitsB; rw [hl]; exact decide_eq_false h
    rw [hfb]
    have h' : decide ((4096 : Int) < ((headU kind s.size).length : Int) + (s.size : Int)) = true := by simp; omega
    clear hl HF hfb
    go_enter Try.func21, Try.ntmps21
    go_wp2_with fail
    refine (headOf_calls kind s.size hk hn _).mono ?_
    rintro e w1 ⟨rfl, B1⟩
    have HB1 : Hid (Below w.heap.size w w1) := B1
    clear B1
    generalize str (headU kind s.size) = D at *
    generalize (headU kind s.size).length = L at *
    go_wp2_with fail
    go_ret2
    exact ⟨rfl, HB1.out⟩
end Go.Proofs.Ytenmjjpkbcogbaa
