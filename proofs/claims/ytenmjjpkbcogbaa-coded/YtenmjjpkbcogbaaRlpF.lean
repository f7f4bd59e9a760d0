/-
  The walks of spanOf, lengthOf, find.
-/
import Derived.Test.YtenmjjpkbcogbaaRlpM
namespace Go.Proofs.Ytenmjjpkbcogbaa
open Go.RowKit

def spanV (l : Bool) (f t : Nat) : Value := .agg #[.bool l, .int .i64 f, .int .i64 t]

set_option maxHeartbeats 400000 in
theorem spanOf_bad (s : ByteArray) (l : Bool) (f n : Nat) (hs : s.size ≤ 4096) (hf : f ≤ s.size) (hn : s.size - f < n) (w : World) :
    Calls Try.prog 22 #[.string s, .bool l, .int .i64 f, .int .u64 n] w fun e w' => e = .returned (.tuple #[spanV false 0 0, .int .i64 5]) ∧ Below w.heap.size w w' := by
  have hw : IntKind.u64.wrap ((s.size : Int) - (f : Int)) = (s.size : Int) - (f : Int) := by rw [IntKind.wrap_u64]; omega
  have hlt : decide ((s.size : Int) - (f : Int) < (n : Int)) = true := by simp; omega
  go_enter Try.func22, Try.ntmps22
  go_wp2
  exact bodyPost_ret (v := .tuple #[.agg #[.bool false, .int .i64 0, .int .i64 0], .int .i64 5]) (by simp [results, Try.results22, go_sem]) rfl ⟨rfl, (Below.refl _ _).alloc (Nat.le_refl _) _⟩

set_option maxHeartbeats 400000 in
theorem spanOf_ok (s : ByteArray) (l : Bool) (f n : Nat) (hs : s.size ≤ 4096) (hf : f ≤ s.size) (hn : ¬ s.size - f < n) (w : World) :
    Calls Try.prog 22 #[.string s, .bool l, .int .i64 f, .int .u64 n] w fun e w' => e = .returned (.tuple #[spanV l f (f + n), .int .i64 0]) ∧ Below w.heap.size w w' := by
  have hw : IntKind.u64.wrap ((s.size : Int) - (f : Int)) = (s.size : Int) - (f : Int) := by rw [IntKind.wrap_u64]; omega
  have hlt : decide ((s.size : Int) - (f : Int) < (n : Int)) = false := by simp; omega
  have hn4 : n ≤ 4096 := by omega
  have hw2 : IntKind.i64.wrap (n : Int) = (n : Int) := by rw [IntKind.wrap_i64]; omega
  have HE : Hid (((f + n : Nat) : Int) = (f : Int) + (n : Int)) := by exact Int.natCast_add f n
  go_enter Try.func22, Try.ntmps22
  go_wp2
  exact bodyPost_ret (v := .tuple #[.agg #[.bool l, .int .i64 f, .int .i64 ((f : Int) + (n : Int))], .int .i64 0]) (by simp [results, Try.results22, go_sem]) rfl ⟨by unfold spanV; rw [HE.out], (Below.refl _ _).alloc (Nat.le_refl _) _⟩

theorem or256 (m c : Nat) (hm : m * 256 < 18446744073709551616) (hc : c < 256) : bits .or .u64 (IntKind.u64.wrap ((m : Int) * 256)) (c : Int) = ((m * 256 + c : Nat) : Int) := by
  have e : IntKind.u64.wrap ((m : Int) * 256) = ((m * 256 : Nat) : Int) := by rw [IntKind.wrap_u64]; omega
  rw [e, u64_or_nat _ _ hm (by omega), nat_join 8 (m * 256) c (by omega) (by omega)]
theorem be_take_succ (s : ByteArray) (k : Nat) (h : k < s.size) : be (s.data.toList.take (k + 1)) = be (s.data.toList.take k) * 256 + (s[k]).toNat := by
  have e : s.data.toList.take (k + 1) = s.data.toList.take k ++ [s[k]] := by
    rw [List.take_succ_eq_append_getElem (by simpa using h)]; rfl
  rw [e, be_snoc]
theorem pow256 (k : Nat) (h : k ≤ 7) : 256 ^ k ≤ 72057594037927936 := by
  have : 256 ^ k ≤ 256 ^ 7 := Nat.pow_le_pow_right (by omega) h
  exact this

def lenErr (s : List UInt8) (n : Nat) : Nat := if s.length < n then 5 else if (s.getD 0 0).toNat = 0 ∨ be (s.take n) ≤ 55 then 7 else 0
def lenVal (s : List UInt8) (n : Nat) : Nat := if lenErr s n = 0 then be (s.take n) else 0

set_option maxRecDepth 100000 in
set_option maxHeartbeats 1000000 in
theorem lengthOf_calls (s : ByteArray) (n : Nat) (hs : s.size ≤ 4096) (h1 : 1 ≤ n) (h8 : n ≤ 8) (w : World) :
    Calls Try.prog 23 #[.string s, .int .i64 n] w fun e w' => e = .returned (.tuple #[.int .u64 (lenVal s.data.toList n), .int .i64 (lenErr s.data.toList n)]) ∧ w' = w := by
  have hl : s.data.toList.length = s.size := by simp
  by_cases hlt : s.size < n
  · have he : lenErr s.data.toList n = 5 := by unfold lenErr; rw [hl, if_pos hlt]
    have hv : lenVal s.data.toList n = 0 := by unfold lenVal; rw [he]; rfl
    have HE : Hid (lenErr s.data.toList n = 5 ∧ lenVal s.data.toList n = 0) := ⟨he, hv⟩
    have hlt' : decide ((s.size : Int) < (n : Int)) = true := by simp; omega
    clear he hv hl
    go_enter Try.func23, Try.ntmps23
    go_wp2_with fail
    go_ret2
    exact ⟨by rw [HE.out.1, HE.out.2]; rfl, rfl⟩
  · have hlt' : decide ((s.size : Int) < (n : Int)) = false := by simp; omega
    have hp : 0 < s.size := by omega
    have HL : Hid (s.data.toList.length = s.size) := hl
    clear hl
    go_enter Try.func23, Try.ntmps23
    go_wp2_with fail
    go_loopg [6, 7] n (fun g z r wr => wr = w ∧ ∃ k : Nat, g = n - k ∧ k ≤ n ∧ r = .int .i64 k ∧ z = .int .u64 (be (s.data.toList.take k)))
    case atStart => exact ⟨rfl, 0, rfl, by omega, rfl, rfl⟩
    case round =>
      obtain ⟨hw, k, hg, hk, rfl, rfl⟩ := hrel
      subst hw
      have HG : Hid (gk = n - k) := hg
      clear hg
      by_cases hkn : k < n
      · have hks : k < s.size := by omega
        have HS : Hid (be (s.data.toList.take (k + 1)) = be (s.data.toList.take k) * 256 + (s[k]).toNat) := be_take_succ s k hks
        have hblt := be_lt (s.data.toList.take k)
        have hp7 := pow256 k (by omega)
        have hlk : (s.data.toList.take k).length = k := by rw [List.length_take, HL.out]; omega
        rw [hlk] at hblt
        have hb : be (s.data.toList.take k) < 72057594037927936 := by omega
        clear hblt hp7 hlk
        generalize be (s.data.toList.take k) = m at *
        have hcb : (s[k]).toNat < 256 := (s[k]).toNat_lt
        have hv := or256 m (s[k]).toNat (by omega) hcb
        have hcw : IntKind.u64.wrap ((s[k]).toNat : Int) = ((s[k]).toNat : Int) := by rw [IntKind.wrap_u64]; omega
        obtain ⟨M, hM⟩ : ∃ M : Nat, M = m * 256 + (s[k]).toNat := ⟨_, rfl⟩
        rw [← hM] at hv
        have HM : Hid (M = m * 256 + (s[k]).toNat) := hM
        clear hM hb hcb
        have hkn' : (k : Int) < (n : Int) := by omega
        go_wp2_with fail
        go_roundg (n - (k + 1))
        case measure => have := HG.out; omega
        case rel => exact ⟨rfl, k + 1, rfl, by omega, by go_num, by rw [HS.out, ← HM.out]⟩
      · have : k = n := by omega
        subst this
        have e0 : s.data.toList.getD 0 0 = s[0] := by rw [List.getD_eq_getElem?_getD, List.getElem?_eq_getElem (by rw [HL.out]; exact hp)]; rfl
        have hee : lenErr s.data.toList k = if (s[0]).toNat = 0 ∨ be (s.data.toList.take k) ≤ 55 then 7 else 0 := by
          unfold lenErr; rw [HL.out, if_neg hlt, e0]
        have hkn' : ¬ ((k : Int) < (k : Int)) := by omega
        have HEE : Hid (lenErr s.data.toList k = if (s[0]).toNat = 0 ∨ be (s.data.toList.take k) ≤ 55 then 7 else 0) := hee
        have HVV : Hid (lenVal s.data.toList k = if lenErr s.data.toList k = 0 then be (s.data.toList.take k) else 0) := rfl
        clear hee e0
        generalize be (s.data.toList.take k) = m at *
        by_cases hz : (s[0]).toNat = 0
        · have hz' : (((s[0]).toNat : Int) == 0) = true := beq_iff_eq.2 (by omega)
          have he : lenErr s.data.toList k = 7 := by rw [HEE.out, if_pos (.inl hz)]
          have HE : Hid (lenErr s.data.toList k = 7 ∧ lenVal s.data.toList k = 0) := ⟨he, by rw [HVV.out, he]; rfl⟩
          clear he HEE HVV hz
          go_wp2_with fail
          go_ret2
          exact ⟨by rw [HE.out.1, HE.out.2]; rfl, rfl⟩
        · have hz' : (((s[0]).toNat : Int) == 0) = false := beq_eq_false_iff_ne.2 (by omega)
          by_cases h55 : m ≤ 55
          · have h55' : decide ((m : Int) ≤ 55) = true := by simp; omega
            have he : lenErr s.data.toList k = 7 := by rw [HEE.out, if_pos (.inr h55)]
            have HE : Hid (lenErr s.data.toList k = 7 ∧ lenVal s.data.toList k = 0) := ⟨he, by rw [HVV.out, he]; rfl⟩
            clear he HEE HVV hz
            go_wp2_with fail
            go_ret2
            exact ⟨by rw [HE.out.1, HE.out.2]; rfl, rfl⟩
          · have h55' : decide ((m : Int) ≤ 55) = false := by simp; omega
            have he : lenErr s.data.toList k = 0 := by rw [HEE.out, if_neg (by omega)]
            have HE : Hid (lenErr s.data.toList k = 0 ∧ lenVal s.data.toList k = m) := ⟨he, by rw [HVV.out, he]; rfl⟩
            clear he HEE HVV hz
            go_wp2_with fail
            go_ret2
            exact ⟨by rw [HE.out.1, HE.out.2]; rfl, rfl⟩
end Go.Proofs.Ytenmjjpkbcogbaa
