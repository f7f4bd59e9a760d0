import Derived.Test.YtenmjjpkbcogbaaDoorZc

/- RlpF -/
namespace Go.Proofs.YtenmjjpkbcogbaaDoor
open Go.RowKit

def spanV (l : Bool) (f t : Nat) : Value := .agg #[.bool l, .int .i64 f, .int .i64 t]

set_option maxHeartbeats 400000 in
theorem spanOf_bad (s : ByteArray) (l : Bool) (f n : Nat) (hs : s.size ≤ 4096) (hf : f ≤ s.size) (hn : s.size - f < n) (w : World) :
    Calls Tryd.prog 79 #[.string s, .bool l, .int .i64 f, .int .u64 n] w fun e w' => e = .returned (.tuple #[spanV false 0 0, .int .i64 5]) ∧ Below w.heap.size w w' := by
  have hw : IntKind.u64.wrap ((s.size : Int) - (f : Int)) = (s.size : Int) - (f : Int) := by rw [IntKind.wrap_u64]; omega
  have hlt : decide ((s.size : Int) - (f : Int) < (n : Int)) = true := by simp; omega
  go_enter Tryd.func79, Tryd.ntmps79
  go_wp2
  exact bodyPost_ret (v := .tuple #[.agg #[.bool false, .int .i64 0, .int .i64 0], .int .i64 5]) (by simp [results, Tryd.results79, go_sem]) rfl ⟨rfl, (Below.refl _ _).alloc (Nat.le_refl _) _⟩

set_option maxHeartbeats 400000 in
theorem spanOf_ok (s : ByteArray) (l : Bool) (f n : Nat) (hs : s.size ≤ 4096) (hf : f ≤ s.size) (hn : ¬ s.size - f < n) (w : World) :
    Calls Tryd.prog 79 #[.string s, .bool l, .int .i64 f, .int .u64 n] w fun e w' => e = .returned (.tuple #[spanV l f (f + n), .int .i64 0]) ∧ Below w.heap.size w w' := by
  have hw : IntKind.u64.wrap ((s.size : Int) - (f : Int)) = (s.size : Int) - (f : Int) := by rw [IntKind.wrap_u64]; omega
  have hlt : decide ((s.size : Int) - (f : Int) < (n : Int)) = false := by simp; omega
  have hn4 : n ≤ 4096 := by omega
  have hw2 : IntKind.i64.wrap (n : Int) = (n : Int) := by rw [IntKind.wrap_i64]; omega
  have HE : Hid (((f + n : Nat) : Int) = (f : Int) + (n : Int)) := by exact Int.natCast_add f n
  go_enter Tryd.func79, Tryd.ntmps79
  go_wp2
  exact bodyPost_ret (v := .tuple #[.agg #[.bool l, .int .i64 f, .int .i64 ((f : Int) + (n : Int))], .int .i64 0]) (by simp [results, Tryd.results79, go_sem]) rfl ⟨by unfold spanV; rw [HE.out], (Below.refl _ _).alloc (Nat.le_refl _) _⟩

theorem or256 (m c : Nat) (hm : m * 256 < 18446744073709551616) (hc : c < 256) : bits .or .u64 (IntKind.u64.wrap ((m : Int) * 256)) (c : Int) = ((m * 256 + c : Nat) : Int) := by
  have e : IntKind.u64.wrap ((m : Int) * 256) = ((m * 256 : Nat) : Int) := by rw [IntKind.wrap_u64]; omega
  rw [e, u64_or_nat _ _ hm (by omega), nat_join 8 (m * 256) c (by omega) (by omega)]
theorem be_take_succ (s : ByteArray) (k : Nat) (h : k < s.size) : be (s.data.toList.take (k + 1)) = be (s.data.toList.take k) * 256 + (s[k]).toNat := by
  have e : s.data.toList.take (k + 1) = s.data.toList.take k ++ [s[k]] := by
    rw [List.take_succ_eq_append_getElem (by simpa using h)]; rfl
  rw [e, be_snoc]
theorem pow256 (k : Nat) (h : k ≤ 7) : 256 ^ k ≤ 72057594037927936 := by
  have : 256 ^ k ≤ 256 ^ 7 := Nat.pow_le_pow_right (by omega) h
  exact this

def lenErr (s : List UInt8) (n : Nat) : Nat := if s.length < n then 5 else if (s.getD 0 0).toNat = 0 ∨ be (s.take n) ≤ 55 then 7 else 0
def lenVal (s : List UInt8) (n : Nat) : Nat := if lenErr s n = 0 then be (s.take n) else 0

set_option maxRecDepth 100000 in
set_option maxHeartbeats 1000000 in
theorem lengthOf_calls (s : ByteArray) (n : Nat) (hs : s.size ≤ 4096) (h1 : 1 ≤ n) (h8 : n ≤ 8) (w : World) :
    Calls Tryd.prog 80 #[.string s, .int .i64 n] w fun e w' => e = .returned (.tuple #[.int .u64 (lenVal s.data.toList n), .int .i64 (lenErr s.data.toList n)]) ∧ w' = w := by
  have hl : s.data.toList.length = s.size := by simp
  by_cases hlt : s.size < n
  · have he : lenErr s.data.toList n = 5 := by unfold lenErr; rw [hl, if_pos hlt]
    have hv : lenVal s.data.toList n = 0 := by unfold lenVal; rw [he]; rfl
    have HE : Hid (lenErr s.data.toList n = 5 ∧ lenVal s.data.toList n = 0) := ⟨he, hv⟩
    have hlt' : decide ((s.size : Int) < (n : Int)) = true := by simp; omega
    clear he hv hl
    go_enter Tryd.func80, Tryd.ntmps80
    go_wp2_with fail
    go_ret2
    exact ⟨by rw [HE.out.1, HE.out.2]; rfl, rfl⟩
  · have hlt' : decide ((s.size : Int) < (n : Int)) = false := by simp; omega
    have hp : 0 < s.size := by omega
    have HL : Hid (s.data.toList.length = s.size) := hl
    clear hl
    go_enter Tryd.func80, Tryd.ntmps80
    go_wp2_with fail
    go_loopg [6, 7] n (fun g z r wr => wr = w ∧ ∃ k : Nat, g = n - k ∧ k ≤ n ∧ r = .int .i64 k ∧ z = .int .u64 (be (s.data.toList.take k)))
    case atStart => exact ⟨rfl, 0, rfl, by omega, rfl, rfl⟩
    case round =>
      obtain ⟨hw, k, hg, hk, rfl, rfl⟩ := hrel
      subst hw
      have HG : Hid (gk = n - k) := hg
      clear hg
      by_cases hkn : k < n
      · have hks : k < s.size := by omega
        have HS : Hid (be (s.data.toList.take (k + 1)) = be (s.data.toList.take k) * 256 + (s[k]).toNat) := be_take_succ s k hks
        have hblt := be_lt (s.data.toList.take k)
        have hp7 := pow256 k (by omega)
        have hlk : (s.data.toList.take k).length = k := by rw [List.length_take, HL.out]; omega
        rw [hlk] at hblt
        have hb : be (s.data.toList.take k) < 72057594037927936 := by omega
        clear hblt hp7 hlk
        generalize be (s.data.toList.take k) = m at *
        have hcb : (s[k]).toNat < 256 := (s[k]).toNat_lt
        have hv := or256 m (s[k]).toNat (by omega) hcb
        have hcw : IntKind.u64.wrap ((s[k]).toNat : Int) = ((s[k]).toNat : Int) := by rw [IntKind.wrap_u64]; omega
        obtain ⟨M, hM⟩ : ∃ M : Nat, M = m * 256 + (s[k]).toNat := ⟨_, rfl⟩
        rw [← hM] at hv
        have HM : Hid (M = m * 256 + (s[k]).toNat) := hM
        clear hM hb hcb
        have hkn' : (k : Int) < (n : Int) := by omega
        go_wp2_with fail
        go_roundg (n - (k + 1))
        case measure => have := HG.out; omega
        case rel => exact ⟨rfl, k + 1, rfl, by omega, by go_num, by rw [HS.out, ← HM.out]⟩
      · have : k = n := by omega
        subst this
        have e0 : s.data.toList.getD 0 0 = s[0] := by rw [List.getD_eq_getElem?_getD, List.getElem?_eq_getElem (by rw [HL.out]; exact hp)]; rfl
        have hee : lenErr s.data.toList k = if (s[0]).toNat = 0 ∨ be (s.data.toList.take k) ≤ 55 then 7 else 0 := by
          unfold lenErr; rw [HL.out, if_neg hlt, e0]
        have hkn' : ¬ ((k : Int) < (k : Int)) := by omega
        have HEE : Hid (lenErr s.data.toList k = if (s[0]).toNat = 0 ∨ be (s.data.toList.take k) ≤ 55 then 7 else 0) := hee
        have HVV : Hid (lenVal s.data.toList k = if lenErr s.data.toList k = 0 then be (s.data.toList.take k) else 0) := rfl
        clear hee e0
        generalize be (s.data.toList.take k) = m at *
        by_cases hz : (s[0]).toNat = 0
        · have hz' : (((s[0]).toNat : Int) == 0) = true := beq_iff_eq.2 (by omega)
          have he : lenErr s.data.toList k = 7 := by rw [HEE.out, if_pos (.inl hz)]
          have HE : Hid (lenErr s.data.toList k = 7 ∧ lenVal s.data.toList k = 0) := ⟨he, by rw [HVV.out, he]; rfl⟩
          clear he HEE HVV hz
          go_wp2_with fail
          go_ret2
          exact ⟨by rw [HE.out.1, HE.out.2]; rfl, rfl⟩
        · have hz' : (((s[0]).toNat : Int) == 0) = false := beq_eq_false_iff_ne.2 (by omega)
          by_cases h55 : m ≤ 55
          · have h55' : decide ((m : Int) ≤ 55) = true := by simp; omega
            have he : lenErr s.data.toList k = 7 := by rw [HEE.out, if_pos (.inr h55)]
            have HE : Hid (lenErr s.data.toList k = 7 ∧ lenVal s.data.toList k = 0) := ⟨he, by rw [HVV.out, he]; rfl⟩
            clear he HEE HVV hz
            go_wp2_with fail
            go_ret2
            exact ⟨by rw [HE.out.1, HE.out.2]; rfl, rfl⟩
          · have h55' : decide ((m : Int) ≤ 55) = false := by simp; omega
            have he : lenErr s.data.toList k = 0 := by rw [HEE.out, if_neg (by omega)]
            have HE : Hid (lenErr s.data.toList k = 0 ∧ lenVal s.data.toList k = m) := ⟨he, by rw [HVV.out, he]; rfl⟩
            clear he HEE HVV hz
            go_wp2_with fail
            go_ret2
            exact ⟨by rw [HE.out.1, HE.out.2]; rfl, rfl⟩
end Go.Proofs.YtenmjjpkbcogbaaDoor

/- RlpG -/
namespace Go.Proofs.YtenmjjpkbcogbaaDoor
open Go.RowKit

def findA : Except Nat (Bool × Nat × Nat) → Value
  | .error _ => spanV false 0 0
  | .ok (l, f, n) => spanV l f (f + n)
def findE : Except Nat (Bool × Nat × Nat) → Nat
  | .error e => e
  | .ok _ => 0

theorem bcell {W w1 : World} (hb : Below W.heap.size W w1) : (∀ b o, b < W.heap.size → w1.cell? ⟨b, o, none⟩ = W.cell? ⟨b, o, none⟩) ∧ (∀ b o, b < W.heap.size → w1.frozen? ⟨b, o, none⟩ = W.frozen? ⟨b, o, none⟩) :=
  ⟨fun b o h => hb.cell (p := ⟨b, o, none⟩) h, fun b o h => hb.frozen (p := ⟨b, o, none⟩) h⟩
theorem res3 {w w1 : World} {x y z : Value} {T : TypeId} (hb : Below (w.alloc (.cells #[x, y, z] T)).heap.size (w.alloc (.cells #[x, y, z] T)) w1) :
    w1.cell? ⟨w.heap.size, 0, none⟩ = some x ∧ w1.cell? ⟨w.heap.size, 1, none⟩ = some y ∧ w1.cell? ⟨w.heap.size, 2, none⟩ = some z ∧ w1.frozen? ⟨w.heap.size, 0, none⟩ = false ∧ w1.frozen? ⟨w.heap.size, 1, none⟩ = false ∧ w1.frozen? ⟨w.heap.size, 2, none⟩ = false := by
  obtain ⟨h1, h2⟩ := bcell hb
  refine ⟨?_, ?_, ?_, ?_, ?_, ?_⟩
  · rw [h1 _ _ (by simp)]; simp
  · rw [h1 _ _ (by simp)]; simp
  · rw [h1 _ _ (by simp)]; simp
  · rw [h2 _ _ (by simp)]; simp
  · rw [h2 _ _ (by simp)]; simp
  · rw [h2 _ _ (by simp)]; simp
theorem drop1 (s : ByteArray) : (s.extract 1 s.size).data.toList = s.data.toList.drop 1 := by
  rw [Lib.extract_data, List.take_of_length_le (by simp)]

/-- what headR tells, by the first byte -/
theorem headR_nil (s : List UInt8) (h : s.length = 0) : headR s = .error 5 := by unfold headR; rw [if_pos h]
theorem headR_low (s : List UInt8) (h : s.length ≠ 0) (c : Nat) (hc : (s.getD 0 0).toNat = c) (h1 : c < 128) : headR s = .ok (false, 0, 1) := by
  unfold headR; rw [if_neg h, hc, if_pos h1]
theorem headR_short (s : List UInt8) (h : s.length ≠ 0) (c base : Nat) (hc : (s.getD 0 0).toNat = c) (h1 : ¬ c < 128) (hb : base = if 192 ≤ c then 192 else 128) (h2 : c - base ≤ 55) : headR s = spanR s (decide (192 ≤ c)) 1 (c - base) := by
  unfold headR; rw [if_neg h, hc, if_neg h1, ← hb, if_pos h2]
theorem headR_long (s : List UInt8) (h : s.length ≠ 0) (c base : Nat) (hc : (s.getD 0 0).toNat = c) (h1 : ¬ c < 128) (hb : base = if 192 ≤ c then 192 else 128) (h2 : ¬ c - base ≤ 55) :
    headR s = if lenErr (s.drop 1) (c - base - 55) = 0 then spanR s (decide (192 ≤ c)) (1 + (c - base) - 55) (lenVal (s.drop 1) (c - base - 55)) else .error (lenErr (s.drop 1) (c - base - 55)) := by
  have e1 : (s.drop 1).getD 0 0 = s.getD 1 0 := by rw [List.getD_eq_getElem?_getD, List.getElem?_drop, List.getD_eq_getElem?_getD]
  have hL : lenErr (s.drop 1) (c - base - 55) = if s.length - 1 < c - base - 55 then 5 else if (s.getD 1 0).toNat = 0 ∨ be ((s.drop 1).take (c - base - 55)) ≤ 55 then 7 else 0 := by
    unfold lenErr; rw [List.length_drop, e1]
  have hV : lenVal (s.drop 1) (c - base - 55) = if lenErr (s.drop 1) (c - base - 55) = 0 then be ((s.drop 1).take (c - base - 55)) else 0 := rfl
  unfold headR
  rw [if_neg h, hc, if_neg h1, ← hb, if_neg h2]
  by_cases h3 : s.length - 1 < c - base - 55
  · rw [if_pos h3]
    rw [if_pos h3] at hL
    rw [hL]; rfl
  · rw [if_neg h3]
    rw [if_neg h3] at hL
    by_cases h4 : (s.getD 1 0).toNat = 0 ∨ be ((s.drop 1).take (c - base - 55)) ≤ 55
    · rw [if_pos h4]
      rw [if_pos h4] at hL
      rw [hL]; rfl
    · rw [if_neg h4]
      rw [if_neg h4] at hL
      rw [hV, hL, if_pos rfl, if_pos rfl]

set_option maxRecDepth 100000 in
set_option maxHeartbeats 1000000 in
theorem find_calls (s : ByteArray) (hs : s.size ≤ 4096) (w : World) :
    Calls Tryd.prog 75 #[.string s] w fun e w' => e = .returned (.tuple #[findA (headR s.data.toList), .int .i64 (findE (headR s.data.toList))]) ∧ Below w.heap.size w w' := by
  have hl : s.data.toList.length = s.size := by simp
  by_cases h0 : s.size = 0
  · rw [headR_nil _ (by rw [hl]; exact h0)]
    have h0' : ((s.size : Int) == 0) = true := beq_iff_eq.2 (by omega)
    clear hl h0
    go_enter Tryd.func75, Tryd.ntmps75
    go_wp2_with fail
    exact bodyPost_ret (v := .tuple #[.agg #[.bool false, .int .i64 0, .int .i64 0], .int .i64 5]) (by simp [results, Tryd.results75, go_sem]) rfl ⟨rfl, (Below.refl _ _).alloc (Nat.le_refl _) _⟩
  have h0' : ((s.size : Int) == 0) = false := beq_eq_false_iff_ne.2 (by omega)
  have hp : 0 < s.size := by omega
  have hln : s.data.toList.length ≠ 0 := by rw [hl]; exact h0
  obtain ⟨c, hcc⟩ : ∃ c : Nat, (s[0]).toNat = c := ⟨_, rfl⟩
  have hcb : c < 256 := by rw [← hcc]; exact (s[0]).toNat_lt
  have hc : (s.data.toList.getD 0 0).toNat = c := by rw [List.getD_eq_getElem?_getD, List.getElem?_eq_getElem (by rw [hl]; exact hp)]; exact hcc
  by_cases h1 : c < 128
  · rw [headR_low _ hln c hc h1]
    have h1' : decide ((c : Int) < 128) = true := by simp; omega
    clear hl hln hc
    go_enter Tryd.func75, Tryd.ntmps75
    go_wp2_with fail
    exact bodyPost_ret (v := .tuple #[.agg #[.bool false, .int .i64 0, .int .i64 1], .int .i64 0]) (by simp [results, Tryd.results75, go_sem]) rfl ⟨rfl, (Below.refl _ _).alloc (Nat.le_refl _) _⟩
  have h1' : decide ((c : Int) < 128) = false := by simp; omega
  by_cases h2 : 192 ≤ c
  · have h2' : decide ((192 : Int) ≤ (c : Int)) = true := by simp; omega
    have hbase : 192 = if 192 ≤ c then 192 else 128 := by rw [if_pos h2]
    have hdl : decide (192 ≤ c) = true := decide_eq_true h2
    obtain ⟨n, hn⟩ : ∃ n : Nat, n = c - 192 := ⟨_, rfl⟩
    have hni : (c : Int) - 192 = (n : Int) := by omega
    have hnw : IntKind.u64.wrap (n : Int) = (n : Int) := by rw [IntKind.wrap_u64]; omega
    by_cases h55 : n ≤ 55
    · have h55' : decide ((n : Int) ≤ 55) = true := by simp; omega
      have hR := headR_short s.data.toList hln c 192 hc h1 hbase (by omega)
      rw [hdl, ← hn] at hR
      unfold spanR at hR
      rw [hl] at hR
      by_cases hsp : s.size - 1 < n
      · rw [if_pos hsp] at hR
        rw [hR]
        have HSP : Hid (s.size - 1 < n) := hsp
        clear hl hln hc hR hbase hdl hn hsp
        go_enter Tryd.func75, Tryd.ntmps75
        go_wp2_with fail
        refine (spanOf_bad s true 1 n hs hp HSP.out _).mono ?_
        rintro e w1 ⟨rfl, B1⟩
        obtain ⟨k0, k1, k2, f0, f1, f2⟩ := res3 B1
        have HB1 : Hid (Below w.heap.size w w1) := ((Below.refl _ _).alloc (Nat.le_refl _) _).trans (B1.mono (by simp))
        clear B1
        unfold spanV
        go_wp2_with fail
        exact bodyPost_ret (v := .tuple #[.agg #[.bool false, .int .i64 0, .int .i64 0], .int .i64 5]) (by simp [results, Tryd.results75, go_sem, k0, k1, k2]) rfl ⟨rfl, ((HB1.out.setCell (Nat.le_refl _) _).setCell (Nat.le_refl _) _).setCell (Nat.le_refl _) _⟩
      · rw [if_neg hsp] at hR
        rw [hR]
        have HSP : Hid (¬ s.size - 1 < n) := hsp
        clear hl hln hc hR hbase hdl hn hsp
        go_enter Tryd.func75, Tryd.ntmps75
        go_wp2_with fail
        refine (spanOf_ok s true 1 n hs hp HSP.out _).mono ?_
        rintro e w1 ⟨rfl, B1⟩
        obtain ⟨k0, k1, k2, f0, f1, f2⟩ := res3 B1
        have HB1 : Hid (Below w.heap.size w w1) := ((Below.refl _ _).alloc (Nat.le_refl _) _).trans (B1.mono (by simp))
        clear B1
        unfold spanV
        go_wp2_with fail
        exact bodyPost_ret (v := .tuple #[.agg #[.bool true, .int .i64 ((1 : Nat) : Int), .int .i64 ((1 + n : Nat) : Int)], .int .i64 0]) (by simp [results, Tryd.results75, go_sem, k0, k1, k2]) rfl ⟨rfl, ((HB1.out.setCell (Nat.le_refl _) _).setCell (Nat.le_refl _) _).setCell (Nat.le_refl _) _⟩
    · have h55' : decide ((n : Int) ≤ 55) = false := by simp; omega
      have hn64 : n ≤ 63 := by omega
      obtain ⟨q, hq⟩ : ∃ q : Nat, q = n - 55 := ⟨_, rfl⟩
      have hqi : (n : Int) - 55 = (q : Int) := by omega
      have hq1 : 1 ≤ q := by omega
      have hq8 : q ≤ 8 := by omega
      have hfi : 1 + (n : Int) - 55 = ((1 + q : Nat) : Int) := by omega
      have hR := headR_long s.data.toList hln c 192 hc h1 hbase (by omega)
      rw [hdl, ← hn, ← hq, show 1 + n - 55 = 1 + q by omega] at hR
      have hez : (s.extract 1 s.size).size ≤ 4096 := by simp only [ByteArray.size_extract]; omega
      have hlen := lengthOf_calls (s.extract 1 s.size) q hez hq1 hq8
      rw [drop1] at hlen
      have HLC : Hid (∀ w : World, Calls Tryd.prog 80 #[.string (s.extract 1 s.size), .int .i64 q] w fun e w' => e = .returned (.tuple #[.int .u64 (lenVal (s.data.toList.drop 1) q), .int .i64 (lenErr (s.data.toList.drop 1) q)]) ∧ w' = w) := hlen
      have hfq : lenErr (s.data.toList.drop 1) q = 0 → 1 + q ≤ s.size := by
        intro he
        unfold lenErr at he
        rw [List.length_drop, hl] at he
        by_cases h : s.size - 1 < q
        · rw [if_pos h] at he; cases he
        · omega
      generalize lenErr (s.data.toList.drop 1) q = E at *
      generalize lenVal (s.data.toList.drop 1) q = V at *
      by_cases hE : E = 0
      · subst hE
        rw [if_pos rfl] at hR
        unfold spanR at hR
        rw [hl] at hR
        have hfs := hfq rfl
        by_cases hsp : s.size - (1 + q) < V
        · rw [if_pos hsp] at hR
          rw [hR]
          have HSP : Hid (s.size - (1 + q) < V) := hsp
          have HFS : Hid (1 + q ≤ s.size) := hfs
          clear hl hln hc hR hbase hdl hn hsp hlen hq hfq hfs hez
          go_enter Tryd.func75, Tryd.ntmps75
          go_wp2_with fail
          refine (HLC.out _).mono ?_
          rintro e w0 ⟨rfl, hw0⟩
          subst hw0
          go_wp2_with fail
          refine (spanOf_bad s true (1 + q) V hs HFS.out HSP.out _).mono ?_
          rintro e w1 ⟨rfl, B1⟩
          obtain ⟨k0, k1, k2, f0, f1, f2⟩ := res3 B1
          have HB1 : Hid (Below w.heap.size w w1) := ((Below.refl _ _).alloc (Nat.le_refl _) _).trans (B1.mono (by simp))
          clear B1
          unfold spanV
          go_wp2_with fail
          exact bodyPost_ret (v := .tuple #[.agg #[.bool false, .int .i64 0, .int .i64 0], .int .i64 5]) (by simp [results, Tryd.results75, go_sem, k0, k1, k2]) rfl ⟨rfl, ((HB1.out.setCell (Nat.le_refl _) _).setCell (Nat.le_refl _) _).setCell (Nat.le_refl _) _⟩
        · rw [if_neg hsp] at hR
          rw [hR]
          have HSP : Hid (¬ s.size - (1 + q) < V) := hsp
          have HFS : Hid (1 + q ≤ s.size) := hfs
          clear hl hln hc hR hbase hdl hn hsp hlen hq hfq hfs hez
          go_enter Tryd.func75, Tryd.ntmps75
          go_wp2_with fail
          refine (HLC.out _).mono ?_
          rintro e w0 ⟨rfl, hw0⟩
          subst hw0
          go_wp2_with fail
          refine (spanOf_ok s true (1 + q) V hs HFS.out HSP.out _).mono ?_
          rintro e w1 ⟨rfl, B1⟩
          obtain ⟨k0, k1, k2, f0, f1, f2⟩ := res3 B1
          have HB1 : Hid (Below w.heap.size w w1) := ((Below.refl _ _).alloc (Nat.le_refl _) _).trans (B1.mono (by simp))
          clear B1
          unfold spanV
          go_wp2_with fail
          exact bodyPost_ret (v := .tuple #[.agg #[.bool true, .int .i64 ((1 + q : Nat) : Int), .int .i64 ((1 + q + V : Nat) : Int)], .int .i64 0]) (by simp [results, Tryd.results75, go_sem, k0, k1, k2]) rfl ⟨rfl, ((HB1.out.setCell (Nat.le_refl _) _).setCell (Nat.le_refl _) _).setCell (Nat.le_refl _) _⟩
      · rw [if_neg hE] at hR
        rw [hR]
        have hE' : ((E : Int) != 0) = true := by simp; omega
        clear hl hln hc hR hbase hdl hn hlen hq hfq hez
        go_enter Tryd.func75, Tryd.ntmps75
        go_wp2_with fail
        refine (HLC.out _).mono ?_
        rintro e w0 ⟨rfl, hw0⟩
        subst hw0
        go_wp2_with fail
        exact bodyPost_ret (v := .tuple #[.agg #[.bool false, .int .i64 0, .int .i64 0], .int .i64 (E : Int)]) (by simp [results, Tryd.results75, go_sem]) rfl ⟨rfl, (Below.refl _ _).alloc (Nat.le_refl _) _⟩
  · have h2' : decide ((192 : Int) ≤ (c : Int)) = false := by simp; omega
    have hbase : 128 = if 192 ≤ c then 192 else 128 := by rw [if_neg h2]
    have hdl : decide (192 ≤ c) = false := decide_eq_false h2
    obtain ⟨n, hn⟩ : ∃ n : Nat, n = c - 128 := ⟨_, rfl⟩
    have hni : (c : Int) - 128 = (n : Int) := by omega
    have hnw : IntKind.u64.wrap (n : Int) = (n : Int) := by rw [IntKind.wrap_u64]; omega
    by_cases h55 : n ≤ 55
    · have h55' : decide ((n : Int) ≤ 55) = true := by simp; omega
      have hR := headR_short s.data.toList hln c 128 hc h1 hbase (by omega)
      rw [hdl, ← hn] at hR
      unfold spanR at hR
      rw [hl] at hR
      by_cases hsp : s.size - 1 < n
      · rw [if_pos hsp] at hR
        rw [hR]
        have HSP : Hid (s.size - 1 < n) := hsp
        clear hl hln hc hR hbase hdl hn hsp
        go_enter Tryd.func75, Tryd.ntmps75
        go_wp2_with fail
        refine (spanOf_bad s false 1 n hs hp HSP.out _).mono ?_
        rintro e w1 ⟨rfl, B1⟩
        obtain ⟨k0, k1, k2, f0, f1, f2⟩ := res3 B1
        have HB1 : Hid (Below w.heap.size w w1) := ((Below.refl _ _).alloc (Nat.le_refl _) _).trans (B1.mono (by simp))
        clear B1
        unfold spanV
        go_wp2_with fail
        exact bodyPost_ret (v := .tuple #[.agg #[.bool false, .int .i64 0, .int .i64 0], .int .i64 5]) (by simp [results, Tryd.results75, go_sem, k0, k1, k2]) rfl ⟨rfl, ((HB1.out.setCell (Nat.le_refl _) _).setCell (Nat.le_refl _) _).setCell (Nat.le_refl _) _⟩
      · rw [if_neg hsp] at hR
        rw [hR]
        have HSP : Hid (¬ s.size - 1 < n) := hsp
        clear hl hln hc hR hbase hdl hn hsp
        go_enter Tryd.func75, Tryd.ntmps75
        go_wp2_with fail
        refine (spanOf_ok s false 1 n hs hp HSP.out _).mono ?_
        rintro e w1 ⟨rfl, B1⟩
        obtain ⟨k0, k1, k2, f0, f1, f2⟩ := res3 B1
        have HB1 : Hid (Below w.heap.size w w1) := ((Below.refl _ _).alloc (Nat.le_refl _) _).trans (B1.mono (by simp))
        clear B1
        unfold spanV
        go_wp2_with fail
        exact bodyPost_ret (v := .tuple #[.agg #[.bool false, .int .i64 ((1 : Nat) : Int), .int .i64 ((1 + n : Nat) : Int)], .int .i64 0]) (by simp [results, Tryd.results75, go_sem, k0, k1, k2]) rfl ⟨rfl, ((HB1.out.setCell (Nat.le_refl _) _).setCell (Nat.le_refl _) _).setCell (Nat.le_refl _) _⟩
    · have h55' : decide ((n : Int) ≤ 55) = false := by simp; omega
      have hn64 : n ≤ 63 := by omega
      obtain ⟨q, hq⟩ : ∃ q : Nat, q = n - 55 := ⟨_, rfl⟩
      have hqi : (n : Int) - 55 = (q : Int) := by omega
      have hq1 : 1 ≤ q := by omega
      have hq8 : q ≤ 8 := by omega
      have hfi : 1 + (n : Int) - 55 = ((1 + q : Nat) : Int) := by omega
      have hR := headR_long s.data.toList hln c 128 hc h1 hbase (by omega)
      rw [hdl, ← hn, ← hq, show 1 + n - 55 = 1 + q by omega] at hR
      have hez : (s.extract 1 s.size).size ≤ 4096 := by simp only [ByteArray.size_extract]; omega
      have hlen := lengthOf_calls (s.extract 1 s.size) q hez hq1 hq8
      rw [drop1] at hlen
      have HLC : Hid (∀ w : World, Calls Tryd.prog 80 #[.string (s.extract 1 s.size), .int .i64 q] w fun e w' => e = .returned (.tuple #[.int .u64 (lenVal (s.data.toList.drop 1) q), .int .i64 (lenErr (s.data.toList.drop 1) q)]) ∧ w' = w) := hlen
      have hfq : lenErr (s.data.toList.drop 1) q = 0 → 1 + q ≤ s.size := by
        intro he
        unfold lenErr at he
        rw [List.length_drop, hl] at he
        by_cases h : s.size - 1 < q
        · rw [if_pos h] at he; cases he
        · omega
      generalize lenErr (s.data.toList.drop 1) q = E at *
      generalize lenVal (s.data.toList.drop 1) q = V at *
      by_cases hE : E = 0
      · subst hE
        rw [if_pos rfl] at hR
        unfold spanR at hR
        rw [hl] at hR
        have hfs := hfq rfl
        by_cases hsp : s.size - (1 + q) < V
        · rw [if_pos hsp] at hR
          rw [hR]
          have HSP : Hid (s.size - (1 + q) < V) := hsp
          have HFS : Hid (1 + q ≤ s.size) := hfs
          clear hl hln hc hR hbase hdl hn hsp hlen hq hfq hfs hez
          go_enter Tryd.func75, Tryd.ntmps75
          go_wp2_with fail
          refine (HLC.out _).mono ?_
          rintro e w0 ⟨rfl, hw0⟩
          subst hw0
          go_wp2_with fail
          refine (spanOf_bad s false (1 + q) V hs HFS.out HSP.out _).mono ?_
          rintro e w1 ⟨rfl, B1⟩
          obtain ⟨k0, k1, k2, f0, f1, f2⟩ := res3 B1
          have HB1 : Hid (Below w.heap.size w w1) := ((Below.refl _ _).alloc (Nat.le_refl _) _).trans (B1.mono (by simp))
          clear B1
          unfold spanV
          go_wp2_with fail
          exact bodyPost_ret (v := .tuple #[.agg #[.bool false, .int .i64 0, .int .i64 0], .int .i64 5]) (by simp [results, Tryd.results75, go_sem, k0, k1, k2]) rfl ⟨rfl, ((HB1.out.setCell (Nat.le_refl _) _).setCell (Nat.le_refl _) _).setCell (Nat.le_refl _) _⟩
        · rw [if_neg hsp] at hR
          rw [hR]
          have HSP : Hid (¬ s.size - (1 + q) < V) := hsp
          have HFS : Hid (1 + q ≤ s.size) := hfs
          clear hl hln hc hR hbase hdl hn hsp hlen hq hfq hfs hez
          go_enter Tryd.func75, Tryd.ntmps75
          go_wp2_with fail
          refine (HLC.out _).mono ?_
          rintro e w0 ⟨rfl, hw0⟩
          subst hw0
          go_wp2_with fail
          refine (spanOf_ok s false (1 + q) V hs HFS.out HSP.out _).mono ?_
          rintro e w1 ⟨rfl, B1⟩
          obtain ⟨k0, k1, k2, f0, f1, f2⟩ := res3 B1
          have HB1 : Hid (Below w.heap.size w w1) := ((Below.refl _ _).alloc (Nat.le_refl _) _).trans (B1.mono (by simp))
          clear B1
          unfold spanV
          go_wp2_with fail
          exact bodyPost_ret (v := .tuple #[.agg #[.bool false, .int .i64 ((1 + q : Nat) : Int), .int .i64 ((1 + q + V : Nat) : Int)], .int .i64 0]) (by simp [results, Tryd.results75, go_sem, k0, k1, k2]) rfl ⟨rfl, ((HB1.out.setCell (Nat.le_refl _) _).setCell (Nat.le_refl _) _).setCell (Nat.le_refl _) _⟩
      · rw [if_neg hE] at hR
        rw [hR]
        have hE' : ((E : Int) != 0) = true := by simp; omega
        clear hl hln hc hR hbase hdl hn hlen hq hfq hez
        go_enter Tryd.func75, Tryd.ntmps75
        go_wp2_with fail
        refine (HLC.out _).mono ?_
        rintro e w0 ⟨rfl, hw0⟩
        subst hw0
        go_wp2_with fail
        exact bodyPost_ret (v := .tuple #[.agg #[.bool false, .int .i64 0, .int .i64 0], .int .i64 (E : Int)]) (by simp [results, Tryd.results75, go_sem]) rfl ⟨rfl, (Below.refl _ _).alloc (Nat.le_refl _) _⟩
end Go.Proofs.YtenmjjpkbcogbaaDoor

/- RlpR -/
namespace Go.Proofs.YtenmjjpkbcogbaaDoor
open Go.RowKit

/-- what read leaves -/
def ReadOut (d : Nat) (w : World) (r : Except Nat (Tree × Nat)) (e : Ending) (w' : World) : Prop :=
  match r with
  | .error c => e = .returned (.tuple #[.agg #[.bool false, .string ByteArray.empty, .slice none 0 0], .int .i64 0, .int .i64 c])
  | .ok (x, u) => ∃ l t a m c, e = .returned (.tuple #[.agg #[.bool l, .string t, .slice a m c], .int .i64 u, .int .i64 0]) ∧ ItemIs d w' (fun b => w.heap.size ≤ b) [.bool l, .string t, .slice a m c] x
def ReadSaid (d : Nat) : Prop := ∀ (w : World) (s : ByteArray) (lv : Nat), s.size ≤ 4096 → lv + d = 7 →
  Calls Tryd.prog 72 #[.string s, .int .i64 lv] w fun e w' => ReadOut d w (takeR d s.data.toList) e w' ∧ Below w.heap.size w w'
/-- what readAll leaves -/
def AllOut (d : Nat) (w : World) (r : Except Nat (List Tree)) (e : Ending) (w' : World) : Prop :=
  match r with
  | .error c => e = .returned (.tuple #[.slice none 0 0, .int .i64 c]) ∧ c ≠ 0
  | .ok ks => ∃ k xs, e = .returned (.tuple #[k, .int .i64 0]) ∧ RowIs w' (fun b => w.heap.size ≤ b) k ks.length xs ∧ ks.length ≤ 64 ∧ ∀ i, i < ks.length → ItemIs d w' (fun b => w.heap.size ≤ b) ((xs.drop (3 * i)).take 3) (ks.getD i (textT []))
def ReadAllSaid (d : Nat) : Prop := ∀ (w : World) (s : ByteArray) (lv : Nat), s.size ≤ 4096 → lv + d = 7 →
  Calls Tryd.prog 76 #[.string s, .int .i64 lv] w fun e w' => AllOut d w (takeAll (takeR d) 64 s.data.toList) e w' ∧ Below w.heap.size w w'

theorem spanR_err (s : List UInt8) (l : Bool) (f n c : Nat) (h : spanR s l f n = .error c) : c = 5 := by
  unfold spanR at h
  by_cases h1 : s.length - f < n
  · rw [if_pos h1] at h; cases h; rfl
  · rw [if_neg h1] at h; cases h
theorem headR_err (s : List UInt8) (c : Nat) (h : headR s = .error c) : c = 5 ∨ c = 7 := by
  by_cases h0 : s.length = 0
  · rw [headR_nil s h0] at h; cases h; exact .inl rfl
  by_cases h1 : (s.getD 0 0).toNat < 128
  · rw [headR_low s h0 _ rfl h1] at h; cases h
  by_cases h2 : (s.getD 0 0).toNat - (if 192 ≤ (s.getD 0 0).toNat then 192 else 128) ≤ 55
  · rw [headR_short s h0 _ _ rfl h1 rfl h2] at h
    exact .inl (spanR_err _ _ _ _ _ h)
  rw [headR_long s h0 _ _ rfl h1 rfl h2] at h
  generalize (s.getD 0 0).toNat - (if 192 ≤ (s.getD 0 0).toNat then 192 else 128) - 55 = q at h
  by_cases h3 : lenErr (s.drop 1) q = 0
  · rw [if_pos h3] at h
    exact .inl (spanR_err _ _ _ _ _ h)
  · rw [if_neg h3] at h
    cases h
    unfold lenErr at h3 ⊢
    by_cases h4 : (s.drop 1).length < q
    · rw [if_pos h4]; exact .inl rfl
    · rw [if_neg h4] at h3 ⊢
      by_cases h5 : ((s.drop 1).getD 0 0).toNat = 0 ∨ be ((s.drop 1).take q) ≤ 55
      · rw [if_pos h5]; exact .inr rfl
      · rw [if_neg h5] at h3; exact absurd rfl h3
theorem takeR_err (d : Nat) (s : List UInt8) (c : Nat) (h : headR s = .error c) : takeR d s = .error c := by unfold takeR; rw [h]
theorem takeR_bare (d : Nat) (s : List UInt8) (f n : Nat) (h : headR s = .ok (false, f, n)) (hf : 0 < f) (hb : bareB ((s.drop f).take n) = true) : takeR d s = .error 7 := by
  unfold takeR; rw [h]; simp only; rw [if_pos trivial, if_pos ⟨hf, hb⟩]
theorem takeR_text (d : Nat) (s : List UInt8) (f n : Nat) (h : headR s = .ok (false, f, n)) (hb : ¬ (0 < f ∧ bareB ((s.drop f).take n) = true)) : takeR d s = .ok (textT ((s.drop f).take n), f + n) := by
  unfold takeR; rw [h]; simp only; rw [if_pos trivial, if_neg hb]
theorem takeR_deep (s : List UInt8) (f n : Nat) (h : headR s = .ok (true, f, n)) : takeR 0 s = .error 8 := by
  unfold takeR; rw [h]; simp
theorem takeR_kids_err (d : Nat) (s : List UInt8) (f n c : Nat) (h : headR s = .ok (true, f, n)) (hk : takeAll (takeR d) 64 ((s.drop f).take n) = .error c) : takeR (d + 1) s = .error c := by
  conv => lhs; unfold takeR
  rw [h]; simp only [Bool.true_eq_false, if_false]; rw [hk]
theorem takeR_kids_ok (d : Nat) (s : List UInt8) (f n : Nat) (ks : List Tree) (h : headR s = .ok (true, f, n)) (hk : takeAll (takeR d) 64 ((s.drop f).take n) = .ok ks) : takeR (d + 1) s = .ok (listT ks, f + n) := by
  conv => lhs; unfold takeR
  rw [h]; simp only [Bool.true_eq_false, if_false]; rw [hk]
theorem cut_data (s : ByteArray) (f t : Nat) : (s.extract f t).data.toList = (s.data.toList.drop f).take (t - f) := Lib.extract_data s f t

theorem res4 {w w1 w2 : World} {x y z p q r : Value} {T : TypeId} (hz : w.heap.size < w1.heap.size) (k0 : w1.cell? ⟨w.heap.size, 0, none⟩ = some x) (k1 : w1.cell? ⟨w.heap.size, 1, none⟩ = some y) (k2 : w1.cell? ⟨w.heap.size, 2, none⟩ = some z)
    (f0 : w1.frozen? ⟨w.heap.size, 0, none⟩ = false) (f1 : w1.frozen? ⟨w.heap.size, 1, none⟩ = false) (f2 : w1.frozen? ⟨w.heap.size, 2, none⟩ = false)
    (hb : Below (w1.alloc (.cells #[p, q, r] T)).heap.size (w1.alloc (.cells #[p, q, r] T)) w2) :
    w2.cell? ⟨w.heap.size, 0, none⟩ = some x ∧ w2.cell? ⟨w.heap.size, 1, none⟩ = some y ∧ w2.cell? ⟨w.heap.size, 2, none⟩ = some z ∧ w2.frozen? ⟨w.heap.size, 0, none⟩ = false ∧ w2.frozen? ⟨w.heap.size, 1, none⟩ = false ∧ w2.frozen? ⟨w.heap.size, 2, none⟩ = false ∧ w2.cell? ⟨w1.heap.size, 2, none⟩ = some r := by
  obtain ⟨h1, h2⟩ := bcell hb
  have hlt : w.heap.size < (w1.alloc (.cells #[p, q, r] T)).heap.size := by simp; omega
  refine ⟨?_, ?_, ?_, ?_, ?_, ?_, ?_⟩
  · rw [h1 _ _ hlt, World.cell?_alloc_lt _ _ _ hz]; exact k0
  · rw [h1 _ _ hlt, World.cell?_alloc_lt _ _ _ hz]; exact k1
  · rw [h1 _ _ hlt, World.cell?_alloc_lt _ _ _ hz]; exact k2
  · rw [h2 _ _ hlt, World.frozen?_alloc_past _ _ _ hz]; exact f0
  · rw [h2 _ _ hlt, World.frozen?_alloc_past _ _ _ hz]; exact f1
  · rw [h2 _ _ hlt, World.frozen?_alloc_past _ _ _ hz]; exact f2
  · rw [h1 _ _ (by simp)]; simp
theorem below_set3 {n : Nat} {w w1 : World} (h : Below n w w1) (a b c : Value) : Below n w (((w1.setCell ⟨n, 0, none⟩ a).setCell ⟨n, 1, none⟩ b).setCell ⟨n, 2, none⟩ c) :=
  ((h.setCell (Nat.le_refl _) _).setCell (Nat.le_refl _) _).setCell (Nat.le_refl _) _
theorem below_set3_alloc {n : Nat} {w w1 : World} (h : Below n w w1) (hn : n < w1.heap.size) (a b c : Value) (o : Obj) : Below n w ((((w1.setCell ⟨n, 0, none⟩ a).setCell ⟨n, 1, none⟩ b).setCell ⟨n, 2, none⟩ c).alloc o) :=
  (below_set3 h a b c).alloc (by simp [World.setCell]; omega) o

set_option maxRecDepth 100000 in
set_option maxHeartbeats 1000000 in
theorem read_of (d : Nat) (ih : ∀ e, d = e + 1 → ReadAllSaid e) : ReadSaid d := by
  intro w s lv hs hlv
  have hl : s.data.toList.length = s.size := by simp
  have hfind := fun w => find_calls s hs w
  cases hh : headR s.data.toList with
  | error c =>
    rw [takeR_err d _ c hh]
    have hcc := headR_err _ _ hh
    rw [hh] at hfind
    have HF : Hid (∀ w, Calls Tryd.prog 75 #[.string s] w fun e w' => e = .returned (.tuple #[.agg #[.bool false, .int .i64 0, .int .i64 0], .int .i64 c]) ∧ Below w.heap.size w w') := hfind
    have hc' : ((c : Int) != 0) = true := by simp; omega
    clear hfind hh hl hcc
    go_enter Tryd.func72, Tryd.ntmps72
    go_wp2_with fail
    refine (HF.out _).mono ?_
    rintro e w1 ⟨rfl, B1⟩
    obtain ⟨k0, k1, k2, f0, f1, f2⟩ := res3 B1
    have HB1 : Hid (Below w.heap.size w w1) := ((Below.refl _ _).alloc (Nat.le_refl _) _).trans (B1.mono (by simp))
    have hz : w.heap.size < w1.heap.size := by have := B1.size; simp at this; omega
    clear B1
    go_wp2_with fail
    exact bodyPost_ret (v := .tuple #[.agg #[.bool false, .string ⟨#[]⟩, .slice none 0 0], .int .i64 0, .int .i64 (c : Int)]) (by simp [results, Tryd.results72, go_sem, k0, k1, k2, hz]) rfl ⟨rfl, below_set3_alloc HB1.out hz _ _ _ _⟩
  | ok lfn =>
    obtain ⟨l, f, n⟩ := lfn
    obtain ⟨hs0, hcase⟩ := headR_ok _ l f n hh
    have hfn : f + n ≤ s.size := by
      rcases hcase with ⟨_, rfl, rfl, _⟩ | ⟨_, h, _⟩
      · rw [hl] at hs0; omega
      · rw [hl] at h; exact h
    rw [hh] at hfind
    have HF : Hid (∀ w, Calls Tryd.prog 75 #[.string s] w fun e w' => e = .returned (.tuple #[.agg #[.bool l, .int .i64 f, .int .i64 ((f + n : Nat) : Int)], .int .i64 0]) ∧ Below w.heap.size w w') := hfind
    have hcd : (s.extract f (f + n)).data.toList = (s.data.toList.drop f).take n := by rw [cut_data, Nat.add_sub_cancel_left]
    have hcz : (s.extract f (f + n)).size = n := by simp only [ByteArray.size_extract]; omega
    have HCD : Hid ((s.extract f (f + n)).data.toList = (s.data.toList.drop f).take n) := hcd
    obtain ⟨t, ht⟩ : ∃ t : Nat, t = f + n := ⟨_, rfl⟩
    rw [← ht] at hfn
    have hft : f ≤ t := by omega
    have HFT : Hid (t = f + n) := ht
    cases l with
    | false =>
      by_cases hb : 0 < f ∧ bareB ((s.data.toList.drop f).take n) = true
      · rw [takeR_bare d _ f n hh hb.1 hb.2]
        have hf0 : (0 : Int) < (f : Int) := by omega
        have hbare := fun w => bare_calls (s.extract f t) w
        rw [ht, hcd, hb.2] at hbare
        have HBA : Hid (∀ w, Calls Tryd.prog 47 #[.string (s.extract f t)] w fun e w' => e = .returned (.bool true) ∧ w' = w) := by rw [ht]; exact hbare
        clear hfind hh hl hs0 hcase hb hbare hcd hcz ih
        rw [← ht] at HF
        clear ht
        go_enter Tryd.func72, Tryd.ntmps72
        go_wp2_with fail
        refine (HF.out _).mono ?_
        rintro e w1 ⟨rfl, B1⟩
        obtain ⟨k0, k1, k2, f0, f1, f2⟩ := res3 B1
        have HB1 : Hid (Below w.heap.size w w1) := ((Below.refl _ _).alloc (Nat.le_refl _) _).trans (B1.mono (by simp))
        have hz : w.heap.size < w1.heap.size := by have := B1.size; simp at this; omega
        clear B1
        go_wp2_with fail
        refine (HBA.out _).mono ?_
        rintro e w2 ⟨rfl, hw2⟩
        subst hw2
        go_wp2_with fail
        exact bodyPost_ret (v := .tuple #[.agg #[.bool false, .string ⟨#[]⟩, .slice none 0 0], .int .i64 0, .int .i64 7]) (by simp [results, Tryd.results72, go_sem, k0, k1, k2, hz]) rfl ⟨rfl, below_set3_alloc HB1.out hz _ _ _ _⟩
      · rw [takeR_text d _ f n hh hb]
        have HTS : Hid (∀ W : World, ItemIs d W (fun b => w.heap.size ≤ b) [.bool false, .string (s.extract f t), .slice none 0 0] (textT ((s.data.toList.drop f).take n))) := by
          intro W
          have := item_text d W (fun b => w.heap.size ≤ b) (s.extract f t) (.slice none 0 0) (by rw [ht, hcz]; omega)
          rw [ht, hcd, ← ht] at this; exact this
        by_cases hf0 : f = 0
        · subst hf0
          rw [← ht] at HF
          clear hfind hh hl hs0 hcase hb hcd hcz ih ht
          go_enter Tryd.func72, Tryd.ntmps72
          go_wp2_with fail
          refine (HF.out _).mono ?_
          rintro e w1 ⟨rfl, B1⟩
          obtain ⟨k0, k1, k2, f0, f1, f2⟩ := res3 B1
          have HB1 : Hid (Below w.heap.size w w1) := ((Below.refl _ _).alloc (Nat.le_refl _) _).trans (B1.mono (by simp))
          have hz : w.heap.size < w1.heap.size := by have := B1.size; simp at this; omega
          clear B1
          go_wp2_with fail
          go_region
          all_goals go_wp2_with fail
          all_goals exact bodyPost_ret (v := .tuple #[.agg #[.bool false, .string (s.extract 0 t), .slice none 0 0], .int .i64 (t : Int), .int .i64 0]) (by simp [results, Tryd.results72, go_sem, k0, k1, k2, hz]) rfl ⟨⟨false, s.extract 0 t, none, 0, 0, by rw [← HFT.out], HTS.out _⟩, (below_set3_alloc HB1.out hz _ _ _ _).drew⟩
        · have hbf : bareB ((s.data.toList.drop f).take n) = false := by
            cases h : bareB ((s.data.toList.drop f).take n) with
            | false => rfl
            | true => exact absurd ⟨by omega, h⟩ hb
          have hf0' : (0 : Int) < (f : Int) := by omega
          have hbare := fun w => bare_calls (s.extract f t) w
          rw [ht, hcd, hbf] at hbare
          have HBA : Hid (∀ w, Calls Tryd.prog 47 #[.string (s.extract f t)] w fun e w' => e = .returned (.bool false) ∧ w' = w) := by rw [ht]; exact hbare
          rw [← ht] at HF
          clear hfind hh hl hs0 hcase hb hcd hcz ih ht hbare hbf
          go_enter Tryd.func72, Tryd.ntmps72
          go_wp2_with fail
          refine (HF.out _).mono ?_
          rintro e w1 ⟨rfl, B1⟩
          obtain ⟨k0, k1, k2, f0, f1, f2⟩ := res3 B1
          have HB1 : Hid (Below w.heap.size w w1) := ((Below.refl _ _).alloc (Nat.le_refl _) _).trans (B1.mono (by simp))
          have hz : w.heap.size < w1.heap.size := by have := B1.size; simp at this; omega
          clear B1
          go_wp2_with fail
          refine (HBA.out _).mono ?_
          rintro e w2 ⟨rfl, hw2⟩
          subst hw2
          go_wp2_with fail
          go_region
          all_goals go_wp2_with fail
          all_goals exact bodyPost_ret (v := .tuple #[.agg #[.bool false, .string (s.extract f t), .slice none 0 0], .int .i64 (t : Int), .int .i64 0]) (by simp [results, Tryd.results72, go_sem, k0, k1, k2, hz]) rfl ⟨⟨false, s.extract f t, none, 0, 0, by rw [← HFT.out], HTS.out _⟩, (below_set3_alloc HB1.out hz _ _ _ _).drew⟩
    | true =>
      cases d with
      | zero =>
        rw [takeR_deep _ f n hh]
        have hl6 : (6 : Int) < (lv : Int) := by omega
        rw [← ht] at HF
        clear hfind hh hl hs0 hcase hcd hcz ih ht
        go_enter Tryd.func72, Tryd.ntmps72
        go_wp2_with fail
        refine (HF.out _).mono ?_
        rintro e w1 ⟨rfl, B1⟩
        obtain ⟨k0, k1, k2, f0, f1, f2⟩ := res3 B1
        have HB1 : Hid (Below w.heap.size w w1) := ((Below.refl _ _).alloc (Nat.le_refl _) _).trans (B1.mono (by simp))
        have hz : w.heap.size < w1.heap.size := by have := B1.size; simp at this; omega
        clear B1
        go_wp2_with fail
        exact bodyPost_ret (v := .tuple #[.agg #[.bool false, .string ⟨#[]⟩, .slice none 0 0], .int .i64 0, .int .i64 8]) (by simp [results, Tryd.results72, go_sem, k0, k1, k2, hz]) rfl ⟨rfl, below_set3_alloc HB1.out hz _ _ _ _⟩
      | succ d =>
        have hl6 : ¬ ((6 : Int) < (lv : Int)) := by omega
        have hall := fun w => ih d rfl w (s.extract f t) (lv + 1) (by rw [ht, hcz]; omega) (by omega)
        have ecast : ((lv + 1 : Nat) : Int) = (lv : Int) + 1 := by omega
        rw [ht, hcd, ← ht, ecast] at hall
        cases hk : takeAll (takeR d) 64 ((s.data.toList.drop f).take n) with
        | error c =>
          rw [takeR_kids_err d _ f n c hh hk]
          rw [hk] at hall
          have HAL : Hid (∀ w : World, Calls Tryd.prog 76 #[.string (s.extract f t), .int .i64 ((lv : Int) + 1)] w fun e w' => AllOut d w (.error c) e w' ∧ Below w.heap.size w w') := hall
          rw [← ht] at HF
          clear hfind hh hl hs0 hcase hcd hcz ih ht hall hk ecast
          go_enter Tryd.func72, Tryd.ntmps72
          go_wp2_with fail
          refine (HF.out _).mono ?_
          rintro e w1 ⟨rfl, B1⟩
          obtain ⟨k0, k1, k2, f0, f1, f2⟩ := res3 B1
          have HB1 : Hid (Below w.heap.size w w1) := ((Below.refl _ _).alloc (Nat.le_refl _) _).trans (B1.mono (by simp))
          have hz : w.heap.size < w1.heap.size := by have := B1.size; simp at this; omega
          clear B1
          go_wp2_with fail
          refine (HAL.out _).mono ?_
          rintro e w2 ⟨⟨rfl, hc0⟩, B2⟩
          have hc0' : ((c : Int) != 0) = true := by simp; omega
          obtain ⟨m0, m1, m2, q0, q1, q2, a2⟩ := res4 hz k0 k1 k2 f0 f1 f2 B2
          have HB2 : Hid (Below w.heap.size w w2) := (HB1.out.alloc (Nat.le_of_lt hz) _).trans (B2.mono (by simp; omega))
          have hz2 : w.heap.size < w2.heap.size := by have := B2.size; simp at this; omega
          clear B2 HB1
          go_wp2_with fail
          exact bodyPost_ret (v := .tuple #[.agg #[.bool false, .string ⟨#[]⟩, .slice none 0 0], .int .i64 0, .int .i64 (c : Int)]) (by simp [results, Tryd.results72, go_sem, m0, m1, m2]) rfl ⟨rfl, below_set3 HB2.out _ _ _⟩
        | ok ks =>
          rw [takeR_kids_ok d _ f n ks hh hk]
          rw [hk] at hall
          have HAL : Hid (∀ w : World, Calls Tryd.prog 76 #[.string (s.extract f t), .int .i64 ((lv : Int) + 1)] w fun e w' => AllOut d w (.ok ks) e w' ∧ Below w.heap.size w w') := hall
          rw [← ht] at HF
          clear hfind hh hl hs0 hcase hcd hcz ih ht hall hk ecast
          go_enter Tryd.func72, Tryd.ntmps72
          go_wp2_with fail
          refine (HF.out _).mono ?_
          rintro e w1 ⟨rfl, B1⟩
          obtain ⟨k0, k1, k2, f0, f1, f2⟩ := res3 B1
          have HB1 : Hid (Below w.heap.size w w1) := ((Below.refl _ _).alloc (Nat.le_refl _) _).trans (B1.mono (by simp))
          have hz : w.heap.size < w1.heap.size := by have := B1.size; simp at this; omega
          clear B1
          go_wp2_with fail
          refine (HAL.out _).mono ?_
          rintro e w2 ⟨⟨k, xs, rfl, hrow, h64, hkids⟩, B2⟩
          obtain ⟨ka, kc, hkv⟩ : ∃ ka kc, k = .slice ka ks.length kc := by
            rcases hrow.lie with ⟨h0, a, c, rfl⟩ | ⟨b, o, c, rfl, _⟩
            · exact ⟨a, c, by rw [h0]⟩
            · exact ⟨_, c, rfl⟩
          subst hkv
          obtain ⟨kn, hkn⟩ : ∃ kn, kn = ks.length := ⟨_, rfl⟩
          have HKN : Hid (kn = ks.length) := hkn
          obtain ⟨m0, m1, m2, q0, q1, q2, a2⟩ := res4 hz k0 k1 k2 f0 f1 f2 B2
          have HB2 : Hid (Below w.heap.size w w2) := (HB1.out.alloc (Nat.le_of_lt hz) _).trans (B2.mono (by simp; omega))
          have hz2 : w.heap.size < w2.heap.size := by have := B2.size; simp at this; omega
          have hmv : ∀ (W3 : World), (∀ b, b ≠ w.heap.size → W3.heap[b]? = w2.heap[b]?) → ItemIs (d + 1) W3 (fun b => w.heap.size ≤ b) [.bool true, .string ⟨#[]⟩, .slice ka ks.length kc] (listT ks) := fun W3 h3 => by
            have hS : ∀ b, (w1.heap.size + 1 ≤ b) → b < w2.heap.size → (w.heap.size ≤ b) ∧ W3.heap[b]? = w2.heap[b]? := fun b hb _ => ⟨by omega, h3 b (by omega)⟩
            have hrow' : RowIs w2 (fun b => w1.heap.size + 1 ≤ b) (.slice ka ks.length kc) ks.length xs := by simpa using hrow
            refine item_list d W3 _ _ (.slice ka ks.length kc) ks xs (hrow'.move hS) (by omega) (fun i hi => ItemIs.move (w := w2) (S := fun b => w1.heap.size + 1 ≤ b) hS d _ _ (by simpa using hkids i hi))
          have HMV : Hid (∀ (W3 : World), (∀ b, b ≠ w.heap.size → W3.heap[b]? = w2.heap[b]?) → ItemIs (d + 1) W3 (fun b => w.heap.size ≤ b) [.bool true, .string ⟨#[]⟩, .slice ka kn kc] (listT ks)) := by rw [hkn]; exact hmv
          rw [← hkn]
          clear B2 HB1 hrow hkids hmv hkn
          go_wp2_with fail
          go_region
          all_goals go_wp2_with fail
          all_goals exact bodyPost_ret (v := .tuple #[.agg #[.bool true, .string ⟨#[]⟩, .slice ka kn kc], .int .i64 (t : Int), .int .i64 0]) (by simp [results, Tryd.results72, go_sem, m0, m1, m2]) rfl ⟨⟨true, ⟨#[]⟩, ka, kn, kc, by rw [← HFT.out], HMV.out _ (fun b hb => by simp [heap_setCell_other, hb, World.drew])⟩, (below_set3 HB2.out _ _ _).drew⟩
end Go.Proofs.YtenmjjpkbcogbaaDoor

/- RlpS -/
namespace Go.Proofs.YtenmjjpkbcogbaaDoor
open Go.RowKit

theorem takeAll_ne (f : List UInt8 → Except Nat (Tree × Nat)) (hf : ∀ s c, f s = .error c → c ≠ 0) : ∀ (m : Nat) (body : List UInt8) (c : Nat), takeAll f m body = .error c → c ≠ 0
  | 0, body, c, h => by
    unfold takeAll at h
    by_cases h0 : body.length = 0
    · rw [if_pos h0] at h; cases h
    · rw [if_neg h0] at h; cases h; decide
  | m + 1, body, c, h => by
    unfold takeAll at h
    by_cases h0 : body.length = 0
    · rw [if_pos h0] at h; cases h
    · rw [if_neg h0] at h
      simp only at h
      cases hk : f body with
      | error e => rw [hk] at h; cases h; exact hf _ _ hk
      | ok ku =>
        obtain ⟨k, u⟩ := ku
        rw [hk] at h
        simp only at h
        cases hr : takeAll f m (body.drop u) with
        | error e => rw [hr] at h; cases h; exact takeAll_ne f hf m _ _ hr
        | ok ks' => rw [hr] at h; cases h
theorem takeR_ne : ∀ (d : Nat) (s : List UInt8) (c : Nat), takeR d s = .error c → c ≠ 0 := by
  intro d
  induction d with
  | zero =>
    intro s c h
    cases hh : headR s with
    | error e => rw [takeR_err 0 s e hh] at h; cases h; have := headR_err _ _ hh; omega
    | ok lfn =>
      obtain ⟨l, f, n⟩ := lfn
      cases l with
      | true => rw [takeR_deep s f n hh] at h; cases h; decide
      | false =>
        by_cases hb : 0 < f ∧ bareB ((s.drop f).take n) = true
        · rw [takeR_bare 0 s f n hh hb.1 hb.2] at h; cases h; decide
        · rw [takeR_text 0 s f n hh hb] at h; cases h
  | succ d ih =>
    intro s c h
    cases hh : headR s with
    | error e => rw [takeR_err (d + 1) s e hh] at h; cases h; have := headR_err _ _ hh; omega
    | ok lfn =>
      obtain ⟨l, f, n⟩ := lfn
      cases l with
      | true =>
        cases hk : takeAll (takeR d) 64 ((s.drop f).take n) with
        | error e => rw [takeR_kids_err d s f n e hh hk] at h; cases h; exact takeAll_ne _ ih _ _ _ hk
        | ok ks => rw [takeR_kids_ok d s f n ks hh hk] at h; cases h
      | false =>
        by_cases hb : 0 < f ∧ bareB ((s.drop f).take n) = true
        · rw [takeR_bare (d + 1) s f n hh hb.1 hb.2] at h; cases h; decide
        · rw [takeR_text (d + 1) s f n hh hb] at h; cases h

def joinR (ks : List Tree) (r : Except Nat (List Tree)) : Except Nat (List Tree) := match r with
  | .error e => .error e
  | .ok rs => .ok (ks ++ rs)
theorem takeAll_nil (f : List UInt8 → Except Nat (Tree × Nat)) (m : Nat) (body : List UInt8) (h : body.length = 0) : takeAll f m body = .ok [] := by unfold takeAll; rw [if_pos h]
theorem takeAll_full (f : List UInt8 → Except Nat (Tree × Nat)) (body : List UInt8) (h : body.length ≠ 0) : takeAll f 0 body = .error 8 := by unfold takeAll; rw [if_neg h]
theorem takeAll_err (f : List UInt8 → Except Nat (Tree × Nat)) (m : Nat) (body : List UInt8) (c : Nat) (h : body.length ≠ 0) (hf : f body = .error c) : takeAll f (m + 1) body = .error c := by
  unfold takeAll; rw [if_neg h]; simp only; rw [hf]
theorem takeAll_step (f : List UInt8 → Except Nat (Tree × Nat)) (m : Nat) (body : List UInt8) (k : Tree) (u : Nat) (h : body.length ≠ 0) (hf : f body = .ok (k, u)) : takeAll f (m + 1) body = joinR [k] (takeAll f m (body.drop u)) := by
  conv => lhs; unfold takeAll
  rw [if_neg h]; simp only; rw [hf]; simp only
  unfold joinR
  cases takeAll f m (body.drop u) <;> rfl
theorem joinR_joinR (ks : List Tree) (k : Tree) (r : Except Nat (List Tree)) : joinR ks (joinR [k] r) = joinR (ks ++ [k]) r := by
  unfold joinR; cases r <;> simp

theorem info25 : (Tryd.prog.info? 47).map (fun i => (i.zero, i.size, i.bytes)) = some (some (.agg #[.bool false, .string ⟨#[]⟩, .slice none 0 0]), 3, 48) := by kernel_rfl

theorem own_three (W : World) (x y z : Value) {H : Nat} (hH : W.heap.size = H) : ∀ j u, [x, y, z][j]? = some u → (W.alloc (.cells #[x, y, z] 47)).cell? ((⟨H, 0, none⟩ : Addr).add j) = some u := by
  subst hH
  intro j u hj
  match j, hj with
  | 0, hj => simp at hj; subst hj; simp [Addr.add]
  | 1, hj => simp at hj; subst hj; simp [Addr.add]
  | 2, hj => simp at hj; subst hj; simp [Addr.add]
  | (j + 3), hj => simp at hj
theorem own_row {w : World} {base : Nat} {v : Value} {n : Nat} {xs : List Value} (h : w.ownsRow base 47 3 v n xs) : RowIs w (fun b => base ≤ b) v n xs := by
  refine ⟨by rw [h.1]; omega, ?_⟩
  rcases h.2 with ⟨rfl, rfl⟩ | ⟨g, cap, cur, rfl, hb, _⟩
  · exact .inl ⟨rfl, _, _, rfl⟩
  · refine .inr ⟨g, 0, cap, rfl, hb, fun j hj => ?_⟩
    rw [Nat.zero_add]; exact h.cellAt j (by omega)

set_option maxRecDepth 100000 in
set_option maxHeartbeats 1000000 in
theorem readAll_of (d : Nat) (ih : ReadSaid d) : ReadAllSaid d := by
  intro w s lv hs hlv
  obtain ⟨i0, hi0, hz0, hz1, hz2⟩ := info_parts info25
  have HI : Hid (ReadSaid d) := ih
  have HLV : Hid (lv + d = 7) := hlv
  obtain ⟨R, hR⟩ : ∃ R, R = takeAll (takeR d) 64 s.data.toList := ⟨_, rfl⟩
  rw [← hR]
  have HNE : Hid (∀ c, R = .error c → c ≠ 0) := fun c h => by rw [hR] at h; exact takeAll_ne _ (takeR_ne d) _ _ _ h
  have hR0 : R = joinR [] (takeAll (takeR d) (64 - 0) s.data.toList) := by
    rw [hR]; unfold joinR; cases takeAll (takeR d) 64 s.data.toList <;> rfl
  have HR0 : Hid (R = joinR [] (takeAll (takeR d) (64 - 0) s.data.toList)) := hR0
  clear ih hR hR0 hlv
  go_enter Tryd.func76, Tryd.ntmps76
  go_wp2_with fail
  go_loopg [0, 6] s.size (fun g c v wr => ∃ (b : ByteArray) (m : Nat) (a : Option Addr) (cap : Nat) (ks : List Tree) (xs : List Value), g = b.size ∧ b.size ≤ 4096 ∧ m ≤ 64 ∧ c = .string b ∧ v = .slice a m cap ∧
    Hid (R = joinR ks (takeAll (takeR d) (64 - m) b.data.toList)) ∧ Hid (ks.length = m) ∧ wr.ownsRow w.heap.size 47 3 (.slice a m cap) m xs ∧
    Hid (∀ i, i < m → ItemIs d wr (fun q => w.heap.size ≤ q ∧ (Value.slice a m cap).ownBlock ≠ some q) ((xs.drop (3 * i)).take 3) (ks.getD i (textT []))) ∧ Below w.heap.size w wr)
  case atStart => exact ⟨s, 0, none, 0, [], [], rfl, hs, by omega, rfl, rfl, HR0.out, rfl, ⟨rfl, .inl ⟨rfl, rfl⟩⟩, fun i h => by omega, Below.refl _ _⟩
  case round =>
    obtain ⟨b, m, a, cap, ks, xs, hg, hb, hm, rfl, rfl, hRR, hkl, hown, hit, hbel⟩ := hrel
    have HG : Hid (gk = b.size) := hg
    have HO : Hid (wr.ownsRow w.heap.size 47 3 (.slice a m cap) m xs) := hown
    have HB : Hid (Below w.heap.size w wr) := hbel
    have hbl : b.data.toList.length = b.size := by simp
    have HBL : Hid (b.data.toList.length = b.size) := hbl
    clear hg hown hbel hbl HR0
    by_cases h0 : 0 < b.size
    · have h0' : (0 : Int) < (b.size : Int) := by omega
      by_cases h64 : m = 64
      · have h64' : ((m : Int) == 64) = true := beq_iff_eq.2 (by omega)
        have hE : R = .error 8 := by
          rw [hRR.out, h64, Nat.sub_self, takeAll_full _ _ (by rw [HBL.out]; omega)]; rfl
        have HE : Hid (R = .error 8) := hE
        clear hE
        go_wp2_with fail
        go_ret2
        exact ⟨by rw [HE.out]; exact ⟨rfl, by decide⟩, HB.out⟩
      · have h64' : ((m : Int) == 64) = false := beq_eq_false_iff_ne.2 (by omega)
        have e64 : 64 - m = (64 - (m + 1)) + 1 := by omega
        cases hT : takeR d b.data.toList with
        | error c =>
          have hE : R = .error c := by
            rw [hRR.out, e64, takeAll_err _ _ _ c (by rw [HBL.out]; omega) hT]; rfl
          have hc0 : ((c : Int) != 0) = true := by have := HNE.out c hE; simp; omega
          have HE : Hid (R = .error c) := hE
          have HT : Hid (takeR d b.data.toList = .error c) := hT
          clear hE hT
          go_wp2_with fail
          refine (HI.out _ b lv hb HLV.out).mono ?_
          rw [HT.out]
          rintro e w1 ⟨rfl, B1⟩
          have HB1 : Hid (Below w.heap.size w w1) := HB.out.trans (B1.mono HB.out.size)
          clear B1
          go_wp2_with fail
          go_ret2
          refine ⟨by rw [HE.out]; exact ⟨rfl, HNE.out c HE.out⟩, ?_⟩
          exact HB1.out.alloc HB1.out.size _
        | ok xu =>
          obtain ⟨x, u⟩ := xu
          have HS : Hid (R = joinR (ks ++ [x]) (takeAll (takeR d) (64 - (m + 1)) (b.data.toList.drop u))) := by
            rw [hRR.out, e64, takeAll_step _ _ _ x u (by rw [HBL.out]; omega) hT, joinR_joinR]; rfl
          obtain ⟨u1, u2, _, _⟩ := takeR_ok d _ x u hT
          have hub : u ≤ b.size := by rw [HBL.out] at u2; exact u2
          have HT : Hid (takeR d b.data.toList = .ok (x, u)) := hT
          clear hT e64
          go_wp2_with fail
          refine (HI.out _ b lv hb HLV.out).mono ?_
          rw [HT.out]
          rintro e w1 ⟨⟨kl, kt, ka, km, kc, rfl, hkid⟩, B1⟩
          have HKID : Hid (ItemIs d w1 (fun q => wr.heap.size ≤ q) [.bool kl, .string kt, .slice ka km kc] x) := hkid
          have HB1 : Hid (Below w.heap.size w w1) := HB.out.trans (B1.mono HB.out.size)
          have HBW : Hid (Below wr.heap.size wr w1) := B1
          have HO1 : Hid (w1.ownsRow w.heap.size 47 3 (.slice a m cap) m xs) := own_below HO.out B1
          clear hkid B1
          go_upto_region 8 with fail
          go_wp2_with (at_builtin; refine wpList_append_lies _ rfl (.tmp 26) (.tmp 28) 45 rfl w.heap.size 47 i0 _ 3 48 Tryd.underlying45 hi0 hz0 hz1 hz2 rfl (by decide) (.slice a m cap) m xs rfl ((HO1.out.alloc _).alloc _) ⟨w1.heap.size + 1, 0, none⟩ 1 1 [.bool kl, .string kt, .slice ka km kc] rfl rfl ?c1 ?c2 (by omega) ?c3 ?c4 ?c5 _ rfl ?c6)
          case c1 => exact own_three (w1.alloc _) _ _ _ (by simp)
          case c2 => intro v hv; simp at hv; rcases hv with rfl | rfl | rfl <;> rfl
          case c3 => unfold maxLen; omega
          case c4 => omega
          case c5 => have := HB1.out.size; simp; omega
          intro g2 cap2 w2 hown2 hgrow2 hat2 hlt2
          have hW : ∀ q, q < w1.heap.size → ((w1.alloc (.cells #[.bool kl, .string kt, .slice ka km kc] 47)).alloc (.cells #[.bool kl, .string kt, .slice ka km kc] 47)).heap[q]? = w1.heap[q]? := fun q hq => by
            rw [Below.heap_alloc _ _ _ (by simp; omega), Below.heap_alloc _ _ _ hq]
          have hgr : ∀ q, q < w1.heap.size → (Value.slice a m cap).ownBlock ≠ some q → w2.heap[q]? = w1.heap[q]? := fun q hq hne => by
            rw [← hW q hq]; exact hgrow2.block q (by simp; omega) (fun h => hne h.symm)
          have hg2 : ∀ q, q < w1.heap.size → (Value.slice a m cap).ownBlock ≠ some q → (Value.slice (some ⟨g2, 0, none⟩) (m + 1) cap2).ownBlock ≠ some q := fun q hq hne h => by
            have hgq : g2 = q := by simpa [Value.ownBlock] using h
            rcases hat2 with h2 | h2
            · rw [hgq] at h2; exact hne h2
            · omega
          have hbel2 : Below w.heap.size w w2 := ((HB1.out.alloc HB1.out.size _).alloc (by have := HB1.out.size; simp; omega) _).grown hgrow2 (by have := HB1.out.size; simp; omega) (fun k hk => (HO1.out.lt k hk).1)
          have hwr : wr.heap.size ≤ w1.heap.size := HBW.out.size
          have hit2 : ∀ i, i < m + 1 → ItemIs d w2 (fun q => w.heap.size ≤ q ∧ (Value.slice (some ⟨g2, 0, none⟩) (m + 1) cap2).ownBlock ≠ some q) (((xs ++ [Value.bool kl, Value.string kt, Value.slice ka km kc]).drop (3 * i)).take 3) ((ks ++ [x]).getD i (textT [])) := by
            intro i hi
            have hxl : xs.length = 3 * m := by have := HO1.out.1; omega
            by_cases him : i < m
            · have e1 : ((xs ++ [Value.bool kl, Value.string kt, Value.slice ka km kc]).drop (3 * i)).take 3 = (xs.drop (3 * i)).take 3 := by
                rw [List.drop_append_of_le_length (by omega), List.take_append_of_le_length (by rw [List.length_drop]; omega)]
              have e2 : (ks ++ [x]).getD i (textT []) = ks.getD i (textT []) := by
                rw [List.getD_eq_getElem?_getD, List.getElem?_append_left (by have := hkl.out; omega), List.getD_eq_getElem?_getD]
              rw [e1, e2]
              refine ItemIs.move (w := wr) (fun q hq hlt => ?_) d _ _ (hit.out i him)
              have hq1 : q < w1.heap.size := by omega
              exact ⟨⟨hq.1, hg2 q hq1 hq.2⟩, (hgr q hq1 hq.2).trans (HBW.out.block q hlt)⟩
            · have him' : i = m := by omega
              subst him'
              have e1 : ((xs ++ [Value.bool kl, Value.string kt, Value.slice ka km kc]).drop (3 * i)).take 3 = [.bool kl, .string kt, .slice ka km kc] := by
                rw [← hxl, List.drop_left]; rfl
              have e2 : (ks ++ [x]).getD i (textT []) = x := by
                rw [List.getD_eq_getElem?_getD, ← hkl.out, List.getElem?_append_right (Nat.le_refl _), Nat.sub_self]; rfl
              rw [e1, e2]
              refine ItemIs.move (w := w1) (fun q hq hlt => ?_) d _ _ HKID.out
              have hne : (Value.slice a i cap).ownBlock ≠ some q := fun h => by have := (HO.out.lt q h).2; omega
              exact ⟨⟨Nat.le_trans HB.out.size hq, hg2 q hlt hne⟩, hgr q hlt hne⟩
          have HI2 : Hid (∀ i, i < m + 1 → ItemIs d w2 (fun q => w.heap.size ≤ q ∧ (Value.slice (some ⟨g2, 0, none⟩) (m + 1) cap2).ownBlock ≠ some q) (((xs ++ [Value.bool kl, Value.string kt, Value.slice ka km kc]).drop (3 * i)).take 3) ((ks ++ [x]).getD i (textT []))) := hit2
          have HO2 : Hid (w2.ownsRow w.heap.size 47 3 (.slice (some ⟨g2, 0, none⟩) (m + 1) cap2) (m + 1) (xs ++ [Value.bool kl, Value.string kt, Value.slice ka km kc])) := hown2
          have HB2 : Hid (Below w.heap.size w w2) := hbel2
          clear hW hgr hg2 hbel2 hit2 hown2 hgrow2 hat2 hlt2 hwr
          have hui : (u : Int) ≤ (b.size : Int) := by omega
          go_wp2_with fail
          go_roundg (b.size - u)
          case measure => have := HG.out; omega
          case rel =>
            refine ⟨b.extract u b.size, m + 1, some ⟨g2, 0, none⟩, cap2, ks ++ [x], xs ++ [Value.bool kl, Value.string kt, Value.slice ka km kc], by simp, by simp; omega, by omega, rfl, rfl, ?_, by show (ks ++ [x]).length = m + 1; rw [List.length_append, hkl.out]; rfl, HO2.out, HI2.out, HB2.out⟩
            have e : (b.extract u b.size).data.toList = b.data.toList.drop u := by rw [Lib.extract_data, List.take_of_length_le (by simp)]
            show R = _
            rw [e]; exact HS.out
    · have h0' : ¬ ((0 : Int) < (b.size : Int)) := by omega
      have hE : R = .ok ks := by
        rw [hRR.out, takeAll_nil _ _ _ (by rw [HBL.out]; omega)]; unfold joinR; simp
      have HE : Hid (R = .ok ks) := hE
      clear hE
      go_wp2_with fail
      go_ret2
      refine ⟨?_, HB.out⟩
      rw [HE.out]
      refine ⟨.slice a m cap, xs, rfl, ?_, by rw [hkl.out]; exact hm, fun i hi => ItemIs.move (w := wr) (fun q hq _ => ⟨hq.1, rfl⟩) d _ _ (hit.out i (by rw [← hkl.out]; exact hi))⟩
      rw [hkl.out]
      exact own_row HO.out

theorem read_all : ∀ d, ReadSaid d ∧ ReadAllSaid d
  | 0 => ⟨read_of 0 (fun e h => by omega), readAll_of 0 (read_of 0 (fun e h => by omega))⟩
  | d + 1 =>
    have h : ReadSaid (d + 1) := read_of (d + 1) (fun e h => by
      have : e = d := by omega
      subst this
      exact (read_all e).2)
    ⟨h, readAll_of (d + 1) h⟩
end Go.Proofs.YtenmjjpkbcogbaaDoor

/- RlpD -/
namespace Go.Proofs.YtenmjjpkbcogbaaDoor
open Go.RowKit

def DecOut (w : World) (r : Except Nat Tree) (e : Ending) (w' : World) : Prop :=
  match r with
  | .error c => e = .returned (.tuple #[.agg #[.bool false, .string ByteArray.empty, .slice none 0 0], .int .i64 c]) ∧ c ≠ 0
  | .ok x => ∃ l t a m c, e = .returned (.tuple #[.agg #[.bool l, .string t, .slice a m c], .int .i64 0]) ∧ ItemIs 6 w' (fun b => w.heap.size ≤ b) [.bool l, .string t, .slice a m c] x

theorem decR_long (s : List UInt8) (h : 4096 < s.length) : decR s = .error 1 := by unfold decR; rw [if_pos h]
theorem decR_err (s : List UInt8) (h : ¬ 4096 < s.length) (c : Nat) (ht : takeR 6 s = .error c) : decR s = .error c := by unfold decR; rw [if_neg h, ht]
theorem decR_extra (s : List UInt8) (h : ¬ 4096 < s.length) (x : Tree) (u : Nat) (ht : takeR 6 s = .ok (x, u)) (hu : u < s.length) : decR s = .error 6 := by unfold decR; rw [if_neg h, ht]; simp only; rw [if_pos hu]
theorem decR_done (s : List UInt8) (h : ¬ 4096 < s.length) (x : Tree) (u : Nat) (ht : takeR 6 s = .ok (x, u)) (hu : ¬ u < s.length) : decR s = .ok x := by unfold decR; rw [if_neg h, ht]; simp only; rw [if_neg hu]

set_option maxRecDepth 100000 in
set_option maxHeartbeats 1000000 in
theorem decode_calls (w : World) (s : ByteArray) (hs : s.size ≤ maxLen) :
    Calls Tryd.prog 70 #[.string s] w fun e w' => DecOut w (decR s.data.toList) e w' ∧ Below w.heap.size w w' := by
  unfold maxLen at hs
  have hl : s.data.toList.length = s.size := by simp
  by_cases h4 : 4096 < s.size
  · rw [decR_long _ (by rw [hl]; exact h4)]
    have h4' : (4096 : Int) < (s.size : Int) := by omega
    clear hl
    go_enter Tryd.func70, Tryd.ntmps70
    go_wp2_with fail
    exact bodyPost_ret (v := .tuple #[.agg #[.bool false, .string ⟨#[]⟩, .slice none 0 0], .int .i64 1]) (by simp [results, Tryd.results70, go_sem]) rfl ⟨⟨rfl, by decide⟩, (Below.refl _ _).alloc (Nat.le_refl _) _⟩
  have h4' : ¬ ((4096 : Int) < (s.size : Int)) := by omega
  have h4l : ¬ 4096 < s.data.toList.length := by rw [hl]; exact h4
  have hread := fun w => (read_all 6).1 w s 1 (by omega) rfl
  cases hT : takeR 6 s.data.toList with
  | error c =>
    rw [decR_err _ h4l c hT]
    have hc0 := takeR_ne 6 _ _ hT
    have hc0' : ((c : Int) != 0) = true := by simp; omega
    rw [hT] at hread
    have HR : Hid (∀ w : World, Calls Tryd.prog 72 #[.string s, .int .i64 1] w fun e w' => ReadOut 6 w (.error c) e w' ∧ Below w.heap.size w w') := hread
    have HC0 : Hid (c ≠ 0) := hc0
    clear hl h4l hT hread hc0
    go_enter Tryd.func70, Tryd.ntmps70
    go_wp2_with fail
    refine (HR.out _).mono ?_
    rintro e w1 ⟨rfl, B1⟩
    obtain ⟨k0, k1, k2, f0, f1, f2⟩ := res3 B1
    have HB1 : Hid (Below w.heap.size w w1) := ((Below.refl _ _).alloc (Nat.le_refl _) _).trans (B1.mono (by simp))
    have hz : w.heap.size < w1.heap.size := by have := B1.size; simp at this; omega
    clear B1
    go_wp2_with fail
    exact bodyPost_ret (v := .tuple #[.agg #[.bool false, .string ⟨#[]⟩, .slice none 0 0], .int .i64 (c : Int)]) (by simp [results, Tryd.results70, go_sem, k0, k1, k2, hz]) rfl ⟨⟨rfl, HC0.out⟩, below_set3_alloc HB1.out hz _ _ _ _⟩
  | ok xu =>
    obtain ⟨x, u⟩ := xu
    rw [hT] at hread
    have HR : Hid (∀ w : World, Calls Tryd.prog 72 #[.string s, .int .i64 1] w fun e w' => ReadOut 6 w (.ok (x, u)) e w' ∧ Below w.heap.size w w') := hread
    by_cases hu : u < s.size
    · rw [decR_extra _ h4l x u hT (by rw [hl]; exact hu)]
      have hu' : (u : Int) < (s.size : Int) := by omega
      clear hl h4l hT hread
      go_enter Tryd.func70, Tryd.ntmps70
      go_wp2_with fail
      refine (HR.out _).mono ?_
      rintro e w1 ⟨⟨l, t, a, m, c, rfl, hit⟩, B1⟩
      obtain ⟨k0, k1, k2, f0, f1, f2⟩ := res3 B1
      have HB1 : Hid (Below w.heap.size w w1) := ((Below.refl _ _).alloc (Nat.le_refl _) _).trans (B1.mono (by simp))
      have hz : w.heap.size < w1.heap.size := by have := B1.size; simp at this; omega
      clear B1 hit
      go_wp2_with fail
      exact bodyPost_ret (v := .tuple #[.agg #[.bool false, .string ⟨#[]⟩, .slice none 0 0], .int .i64 6]) (by simp [results, Tryd.results70, go_sem, k0, k1, k2, hz]) rfl ⟨⟨rfl, by decide⟩, below_set3_alloc HB1.out hz _ _ _ _⟩
    · rw [decR_done _ h4l x u hT (by rw [hl]; exact hu)]
      have hu' : ¬ ((u : Int) < (s.size : Int)) := by omega
      clear hl h4l hT hread
      go_enter Tryd.func70, Tryd.ntmps70
      go_wp2_with fail
      refine (HR.out _).mono ?_
      rintro e w1 ⟨⟨l, t, a, m, c, rfl, hit⟩, B1⟩
      obtain ⟨k0, k1, k2, f0, f1, f2⟩ := res3 B1
      have HB1 : Hid (Below w.heap.size w w1) := ((Below.refl _ _).alloc (Nat.le_refl _) _).trans (B1.mono (by simp))
      have hz : w.heap.size < w1.heap.size := by have := B1.size; simp at this; omega
      have hmv : ∀ (W3 : World), (∀ b, b < w1.heap.size → b ≠ w.heap.size → W3.heap[b]? = w1.heap[b]?) → ItemIs 6 W3 (fun b => w.heap.size ≤ b) [.bool l, .string t, .slice a m c] x := fun W3 h3 => by
        refine ItemIs.move (w := w1) (S := fun b => w.heap.size + 1 ≤ b) (fun b hb hlt => ⟨by omega, h3 b hlt (by omega)⟩) 6 _ _ (by simpa using hit)
      have HMV : Hid (∀ (W3 : World), (∀ b, b < w1.heap.size → b ≠ w.heap.size → W3.heap[b]? = w1.heap[b]?) → ItemIs 6 W3 (fun b => w.heap.size ≤ b) [.bool l, .string t, .slice a m c] x) := hmv
      clear B1 hit hmv
      go_wp2_with fail
      exact bodyPost_ret (v := .tuple #[.agg #[.bool l, .string t, .slice a m c], .int .i64 0]) (by simp [results, Tryd.results70, go_sem, k0, k1, k2, hz]) rfl ⟨⟨l, t, a, m, c, rfl, HMV.out _ (fun b hlt hb => by
        rw [Below.heap_alloc _ _ _ (by simp [World.setCell]; omega)]
        simp [heap_setCell_other, hb])⟩, below_set3_alloc HB1.out hz _ _ _ _⟩
end Go.Proofs.YtenmjjpkbcogbaaDoor
