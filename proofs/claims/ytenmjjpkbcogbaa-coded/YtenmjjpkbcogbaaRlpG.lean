/-
  The walk of find.
-/
import Derived.Test.YtenmjjpkbcogbaaRlpF
namespace Go.Proofs.Ytenmjjpkbcogbaa
open Go.RowKit

def findA : Except Nat (Bool × Nat × Nat) → Value
  | .error _ => spanV false 0 0
  | .ok (l, f, n) => spanV l f (f + n)
def findE : Except Nat (Bool × Nat × Nat) → Nat
  | .error e => e
  | .ok _ => 0

theorem bcell {W w1 : World} (hb : Below W.heap.size W w1) : (∀ b o, b < W.heap.size → w1.cell? ⟨b, o, none⟩ = W.cell? ⟨b, o, none⟩) ∧ (∀ b o, b < W.heap.size → w1.frozen? ⟨b, o, none⟩ = W.frozen? ⟨b, o, none⟩) :=
  ⟨fun b o h => hb.cell (p := ⟨b, o, none⟩) h, fun b o h => hb.frozen (p := ⟨b, o, none⟩) h⟩
theorem res3 {w w1 : World} {x y z : Value} {T : TypeId} (hb : Below (w.alloc (.cells #[x, y, z] T)).heap.size (w.alloc (.cells #[x, y, z] T)) w1) :
    w1.cell? ⟨w.heap.size, 0, none⟩ = some x ∧ w1.cell? ⟨w.heap.size, 1, none⟩ = some y ∧ w1.cell? ⟨w.heap.size, 2, none⟩ = some z ∧ w1.frozen? ⟨w.heap.size, 0, none⟩ = false ∧ w1.frozen? ⟨w.heap.size, 1, none⟩ = false ∧ w1.frozen? ⟨w.heap.size, 2, none⟩ = false := by
  obtain ⟨h1, h2⟩ := bcell hb
  refine ⟨?_, ?_, ?_, ?_, ?_, ?_⟩
  · rw [h1 _ _ (by simp)]; simp
  · rw [h1 _ _ (by simp)]; simp
  · rw [h1 _ _ (by simp)]; simp
  · rw [h2 _ _ (by simp)]; simp
  · rw [h2 _ _ (by simp)]; simp
  · rw [h2 _ _ (by simp)]; simp
theorem drop1 (s : ByteArray) : (s.extract 1 s.size).data.toList = s.data.toList.drop 1 := by
  rw [Lib.extract_data, List.take_of_length_le (by simp)]

/-- what headR tells, by the first byte -/
theorem headR_nil (s : List UInt8) (h : s.length = 0) : headR s = .error 5 := by unfold headR; rw [if_pos h]
theorem headR_low (s : List UInt8) (h : s.length ≠ 0) (c : Nat) (hc : (s.getD 0 0).toNat = c) (h1 : c < 128) : headR s = .ok (false, 0, 1) := by
  unfold headR; rw [if_neg h, hc, if_pos h1]
theorem headR_short (s : List UInt8) (h : s.length ≠ 0) (c base : Nat) (hc : (s.getD 0 0).toNat = c) (h1 : ¬ c < 128) (hb : base = if 192 ≤ c then 192 else 128) (h2 : c - base ≤ 55) : headR s = spanR s (decide (192 ≤ c)) 1 (c - base) := by
  unfold headR; rw [if_neg h, hc, if_neg h1, ← hb, if_pos h2]
theorem headR_long (s : List UInt8) (h : s.length ≠ 0) (c base : Nat) (hc : (s.getD 0 0).toNat = c) (h1 : ¬ c < 128) (hb : base = if 192 ≤ c then 192 else 128) (h2 : ¬ c - base ≤ 55) :
    headR s = if lenErr (s.drop 1) (c - base - 55) = 0 then spanR s (decide (192 ≤ c)) (1 + (c - base) - 55) (lenVal (s.drop 1) (c - base - 55)) else .error (lenErr (s.drop 1) (c - base - 55)) := by
  have e1 : (s.drop 1).getD 0 0 = s.getD 1 0 := by rw [List.getD_eq_getElem?_getD, List.getElem?_drop, List.getD_eq_getElem?_getD]
  have hL : lenErr (s.drop 1) (c - base - 55) = if s.length - 1 < c - base - 55 then 5 else if (s.getD 1 0).toNat = 0 ∨ be ((s.drop 1).take (c - base - 55)) ≤ 55 then 7 else 0 := by
    unfold lenErr; rw [List.length_drop, e1]
  have hV : lenVal (s.drop 1) (c - base - 55) = if lenErr (s.drop 1) (c - base - 55) = 0 then be ((s.drop 1).take (c - base - 55)) else 0 := rfl
  unfold headR
  rw [if_neg h, hc, if_neg h1, ← hb, if_neg h2]
  by_cases h3 : s.length - 1 < c - base - 55
  · rw [if_pos h3]
    rw [if_pos h3] at hL
    rw [hL]; rfl
  · rw [if_neg h3]
    rw [if_neg h3] at hL
    by_cases h4 : (s.getD 1 0).toNat = 0 ∨ be ((s.drop 1).take (c - base - 55)) ≤ 55
    · rw [if_pos h4]
      rw [if_pos h4] at hL
      rw [hL]; rfl
    · rw [if_neg h4]
      rw [if_neg h4] at hL
      rw [hV, hL, if_pos rfl, if_pos rfl]

set_option maxRecDepth 100000 in
set_option maxHeartbeats 1000000 in
theorem find_calls (s : ByteArray) (hs : s.size ≤ 4096) (w : World) :
    Calls Try.prog 17 #[.string s] w fun e w' => e = .returned (.tuple #[findA (headR s.data.toList), .int .i64 (findE (headR s.data.toList))]) ∧ Below w.heap.size w w' := by
  have hl : s.data.toList.length = s.size := by simp
  by_cases h0 : s.size = 0
  · rw [headR_nil _ (by rw [hl]; exact h0)]
    have h0' : ((s.size : Int) == 0) = true := beq_iff_eq.2 (by omega)
    clear hl h0
    go_enter Try.func17, Try.ntmps17
    go_wp2_with fail
    exact bodyPost_ret (v := .tuple #[.agg #[.bool false, .int .i64 0, .int .i64 0], .int .i64 5]) (by simp [results, Try.results17, go_sem]) rfl ⟨rfl, (Below.refl _ _).alloc (Nat.le_refl _) _⟩
  have h0' : ((s.size : Int) == 0) = false := beq_eq_false_iff_ne.2 (by omega)
  have hp : 0 < s.size := by omega
  have hln : s.data.toList.length ≠ 0 := by rw [hl]; exact h0
  obtain ⟨c, hcc⟩ : ∃ c : Nat, (s[0]).toNat = c := ⟨_, rfl⟩
  have hcb : c < 256 := by rw [← hcc]; exact (s[0]).toNat_lt
  have hc : (s.data.toList.getD 0 0).toNat = c := by rw [List.getD_eq_getElem?_getD, List.getElem?_eq_getElem (by rw [hl]; exact hp)]; exact hcc
  by_cases h1 : c < 128
  · rw [headR_low _ hln c hc h1]
    have h1' : decide ((c : Int) < 128) = true := by simp; omega
    clear hl hln hc
    go_enter Try.func17, Try.ntmps17
    go_wp2_with fail
    exact bodyPost_ret (v := .tuple #[.agg #[.bool false, .int .i64 0, .int .i64 1], .int .i64 0]) (by simp [results, Try.results17, go_sem]) rfl ⟨rfl, (Below.refl _ _).alloc (Nat.le_refl _) _⟩
  have h1' : decide ((c : Int) < 128) = false := by simp; omega
  by_cases h2 : 192 ≤ c
  · have h2' : decide ((192 : Int) ≤ (c : Int)) = true := by simp; omega
    have hbase : 192 = if 192 ≤ c then 192 else 128 := by rw [if_pos h2]
    have hdl : decide (192 ≤ c) = true := decide_eq_true h2
    obtain ⟨n, hn⟩ : ∃ n : Nat, n = c - 192 := ⟨_, rfl⟩
    have hni : (c : Int) - 192 = (n : Int) := by omega
    have hnw : IntKind.u64.wrap (n : Int) = (n : Int) := by rw [IntKind.wrap_u64]; omega
    by_cases h55 : n ≤ 55
    · have h55' : decide ((n : Int) ≤ 55) = true := by simp; omega
      have hR := headR_short s.data.toList hln c 192 hc h1 hbase (by omega)
      rw [hdl, ← hn] at hR
      unfold spanR at hR
      rw [hl] at hR
      by_cases hsp : s.size - 1 < n
      · rw [if_pos hsp] at hR
        rw [hR]
        have HSP : Hid (s.size - 1 < n) := hsp
        clear hl hln hc hR hbase hdl hn hsp
        go_enter Try.func17, Try.ntmps17
        go_wp2_with fail
        refine (spanOf_bad s true 1 n hs hp HSP.out _).mono ?_
        rintro e w1 ⟨rfl, B1⟩
        obtain ⟨k0, k1, k2, f0, f1, f2⟩ := res3 B1
        have HB1 : Hid (Below w.heap.size w w1) := ((Below.refl _ _).alloc (Nat.le_refl _) _).trans (B1.mono (by simp))
        clear B1
        unfold spanV
        go_wp2_with fail
        exact bodyPost_ret (v := .tuple #[.agg #[.bool false, .int .i64 0, .int .i64 0], .int .i64 5]) (by simp [results, Try.results17, go_sem, k0, k1, k2]) rfl ⟨rfl, ((HB1.out.setCell (Nat.le_refl _) _).setCell (Nat.le_refl _) _).setCell (Nat.le_refl _) _⟩
      · rw [if_neg hsp] at hR
        rw [hR]
        have HSP : Hid (¬ s.size - 1 < n) := hsp
        clear hl hln hc hR hbase hdl hn hsp
        go_enter Try.func17, Try.ntmps17
        go_wp2_with fail
        refine (spanOf_ok s true 1 n hs hp HSP.out _).mono ?_
        rintro e w1 ⟨rfl, B1⟩
        obtain ⟨k0, k1, k2, f0, f1, f2⟩ := res3 B1
        have HB1 : Hid (Below w.heap.size w w1) := ((Below.refl _ _).alloc (Nat.le_refl _) _).trans (B1.mono (by simp))
        clear B1
        unfold spanV
        go_wp2_with fail
        exact bodyPost_ret (v := .tuple #[.agg #[.bool true, .int .i64 ((1 : Nat) : Int), .int .i64 ((1 + n : Nat) : Int)], .int .i64 0]) (by simp [results, Try.results17, go_sem, k0, k1, k2]) rfl ⟨rfl, ((HB1.out.setCell (Nat.le_refl _) _).setCell (Nat.le_refl _) _).setCell (Nat.le_refl _) _⟩
    · have h55' : decide ((n : Int) ≤ 55) = false := by simp; omega
      have hn64 : n ≤ 63 := by omega
      obtain ⟨q, hq⟩ : ∃ q : Nat, q = n - 55 := ⟨_, rfl⟩
      have hqi : (n : Int) - 55 = (q : Int) := by omega
      have hq1 : 1 ≤ q := by omega
      have hq8 : q ≤ 8 := by omega
      have hfi : 1 + (n : Int) - 55 = ((1 + q : Nat) : Int) := by omega
      have hR := headR_long s.data.toList hln c 192 hc h1 hbase (by omega)
      rw [hdl, ← hn, ← hq, show 1 + n - 55 = 1 + q by omega] at hR
      have hez : (s.extract 1 s.size).size ≤ 4096 := by simp only [ByteArray.size_extract]; omega
      have hlen := lengthOf_calls (s.extract 1 s.size) q hez hq1 hq8
      rw [drop1] at hlen
      have HLC : Hid (∀ w : World, Calls Try.prog 23 #[.string (s.extract 1 s.size), .int .i64 q] w fun e w' => e = .returned (.tuple #[.int .u64 (lenVal (s.data.toList.drop 1) q), .int .i64 (lenErr (s.data.toList.drop 1) q)]) ∧ w' = w) := hlen
      have hfq : lenErr (s.data.toList.drop 1) q = 0 → 1 + q ≤ s.size := by
        intro he
        unfold lenErr at he
        rw [List.length_drop, hl] at he
        by_cases h : s.size - 1 < q
        · rw [if_pos h] at he; cases he
        · omega
      generalize lenErr (s.data.toList.drop 1) q = E at *
      generalize lenVal (s.data.toList.drop 1) q = V at *
      by_cases hE : E = 0
      · subst hE
        rw [if_pos rfl] at hR
        unfold spanR at hR
        rw [hl] at hR
        have hfs := hfq rfl
        by_cases hsp : s.size - (1 + q) < V
        · rw [if_pos hsp] at hR
          rw [hR]
          have HSP : Hid (s.size - (1 + q) < V) := hsp
          have HFS : Hid (1 + q ≤ s.size) := hfs
          clear hl hln hc hR hbase hdl hn hsp hlen hq hfq hfs hez
          go_enter Try.func17, Try.ntmps17
          go_wp2_with fail
          refine (HLC.out _).mono ?_
          rintro e w0 ⟨rfl, hw0⟩
          subst hw0
          go_wp2_with fail
          refine (spanOf_bad s true (1 + q) V hs HFS.out HSP.out _).mono ?_
          rintro e w1 ⟨rfl, B1⟩
          obtain ⟨k0, k1, k2, f0, f1, f2⟩ := res3 B1
          have HB1 : Hid (Below w.heap.size w w1) := ((Below.refl _ _).alloc (Nat.le_refl _) _).trans (B1.mono (by simp))
          clear B1
          unfold spanV
          go_wp2_with fail
          exact bodyPost_ret (v := .tuple #[.agg #[.bool false, .int .i64 0, .int .i64 0], .int .i64 5]) (by simp [results, Try.results17, go_sem, k0, k1, k2]) rfl ⟨rfl, ((HB1.out.setCell (Nat.le_refl _) _).setCell (Nat.le_refl _) _).setCell (Nat.le_refl _) _⟩
        · rw [if_neg hsp] at hR
          rw [hR]
          have HSP : Hid (¬ s.size - (1 + q) < V) := hsp
          have HFS : Hid (1 + q ≤ s.size) := hfs
          clear hl hln hc hR hbase hdl hn hsp hlen hq hfq hfs hez
          go_enter Try.func17, Try.ntmps17
          go_wp2_with fail
          refine (HLC.out _).mono ?_
          rintro e w0 ⟨rfl, hw0⟩
          subst hw0
          go_wp2_with fail
          refine (spanOf_ok s true (1 + q) V hs HFS.out HSP.out _).mono ?_
          rintro e w1 ⟨rfl, B1⟩
          obtain ⟨k0, k1, k2, f0, f1, f2⟩ := res3 B1
          have HB1 : Hid (Below w.heap.size w w1) := ((Below.refl _ _).alloc (Nat.le_refl _) _).trans (B1.mono (by simp))
          clear B1
          unfold spanV
          go_wp2_with fail
          exact bodyPost_ret (v := .tuple #[.agg #[.bool true, .int .i64 ((1 + q : Nat) : Int), .int .i64 ((1 + q + V : Nat) : Int)], .int .i64 0]) (by simp [results, Try.results17, go_sem, k0, k1, k2]) rfl ⟨rfl, ((HB1.out.setCell (Nat.le_refl _) _).setCell (Nat.le_refl _) _).setCell (Nat.le_refl _) _⟩
      · rw [if_neg hE] at hR
        rw [hR]
        have hE' : ((E : Int) != 0) = true := by simp; omega
        clear hl hln hc hR hbase hdl hn hlen hq hfq hez
        go_enter Try.func17, Try.ntmps17
        go_wp2_with fail
        refine (HLC.out _).mono ?_
        rintro e w0 ⟨rfl, hw0⟩
        subst hw0
        go_wp2_with fail
        exact bodyPost_ret (v := .tuple #[.agg #[.bool false, .int .i64 0, .int .i64 0], .int .i64 (E : Int)]) (by simp [results, Try.results17, go_sem]) rfl ⟨rfl, (Below.refl _ _).alloc (Nat.le_refl _) _⟩
  · have h2' : decide ((192 : Int) ≤ (c : Int)) = false := by simp; omega
    have hbase : 128 = if 192 ≤ c then 192 else 128 := by rw [if_neg h2]
    have hdl : decide (192 ≤ c) = false := decide_eq_false h2
    obtain ⟨n, hn⟩ : ∃ n : Nat, n = c - 128 := ⟨_, rfl⟩
    have hni : (c : Int) - 128 = (n : Int) := by omega
    have hnw : IntKind.u64.wrap (n : Int) = (n : Int) := by rw [IntKind.wrap_u64]; omega
    by_cases h55 : n ≤ 55
    · have h55' : decide ((n : Int) ≤ 55) = true := by simp; omega
      have hR := headR_short s.data.toList hln c 128 hc h1 hbase (by omega)
      rw [hdl, ← hn] at hR
      unfold spanR at hR
      rw [hl] at hR
      by_cases hsp : s.size - 1 < n
      · rw [if_pos hsp] at hR
        rw [hR]
        have HSP : Hid (s.size - 1 < n) := hsp
        clear hl hln hc hR hbase hdl hn hsp
        go_enter Try.func17, Try.ntmps17
        go_wp2_with fail
        refine (spanOf_bad s false 1 n hs hp HSP.out _).mono ?_
        rintro e w1 ⟨rfl, B1⟩
        obtain ⟨k0, k1, k2, f0, f1, f2⟩ := res3 B1
        have HB1 : Hid (Below w.heap.size w w1) := ((Below.refl _ _).alloc (Nat.le_refl _) _).trans (B1.mono (by simp))
        clear B1
        unfold spanV
        go_wp2_with fail
        exact bodyPost_ret (v := .tuple #[.agg #[.bool false, .int .i64 0, .int .i64 0], .int .i64 5]) (by simp [results, Try.results17, go_sem, k0, k1, k2]) rfl ⟨rfl, ((HB1.out.setCell (Nat.le_refl _) _).setCell (Nat.le_refl _) _).setCell (Nat.le_refl _) _⟩
      · rw [if_neg hsp] at hR
        rw [hR]
        have HSP : Hid (¬ s.size - 1 < n) := hsp
        clear hl hln hc hR hbase hdl hn hsp
        go_enter Try.func17, Try.ntmps17
        go_wp2_with fail
        refine (spanOf_ok s false 1 n hs hp HSP.out _).mono ?_
        rintro e w1 ⟨rfl, B1⟩
        obtain ⟨k0, k1, k2, f0, f1, f2⟩ := res3 B1
        have HB1 : Hid (Below w.heap.size w w1) := ((Below.refl _ _).alloc (Nat.le_refl _) _).trans (B1.mono (by simp))
        clear B1
        unfold spanV
        go_wp2_with fail
        exact bodyPost_ret (v := .tuple #[.agg #[.bool false, .int .i64 ((1 : Nat) : Int), .int .i64 ((1 + n : Nat) : Int)], .int .i64 0]) (by simp [results, Try.results17, go_sem, k0, k1, k2]) rfl ⟨rfl, ((HB1.out.setCell (Nat.le_refl _) _).setCell (Nat.le_refl _) _).setCell (Nat.le_refl _) _⟩
    · have h55' : decide ((n : Int) ≤ 55) = false := by simp; omega
      have hn64 : n ≤ 63 := by omega
      obtain ⟨q, hq⟩ : ∃ q : Nat, q = n - 55 := ⟨_, rfl⟩
      have hqi : (n : Int) - 55 = (q : Int) := by omega
      have hq1 : 1 ≤ q := by omega
      have hq8 : q ≤ 8 := by omega
      have hfi : 1 + (n : Int) - 55 = ((1 + q : Nat) : Int) := by omega
      have hR := headR_long s.data.toList hln c 128 hc h1 hbase (by omega)
      rw [hdl, ← hn, ← hq, show 1 + n - 55 = 1 + q by omega] at hR
      have hez : (s.extract 1 s.size).size ≤ 4096 := by simp only [ByteArray.size_extract]; omega
      have hlen := lengthOf_calls (s.extract 1 s.size) q hez hq1 hq8
      rw [drop1] at hlen
      have HLC : Hid (∀ w : World, Calls Try.prog 23 #[.string (s.extract 1 s.size), .int .i64 q] w fun e w' => e = .returned (.tuple #[.int .u64 (lenVal (s.data.toList.drop 1) q), .int .i64 (lenErr (s.data.toList.drop 1) q)]) ∧ w' = w) := hlen
      have hfq : lenErr (s.data.toList.drop 1) q = 0 → 1 + q ≤ s.size := by
        intro he
        unfold lenErr at he
        rw [List.length_drop, hl] at he
        by_cases h : s.size - 1 < q
        · rw [if_pos h] at he; cases he
        · omega
      generalize lenErr (s.data.toList.drop 1) q = E at *
      generalize lenVal (s.data.toList.drop 1) q = V at *
      by_cases hE : E = 0
      · subst hE
        rw [if_pos rfl] at hR
        unfold spanR at hR
        rw [hl] at hR
        have hfs := hfq rfl
        by_cases hsp : s.size - (1 + q) < V
        · rw [if_pos hsp] at hR
          rw [hR]
          have HSP : Hid (s.size - (1 + q) < V) := hsp
          have HFS : Hid (1 + q ≤ s.size) := hfs
          clear hl hln hc hR hbase hdl hn hsp hlen hq hfq hfs hez
          go_enter Try.func17, Try.ntmps17
          go_wp2_with fail
          refine (HLC.out _).mono ?_
          rintro e w0 ⟨rfl, hw0⟩
          subst hw0
          go_wp2_with fail
          refine (spanOf_bad s false (1 + q) V hs HFS.out HSP.out _).mono ?_
          rintro e w1 ⟨rfl, B1⟩
          obtain ⟨k0, k1, k2, f0, f1, f2⟩ := res3 B1
          have HB1 : Hid (Below w.heap.size w w1) := ((Below.refl _ _).alloc (Nat.le_refl _) _).trans (B1.mono (by simp))
          clear B1
          unfold spanV
          go_wp2_with fail
          exact bodyPost_ret (v := .tuple #[.agg #[.bool false, .int .i64 0, .int .i64 0], .int .i64 5]) (by simp [results, Try.results17, go_sem, k0, k1, k2]) rfl ⟨rfl, ((HB1.out.setCell (Nat.le_refl _) _).setCell (Nat.le_refl _) _).setCell (Nat.le_refl _) _⟩
        · rw [if_neg hsp] at hR
          rw [hR]
          have HSP : Hid (¬ s.size - (1 + q) < V) := hsp
          have HFS : Hid (1 + q ≤ s.size) := hfs
          clear hl hln hc hR hbase hdl hn hsp hlen hq hfq hfs hez
          go_enter Try.func17, Try.ntmps17
          go_wp2_with fail
          refine (HLC.out _).mono ?_
          rintro e w0 ⟨rfl, hw0⟩
          subst hw0
          go_wp2_with fail
          refine (spanOf_ok s false (1 + q) V hs HFS.out HSP.out _).mono ?_
          rintro e w1 ⟨rfl, B1⟩
          obtain ⟨k0, k1, k2, f0, f1, f2⟩ := res3 B1
          have HB1 : Hid (Below w.heap.size w w1) := ((Below.refl _ _).alloc (Nat.le_refl _) _).trans (B1.mono (by simp))
          clear B1
          unfold spanV
          go_wp2_with fail
          exact bodyPost_ret (v := .tuple #[.agg #[.bool false, .int .i64 ((1 + q : Nat) : Int), .int .i64 ((1 + q + V : Nat) : Int)], .int .i64 0]) (by simp [results, Try.results17, go_sem, k0, k1, k2]) rfl ⟨rfl, ((HB1.out.setCell (Nat.le_refl _) _).setCell (Nat.le_refl _) _).setCell (Nat.le_refl _) _⟩
      · rw [if_neg hE] at hR
        rw [hR]
        have hE' : ((E : Int) != 0) = true := by simp; omega
        clear hl hln hc hR hbase hdl hn hlen hq hfq hez
        go_enter Try.func17, Try.ntmps17
        go_wp2_with fail
        refine (HLC.out _).mono ?_
        rintro e w0 ⟨rfl, hw0⟩
        subst hw0
        go_wp2_with fail
        exact bodyPost_ret (v := .tuple #[.agg #[.bool false, .int .i64 0, .int .i64 0], .int .i64 (E : Int)]) (by simp [results, Try.results17, go_sem]) rfl ⟨rfl, (Below.refl _ _).alloc (Nat.le_refl _) _⟩
end Go.Proofs.Ytenmjjpkbcogbaa
