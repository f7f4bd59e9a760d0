/-
  The walk of read, given that of readAll.
-/
import Derived.Test.YtenmjjpkbcogbaaRlpG
namespace Go.Proofs.Ytenmjjpkbcogbaa
open Go.RowKit

/-- what read leaves -/
def ReadOut (d : Nat) (w : World) (r : Except Nat (Tree × Nat)) (e : Ending) (w' : World) : Prop :=
  match r with
  | .error c => e = .returned (.tuple #[.agg #[.bool false, .string ByteArray.empty, .slice none 0 0], .int .i64 0, .int .i64 c])
  | .ok (x, u) => ∃ l t a m c, e = .returned (.tuple #[.agg #[.bool l, .string t, .slice a m c], .int .i64 u, .int .i64 0]) ∧ ItemIs d w' (fun b => w.heap.size ≤ b) [.bool l, .string t, .slice a m c] x
def ReadSaid (d : Nat) : Prop := ∀ (w : World) (s : ByteArray) (lv : Nat), s.size ≤ 4096 → lv + d = 7 →
  Calls Try.prog 13 #[.string s, .int .i64 lv] w fun e w' => ReadOut d w (takeR d s.data.toList) e w' ∧ Below w.heap.size w w'
/-- what readAll leaves -/
def AllOut (d : Nat) (w : World) (r : Except Nat (List Tree)) (e : Ending) (w' : World) : Prop :=
  match r with
  | .error c => e = .returned (.tuple #[.slice none 0 0, .int .i64 c]) ∧ c ≠ 0
  | .ok ks => ∃ k xs, e = .returned (.tuple #[k, .int .i64 0]) ∧ RowIs w' (fun b => w.heap.size ≤ b) k ks.length xs ∧ ks.length ≤ 64 ∧ ∀ i, i < ks.length → ItemIs d w' (fun b => w.heap.size ≤ b) ((xs.drop (3 * i)).take 3) (ks.getD i (textT []))
def ReadAllSaid (d : Nat) : Prop := ∀ (w : World) (s : ByteArray) (lv : Nat), s.size ≤ 4096 → lv + d = 7 →
  Calls Try.prog 19 #[.string s, .int .i64 lv] w fun e w' => AllOut d w (takeAll (takeR d) 64 s.data.toList) e w' ∧ Below w.heap.size w w'

theorem spanR_err (s : List UInt8) (l : Bool) (f n c : Nat) (h : spanR s l f n = .error c) : c = 5 := by
  unfold spanR at h
  by_cases h1 : s.length - f < n
  · rw [if_pos h1] at h; cases h; rfl
  · rw [if_neg h1] at h; cases h
theorem headR_err (s : List UInt8) (c : Nat) (h : headR s = .error c) : c = 5 ∨ c = 7 := by
  by_cases h0 : s.length = 0
  · rw [headR_nil s h0] at h; cases h; exact .inl rfl
  by_cases h1 : (s.getD 0 0).toNat < 128
  · rw [headR_low s h0 _ rfl h1] at h; cases h
  by_cases h2 : (s.getD 0 0).toNat - (if 192 ≤ (s.getD 0 0).toNat then 192 else 128) ≤ 55
  · rw [headR_short s h0 _ _ rfl h1 rfl h2] at h
    exact .inl (spanR_err _ _ _ _ _ h)
  rw [headR_long s h0 _ _ rfl h1 rfl h2] at h
  generalize (s.getD 0 0).toNat - (if 192 ≤ (s.getD 0 0).toNat then 192 else 128) - 55 = q at h
  by_cases h3 : lenErr (s.drop 1) q = 0
  · rw [if_pos h3] at h
    exact .inl (spanR_err _ _ _ _ _ h)
  · rw [if_neg h3] at h
    cases h
    unfold lenErr at h3 ⊢
    by_cases h4 : (s.drop 1).length < q
    · rw [if_pos h4]; exact .inl rfl
    · rw [if_neg h4] at h3 ⊢
      by_cases h5 : ((s.drop 1).getD 0 0).toNat = 0 ∨ be ((s.drop 1).take q) ≤ 55
      · rw [if_pos h5]; exact .inr rfl
      · rw [if_neg h5] at h3; exact absurd rfl h3
theorem takeR_err (d : Nat) (s : List UInt8) (c : Nat) (h : headR s = .error c) : takeR d s = .error c := by unfold takeR; rw [h]
theorem takeR_bare (d : Nat) (s : List UInt8) (f n : Nat) (h : headR s = .ok (false, f, n)) (hf : 0 < f) (hb : bareB ((s.drop f).take n) = true) : takeR d s = .error 7 := by
  unfold takeR; rw [h]; simp only; rw [if_pos trivial, if_pos ⟨hf, hb⟩]
theorem takeR_text (d : Nat) (s : List UInt8) (f n : Nat) (h : headR s = .ok (false, f, n)) (hb : ¬ (0 < f ∧ bareB ((s.drop f).take n) = true)) : takeR d s = .ok (textT ((s.drop f).take n), f + n) := by
  unfold takeR; rw [h]; simp only; rw [if_pos trivial, if_neg hb]
theorem takeR_deep (s : List UInt8) (f n : Nat) (h : headR s = .ok (true, f, n)) : takeR 0 s = .error 8 := by
  unfold takeR; rw [h]; simp
theorem takeR_kids_err (d : Nat) (s : List UInt8) (f n c : Nat) (h : headR s = .ok (true, f, n)) (hk : takeAll (takeR d) 64 ((s.drop f).take n) = .error c) : takeR (d + 1) s = .error c := by
  conv => lhs; unfold takeR
  rw [h]; simp only [Bool.true_eq_false, if_false]; rw [hk]
theorem takeR_kids_ok (d : Nat) (s : List UInt8) (f n : Nat) (ks : List Tree) (h : headR s = .ok (true, f, n)) (hk : takeAll (takeR d) 64 ((s.drop f).take n) = .ok ks) : takeR (d + 1) s = .ok (listT ks, f + n) := by
  conv => lhs; unfold takeR
  rw [h]; simp only [Bool.true_eq_false, if_false]; rw [hk]
theorem cut_data (s : ByteArray) (f t : Nat) : (s.extract f t).data.toList = (s.data.toList.drop f).take (t - f) := Lib.extract_data s f t

theorem res4 {w w1 w2 : World} {x y z p q r : Value} {T : TypeId} (hz : w.heap.size < w1.heap.size) (k0 : w1.cell? ⟨w.heap.size, 0, none⟩ = some x) (k1 : w1.cell? ⟨w.heap.size, 1, none⟩ = some y) (k2 : w1.cell? ⟨w.heap.size, 2, none⟩ = some z)
    (f0 : w1.frozen? ⟨w.heap.size, 0, none⟩ = false) (f1 : w1.frozen? ⟨w.heap.size, 1, none⟩ = false) (f2 : w1.frozen? ⟨w.heap.size, 2, none⟩ = false)
    (hb : Below (w1.alloc (.cells #[p, q, r] T)).heap.size (w1.alloc (.cells #[p, q, r] T)) w2) :
    w2.cell? ⟨w.heap.size, 0, none⟩ = some x ∧ w2.cell? ⟨w.heap.size, 1, none⟩ = some y ∧ w2.cell? ⟨w.heap.size, 2, none⟩ = some z ∧ w2.frozen? ⟨w.heap.size, 0, none⟩ = false ∧ w2.frozen? ⟨w.heap.size, 1, none⟩ = false ∧ w2.frozen? ⟨w.heap.size, 2, none⟩ = false ∧ w2.cell? ⟨w1.heap.size, 2, none⟩ = some r := by
  obtain ⟨h1, h2⟩ := bcell hb
  have hlt : w.heap.size < (w1.alloc (.cells #[p, q, r] T)).heap.size := by simp; omega
  refine ⟨?_, ?_, ?_, ?_, ?_, ?_, ?_⟩
  · rw [h1 _ _ hlt, World.cell?_alloc_lt _ _ _ hz]; exact k0
  · rw [h1 _ _ hlt, World.cell?_alloc_lt _ _ _ hz]; exact k1
  · rw [h1 _ _ hlt, World.cell?_alloc_lt _ _ _ hz]; exact k2
  · rw [h2 _ _ hlt, World.frozen?_alloc_past _ _ _ hz]; exact f0
  · rw [h2 _ _ hlt, World.frozen?_alloc_past _ _ _ hz]; exact f1
  · rw [h2 _ _ hlt, World.frozen?_alloc_past _ _ _ hz]; exact f2
  · rw [h1 _ _ (by simp)]; simp
theorem below_set3 {n : Nat} {w w1 : World} (h : Below n w w1) (a b c : Value) : Below n w (((w1.setCell ⟨n, 0, none⟩ a).setCell ⟨n, 1, none⟩ b).setCell ⟨n, 2, none⟩ c) :=
  ((h.setCell (Nat.le_refl _) _).setCell (Nat.le_refl _) _).setCell (Nat.le_refl _) _
theorem below_set3_alloc {n : Nat} {w w1 : World} (h : Below n w w1) (hn : n < w1.heap.size) (a b c : Value) (o : Obj) : Below n w ((((w1.setCell ⟨n, 0, none⟩ a).setCell ⟨n, 1, none⟩ b).setCell ⟨n, 2, none⟩ c).alloc o) :=
  (below_set3 h a b c).alloc (by simp [World.setCell]; omega) o

set_option maxRecDepth 100000 in
set_option maxHeartbeats 1000000 in
theorem read_of (d : Nat) (ih : ∀ e, d = e + 1 → ReadAllSaid e) : ReadSaid d := by
  intro w s lv hs hlv
  have hl : s.data.toList.length = s.size := by simp
  have hfind := fun w => find_calls s hs w
  cases hh : headR s.data.toList with
  | error c =>
    rw [takeR_err d _ c hh]
    have hcc := headR_err _ _ hh
    rw [hh] at hfind
    have HF : Hid (∀ w, Calls Try.prog 17 #[.string s] w fun e w' => e = .returned (.tuple #[.agg #[.bool false, .int .i64 0, .int .i64 0], .int .i64 c]) ∧ Below w.heap.size w w') := hfind
    have hc' : ((c : Int) != 0) = true := by simp; omega
    clear hfind hh hl hcc
    go_enter Try.func13, Try.ntmps13
    go_wp2_with fail
    refine (HF.out _).mono ?_
    rintro e w1 ⟨rfl, B1⟩
    obtain ⟨k0, k1, k2, f0, f1, f2⟩ := res3 B1
    have HB1 : Hid (Below w.heap.size w w1) := ((Below.refl _ _).alloc (Nat.le_refl _) _).trans (B1.mono (by simp))
    have hz : w.heap.size < w1.heap.size := by have := B1.size; simp at this; omega
    clear B1
    go_wp2_with fail
    exact bodyPost_ret (v := .tuple #[.agg #[.bool false, .string ⟨#[]⟩, .slice none 0 0], .int .i64 0, .int .i64 (c : Int)]) (by simp [results, Try.results13, go_sem, k0, k1, k2, hz]) rfl ⟨rfl, below_set3_alloc HB1.out hz _ _ _ _⟩
  | ok lfn =>
    obtain ⟨l, f, n⟩ := lfn
    obtain ⟨hs0, hcase⟩ := headR_ok _ l f n hh
    have hfn : f + n ≤ s.size := by
      rcases hcase with ⟨_, rfl, rfl, _⟩ | ⟨_, h, _⟩
      · rw [hl] at hs0; omega
      · rw [hl] at h; exact h
    rw [hh] at hfind
    have HF : Hid (∀ w, Calls Try.prog 17 #[.string s] w fun e w' => e = .returned (.tuple #[.agg #[.bool l, .int .i64 f, .int .i64 ((f + n : Nat) : Int)], .int .i64 0]) ∧ Below w.heap.size w w') := hfind
    have hcd : (s.extract f (f + n)).data.toList = (s.data.toList.drop f).take n := by rw [cut_data, Nat.add_sub_cancel_left]
    have hcz : (s.extract f (f + n)).size = n := by simp only [ByteArray.size_extract]; omega
    have HCD : Hid ((s.extract f (f + n)).data.toList = (s.data.toList.drop f).take n) := hcd
    obtain ⟨t, ht⟩ : ∃ t : Nat, t = f + n := ⟨_, rfl⟩
    rw [← ht] at hfn
    have hft : f ≤ t := by omega
    have HFT : Hid (t = f + n) := ht
    cases l with
    | false =>
      by_cases hb : 0 < f ∧ bareB ((s.data.toList.drop f).take n) = true
      · rw [takeR_bare d _ f n hh hb.1 hb.2]
        have hf0 : (0 : Int) < (f : Int) := by omega
        have hbare := fun w => bare_calls (s.extract f t) w
        rw [ht, hcd, hb.2] at hbare
        have HBA : Hid (∀ w, Calls Try.prog 18 #[.string (s.extract f t)] w fun e w' => e = .returned (.bool true) ∧ w' = w) := by rw [ht]; exact hbare
        clear hfind hh hl hs0 hcase hb hbare hcd hcz ih
        rw [← ht] at HF
        clear ht
        go_enter Try.func13, Try.ntmps13
        go_wp2_with fail
        refine (HF.out _).mono ?_
        rintro e w1 ⟨rfl, B1⟩
        obtain ⟨k0, k1, k2, f0, f1, f2⟩ := res3 B1
        have HB1 : Hid (Below w.heap.size w w1) := ((Below.refl _ _).alloc (Nat.le_refl _) _).trans (B1.mono (by simp))
        have hz : w.heap.size < w1.heap.size := by have := B1.size; simp at this; omega
        clear B1
        go_wp2_with fail
        refine (HBA.out _).mono ?_
        rintro e w2 ⟨rfl, hw2⟩
        subst hw2
        go_wp2_with fail
        exact bodyPost_ret (v := .tuple #[.agg #[.bool false, .string ⟨#[]⟩, .slice none 0 0], .int .i64 0, .int .i64 7]) (by simp [results, Try.results13, go_sem, k0, k1, k2, hz]) rfl ⟨rfl, below_set3_alloc HB1.out hz _ _ _ _⟩
      · rw [takeR_text d _ f n hh hb]
        have HTS : Hid (∀ W : World, ItemIs d W (fun b => w.heap.size ≤ b) [.bool false, .string (s.extract f t), .slice none 0 0] (textT ((s.data.toList.drop f).take n))) := by
          intro W
          have := item_text d W (fun b => w.heap.size ≤ b) (s.extract f t) (.slice none 0 0) (by rw [ht, hcz]; omega)
          rw [ht, hcd, ← ht] at this; exact this
        by_cases hf0 : f = 0
        · subst hf0
          rw [← ht] at HF
          clear hfind hh hl hs0 hcase hb hcd hcz ih ht
          go_enter Try.func13, Try.ntmps13
          go_wp2_with fail
          refine (HF.out _).mono ?_
          rintro e w1 ⟨rfl, B1⟩
          obtain ⟨k0, k1, k2, f0, f1, f2⟩ := res3 B1
          have HB1 : Hid (Below w.heap.size w w1) := ((Below.refl _ _).alloc (Nat.le_refl _) _).trans (B1.mono (by simp))
          have hz : w.heap.size < w1.heap.size := by have := B1.size; simp at this; omega
          clear B1
          go_wp2_with fail
          go_region
          all_goals go_wp2_with fail
          all_goals exact bodyPost_ret (v := .tuple #[.agg #[.bool false, .string (s.extract 0 t), .slice none 0 0], .int .i64 (t : Int), .int .i64 0]) (by simp [results, Try.results13, go_sem, k0, k1, k2, hz]) rfl ⟨⟨false, s.extract 0 t, none, 0, 0, by rw [← HFT.out], HTS.out _⟩, (below_set3_alloc HB1.out hz _ _ _ _).drew⟩
        · have hbf : bareB ((s.data.toList.drop f).take n) = false := by
            cases h : bareB ((s.data.toList.drop f).take n) with
            | false => rfl
            | true => exact absurd ⟨by omega, h⟩ hb
          have hf0' : (0 : Int) < (f : Int) := by omega
          have hbare := fun w => bare_calls (s.extract f t) w
          rw [ht, hcd, hbf] at hbare
          have HBA : Hid (∀ w, Calls Try.prog 18 #[.string (s.extract f t)] w fun e w' => e = .returned (.bool false) ∧ w' = w) := by rw [ht]; exact hbare
          rw [← ht] at HF
          clear hfind hh hl hs0 hcase hb hcd hcz ih ht hbare hbf
          go_enter Try.func13, Try.ntmps13
          go_wp2_with fail
          refine (HF.out _).mono ?_
          rintro e w1 ⟨rfl, B1⟩
          obtain ⟨k0, k1, k2, f0, f1, f2⟩ := res3 B1
          have HB1 : Hid (Below w.heap.size w w1) := ((Below.refl _ _).alloc (Nat.le_refl _) _).trans (B1.mono (by simp))
          have hz : w.heap.size < w1.heap.size := by have := B1.size; simp at this; omega
          clear B1
          go_wp2_with fail
          refine (HBA.out _).mono ?_
          rintro e w2 ⟨rfl, hw2⟩
          subst hw2
          go_wp2_with fail
          go_region
          all_goals go_wp2_with fail
          all_goals exact bodyPost_ret (v := .tuple #[.agg #[.bool false, .string (s.extract f t), .slice none 0 0], .int .i64 (t : Int), .int .i64 0]) (by simp [results, Try.results13, go_sem, k0, k1, k2, hz]) rfl ⟨⟨false, s.extract f t, none, 0, 0, by rw [← HFT.out], HTS.out _⟩, (below_set3_alloc HB1.out hz _ _ _ _).drew⟩
    | true =>
      cases d with
      | zero =>
        rw [takeR_deep _ f n hh]
        have hl6 : (6 : Int) < (lv : Int) := by omega
        rw [← ht] at HF
        clear hfind hh hl hs0 hcase hcd hcz ih ht
        go_enter Try.func13, Try.ntmps13
        go_wp2_with fail
        refine (HF.out _).mono ?_
        rintro e w1 ⟨rfl, B1⟩
        obtain ⟨k0, k1, k2, f0, f1, f2⟩ := res3 B1
        have HB1 : Hid (Below w.heap.size w w1) := ((Below.refl _ _).alloc (Nat.le_refl _) _).trans (B1.mono (by simp))
        have hz : w.heap.size < w1.heap.size := by have := B1.size; simp at this; omega
        clear B1
        go_wp2_with fail
        exact bodyPost_ret (v := .tuple #[.agg #[.bool false, .string ⟨#[]⟩, .slice none 0 0], .int .i64 0, .int .i64 8]) (by simp [results, Try.results13, go_sem, k0, k1, k2, hz]) rfl ⟨rfl, below_set3_alloc HB1.out hz _ _ _ _⟩
      | succ d =>
        have hl6 : ¬ ((6 : Int) < (lv : Int)) := by omega
        have hall := fun w => ih d rfl w (s.extract f t) (lv + 1) (by rw [ht, hcz]; omega) (by omega)
        have ecast : ((lv + 1 : Nat) : Int) = (lv : Int) + 1 := by omega
        rw [ht, hcd, ← ht, ecast] at hall
        cases hk : takeAll (takeR d) 64 ((s.data.toList.drop f).take n) with
        | error c =>
          rw [takeR_kids_err d _ f n c hh hk]
          rw [hk] at hall
          have HAL : Hid (∀ w : World, Calls Try.prog 19 #[.string (s.extract f t), .int .i64 ((lv : Int) + 1)] w fun e w' => AllOut d w (.error c) e w' ∧ Below w.heap.size w w') := hall
          rw [← ht] at HF
          clear hfind hh hl hs0 hcase hcd hcz ih ht hall hk ecast
          go_enter Try.func13, Try.ntmps13
          go_wp2_with fail
          refine (HF.out _).mono ?_
          rintro e w1 ⟨rfl, B1⟩
          obtain ⟨k0, k1, k2, f0, f1, f2⟩ := res3 B1
          have HB1 : Hid (Below w.heap.size w w1) := ((Below.refl _ _).alloc (Nat.le_refl _) _).trans (B1.mono (by simp))
          have hz : w.heap.size < w1.heap.size := by have := B1.size; simp at this; omega
          clear B1
          go_wp2_with fail
          refine (HAL.out _).mono ?_
          rintro e w2 ⟨⟨rfl, hc0⟩, B2⟩
          have hc0' : ((c : Int) != 0) = true := by simp; omega
          obtain ⟨m0, m1, m2, q0, q1, q2, a2⟩ := res4 hz k0 k1 k2 f0 f1 f2 B2
          have HB2 : Hid (Below w.heap.size w w2) := (HB1.out.alloc (Nat.le_of_lt hz) _).trans (B2.mono (by simp; omega))
          have hz2 : w.heap.size < w2.heap.size := by have := B2.size; simp at this; omega
          clear B2 HB1
          go_wp2_with fail
          exact bodyPost_ret (v := .tuple #[.agg #[.bool false, .string ⟨#[]⟩, .slice none 0 0], .int .i64 0, .int .i64 (c : Int)]) (by simp [results, Try.results13, go_sem, m0, m1, m2]) rfl ⟨rfl, below_set3 HB2.out _ _ _⟩
        | ok ks =>
          rw [takeR_kids_ok d _ f n ks hh hk]
          rw [hk] at hall
          have HAL : Hid (∀ w : World, Calls Try.prog 19 #[.string (s.extract f t), .int .i64 ((lv : Int) + 1)] w fun e w' => AllOut d w (.ok ks) e w' ∧ Below w.heap.size w w') := hall
          rw [← ht] at HF
          clear hfind hh hl hs0 hcase hcd hcz ih ht hall hk ecast
          go_enter Try.func13, Try.ntmps13
          go_wp2_with fail
          refine (HF.out _).mono ?_
          rintro e w1 ⟨rfl, B1⟩
          obtain ⟨k0, k1, k2, f0, f1, f2⟩ := res3 B1
          have HB1 : Hid (Below w.heap.size w w1) := ((Below.refl _ _).alloc (Nat.le_refl _) _).trans (B1.mono (by simp))
          have hz : w.heap.size < w1.heap.size := by have := B1.size; simp at this; omega
          clear B1
          go_wp2_with fail
          refine (HAL.out _).mono ?_
          rintro e w2 ⟨⟨k, xs, rfl, hrow, h64, hkids⟩, B2⟩
          obtain ⟨ka, kc, hkv⟩ : ∃ ka kc, k = .slice ka ks.length kc := by
            rcases hrow.lie with ⟨h0, a, c, rfl⟩ | ⟨b, o, c, rfl, _⟩
            · exact ⟨a, c, by rw [h0]⟩
            · exact ⟨_, c, rfl⟩
          subst hkv
          obtain ⟨kn, hkn⟩ : ∃ kn, kn = ks.length := ⟨_, rfl⟩
          have HKN : Hid (kn = ks.length) := hkn
          obtain ⟨m0, m1, m2, q0, q1, q2, a2⟩ := res4 hz k0 k1 k2 f0 f1 f2 B2
          have HB2 : Hid (Below w.heap.size w w2) := (HB1.out.alloc (Nat.le_of_lt hz) _).trans (B2.mono (by simp; omega))
          have hz2 : w.heap.size < w2.heap.size := by have := B2.size; simp at this; omega
          have hmv : ∀ (W3 : World), (∀ b, b ≠ w.heap.size → W3.heap[b]? = w2.heap[b]?) → ItemIs (d + 1) W3 (fun b => w.heap.size ≤ b) [.bool true, .string ⟨#[]⟩, .slice ka ks.length kc] (listT ks) := fun W3 h3 => by
            have hS : ∀ b, (w1.heap.size + 1 ≤ b) → b < w2.heap.size → (w.heap.size ≤ b) ∧ W3.heap[b]? = w2.heap[b]? := fun b hb _ => ⟨by omega, h3 b (by omega)⟩
            have hrow' : RowIs w2 (fun b => w1.heap.size + 1 ≤ b) (.slice ka ks.length kc) ks.length xs := by simpa using hrow
            refine item_list d W3 _ _ (.slice ka ks.length kc) ks xs (hrow'.move hS) (by omega) (fun i hi => ItemIs.move (w := w2) (S := fun b => w1.heap.size + 1 ≤ b) hS d _ _ (by simpa using hkids i hi))
          have HMV : Hid (∀ (W3 : World), (∀ b, b ≠ w.heap.size → W3.heap[b]? = w2.heap[b]?) → ItemIs (d + 1) W3 (fun b => w.heap.size ≤ b) [.bool true, .string ⟨#[]⟩, .slice ka kn kc] (listT ks)) := by rw [hkn]; exact hmv
          rw [← hkn]
          clear B2 HB1 hrow hkids hmv hkn
          go_wp2_with fail
          go_region
          all_goals go_wp2_with fail
          all_goals exact bodyPost_ret (v := .tuple #[.agg #[.bool true, .string ⟨#[]⟩, .slice ka kn kc], .int .i64 (t : Int), .int .i64 0]) (by simp [results, Try.results13, go_sem, m0, m1, m2]) rfl ⟨⟨true, ⟨#[]⟩, ka, kn, kc, by rw [← HFT.out], HMV.out _ (fun b hb => by simp [heap_setCell_other, hb, World.drew])⟩, (below_set3 HB2.out _ _ _).drew⟩
end Go.Proofs.Ytenmjjpkbcogbaa
