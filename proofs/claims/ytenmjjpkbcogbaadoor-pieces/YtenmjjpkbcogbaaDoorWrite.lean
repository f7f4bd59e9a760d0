/-
  The walk of Write.
-/
import Derived.Test.YtenmjjpkbcogbaaDoorMix
namespace Go.Proofs.YtenmjjpkbcogbaaDoor
open Go.RowKit

def flipF (ws : Nat → Int) (t c : Nat) : Nat → Int := setF ws (t / 8) (xo (ws (t / 8)) (IntKind.u64.wrap (c * 2 ^ (t % 8 * 8))))
def byteF (st : (Nat → Int) × Nat) (c : UInt8) : (Nat → Int) × Nat :=
  if st.2 + 1 = 136 then (permF (flipF st.1 st.2 c.toNat), 0) else (flipF st.1 st.2 c.toNat, st.2 + 1)
def writeF (st : (Nat → Int) × Nat) (l : List UInt8) : (Nat → Int) × Nat := l.foldl byteF st
theorem byteF_lt (st : (Nat → Int) × Nat) (c : UInt8) (h : st.2 < 136) : (byteF st c).2 < 136 := by
  unfold byteF
  split
  · exact (by decide : 0 < 136)
  · show st.2 + 1 < 136; omega
theorem writeF_lt (l : List UInt8) : ∀ (st : (Nat → Int) × Nat), st.2 < 136 → (writeF st l).2 < 136 := by
  induction l with
  | nil => intro st h; exact h
  | cons c l ih => intro st h; exact ih _ (byteF_lt st c h)
theorem writeF_append (st : (Nat → Int) × Nat) (l m : List UInt8) : writeF st (l ++ m) = writeF (writeF st l) m := by simp [writeF]
theorem writeF_snoc (st : (Nat → Int) × Nat) (s : ByteArray) (k : Nat) (h : k < s.size) : writeF st (s.data.toList.take (k + 1)) = byteF (writeF st (s.data.toList.take k)) s[k] := by
  have e : s.data.toList.take (k + 1) = s.data.toList.take k ++ [s[k]] := by
    rw [List.take_succ_eq_append_getElem (by simpa using h)]; rfl
  rw [e, writeF_append]; rfl

set_option maxRecDepth 100000 in
set_option maxHeartbeats 1000000 in
theorem write_calls (st : (Nat → Int) × Nat) (s : ByteArray) (hs : s.size ≤ maxLen) (w : World) (b : Nat) (H : Held w b st.1 st.2) (ht : st.2 < 136) (T : Tabs w) (hb : 3 ≤ b) :
    Calls Tryd.prog 16 #[.pointer (some ⟨b, 0, none⟩), .string s] w fun e w' => e = .returned (.tuple #[]) ∧ Held w' b (writeF st s.data.toList).1 (writeF st s.data.toList).2 ∧ Kept b w w' := by
  unfold maxLen at hs
  go_enter Tryd.func16, Tryd.ntmps16
  go_wp2_with fail
  go_loopg [4] s.size (fun g r wr => ∃ k : Nat, g = s.size - k ∧ k ≤ s.size ∧ r = .int .i64 k ∧ Held wr b (writeF st (s.data.toList.take k)).1 (writeF st (s.data.toList.take k)).2 ∧ Kept b w wr)
  case atStart => exact ⟨0, rfl, by omega, rfl, H, Kept.refl b w⟩
  case round =>
    obtain ⟨k, hg, hk, rfl, HK, KK⟩ := hrel
    have HG : Hid (gk = s.size - k) := hg
    clear hg
    by_cases hlt : k < s.size
    · have hst := writeF_lt (s.data.toList.take k) st ht
      have HS : Hid (writeF st (s.data.toList.take (k + 1)) = byteF (writeF st (s.data.toList.take k)) s[k]) := writeF_snoc st s k hlt
      generalize hq : writeF st (s.data.toList.take k) = q at *
      clear hq
      obtain ⟨vs, t⟩ := q
      simp only at hst HK
      have HKK : Hid (Kept b w wr) := KK
      have HHK : Hid (Held wr b vs t) := HK
      have HT : Hid (Tabs w) := T
      have c0 := HK.at_ (t / 8) (by omega)
      have f0 := HK.free (t / 8)
      have c1 := HK.taken
      have f1 := HK.free 25
      clear KK HK H T
      have hc8 : s[k].toNat < 256 := s[k].toNat_lt
      generalize hu : vs (t / 8) = u at c0
      have HU : Hid (vs (t / 8) = u) := hu
      clear hu
      have hne : t / 8 ≠ 25 := by omega
      go_upto_region 3 with fail
      go_cut [] (fun wx => Held wx b (flipF vs t s[k].toNat) t ∧ Kept b wr wx)
      case first =>
        go_region_with (go_at_call 28; refine (flip_calls t _ hc8 u _ b hst (by go_simp) (by go_simp)).mono ?_; rintro e w' ⟨rfl, rfl⟩)
        all_goals (go_wp2_with fail; go_meet; exact ⟨by unfold flipF; rw [HU.out]; exact (HHK.out.set (t / 8) _ (by omega)).drew.drew, ((Kept.refl _ _).set _ _).drew.drew⟩)
      case rest =>
        obtain ⟨H1, K1⟩ := hcut
        generalize hfl : flipF vs t s[k].toNat = us at *
        have HFL : Hid (flipF vs t s[k].toNat = us) := hfl
        have HH1 : Hid (Held wc b us t) := H1
        have HK1 : Hid (Kept b w wc) := HKK.out.trans K1
        clear c0 f0 c1 f1 hfl H1 K1
        have c1 := HH1.out.taken
        have f1 := HH1.out.free 25
        by_cases he : t + 1 = 136
        · have hbe : ((t : Int) + 1 == 136) = true := beq_iff_eq.2 (by omega)
          go_wp2_with fail
          have H2 := HH1.out.setTaken ((t : Int) + 1)
          have K2 := HK1.out.set 25 (.int .i64 ((t : Int) + 1))
          refine (mix_calls us _ _ b H2 (HT.out.kept K2 hb) hb).mono ?_
          rintro e w3 ⟨rfl, H3, K3⟩
          have HH3 : Hid (Held w3 b (permF us) ((t : Int) + 1)) := H3
          have HK3 : Hid (Kept b w w3) := K2.trans K3
          have c3 := H3.taken
          have f3 := H3.free 25
          clear H2 K2 H3 K3
          go_wp2_with fail
          go_roundg (s.size - (k + 1))
          case measure => have := HG.out; omega
          case rel =>
            refine ⟨k + 1, rfl, by omega, by go_num, ?_, HK3.out.set _ _⟩
            rw [HS.out]; unfold byteF; simp only; rw [if_pos he, HFL.out]
            exact HH3.out.setTaken 0
        · have hbe : ((t : Int) + 1 == 136) = false := beq_eq_false_iff_ne.2 (by omega)
          go_wp2_with fail
          go_roundg (s.size - (k + 1))
          case measure => have := HG.out; omega
          case rel =>
            refine ⟨k + 1, rfl, by omega, by go_num, ?_, HK1.out.set _ _⟩
            rw [HS.out]; unfold byteF; simp only; rw [if_neg he, HFL.out]
            exact HH1.out.setTaken _
    · have : k = s.size := by omega
      subst this
      have et : s.data.toList.take s.size = s.data.toList := List.take_of_length_le (by simp)
      rw [et] at HK
      go_wp2_with fail
      go_end0
      exact ⟨rfl, HK, KK⟩
end Go.Proofs.YtenmjjpkbcogbaaDoor
