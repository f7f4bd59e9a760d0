/-
  The walk of mix: 24 rounds.
-/
import Derived.Test.YtenmjjpkbcogbaaDoorMixc
import Derived.Test.YtenmjjpkbcogbaaDoorMover
namespace Go.Proofs.YtenmjjpkbcogbaaDoor
open Go.RowKit

def threeF (ws : Nat → Int) : Nat → Int := chiF (vTo (mixF ws) 25)
def roundF (i : Nat) (ws : Nat → Int) : Nat → Int := setF (threeF ws) 0 (xo (threeF ws 0) (wordsAt i))
def permTo (ws : Nat → Int) : Nat → Nat → Int
  | 0 => ws
  | k + 1 => roundF k (permTo ws k)
def permF (ws : Nat → Int) : Nat → Int := permTo ws 24

set_option maxRecDepth 100000 in
set_option maxHeartbeats 1000000 in
theorem mix_calls (ws : Nat → Int) (t : Int) (w : World) (b : Nat) (H : Held w b ws t) (T : Tabs w) (hb : 3 ≤ b) :
    Calls Tryd.prog 29 #[.pointer (some ⟨b, 0, none⟩)] w fun e w' => e = .returned (.tuple #[]) ∧ Held w' b (permF ws) t ∧ Kept b w w' := by
  go_enter Tryd.func29, Tryd.ntmps29
  go_wp2_with fail
  go_loopg [2] 24 (fun g r wr => ∃ k : Nat, g = 24 - k ∧ k ≤ 24 ∧ r = .int .i64 k ∧ Held wr b (permTo ws k) t ∧ Kept b w wr)
  case atStart => exact ⟨0, rfl, by omega, rfl, H, Kept.refl b w⟩
  case round =>
    obtain ⟨k, hg, hk, rfl, HK, KK⟩ := hrel
    have HG : Hid (gk = 24 - k) := hg
    clear hg
    by_cases hlt : k < 24
    · have HKK : Hid (Kept b w wr) := KK
      have HHK : Hid (Held wr b (permTo ws k) t) := HK
      have HT : Hid (Tabs w) := T
      have HM : Hid (roundF k (permTo ws k) = permTo ws (k + 1)) := rfl
      clear KK HK H T
      generalize permTo ws k = vs at *
      go_wp2_with fail
      refine (mixColumns_calls vs t _ b HHK.out).mono ?_
      rintro e w1 ⟨rfl, H1, K1⟩
      have HH1 : Hid (Held w1 b (mixF vs) t) := H1
      have HK1 : Hid (Kept b w w1) := HKK.out.trans K1
      clear H1 K1
      go_wp2_with fail
      refine (moveRows_calls (mixF vs) t _ b HH1.out (HT.out.kept HK1.out hb) hb).mono ?_
      rintro e w2 ⟨rfl, H2, K2⟩
      have HH2 : Hid (Held w2 b (threeF vs) t) := H2
      have HK2 : Hid (Kept b w w2) := HK1.out.trans K2
      have c0 := HH2.out.at_ 0 (by omega)
      have f0 := HH2.out.free 0
      have t0 := (HT.out.kept HK2.out hb).words k hlt
      clear H2 K2
      generalize hu : threeF vs 0 = u at c0
      have HU : Hid (threeF vs 0 = u) := hu
      generalize hx : wordsAt k = x at t0
      have HX : Hid (wordsAt k = x) := hx
      clear hu hx
      go_wp2_with fail
      go_region
      all_goals
        go_wp2_with fail
        go_roundg (24 - (k + 1))
        case measure => have := HG.out; omega
        case rel => exact ⟨k + 1, rfl, by omega, by go_num, by rw [← HM.out]; unfold roundF; rw [HU.out, HX.out]; exact (HH2.out.set 0 (xo u x) (by omega)).drew, (HK2.out.set _ _).drew⟩
    · have : k = 24 := by omega
      subst this
      go_wp2_with fail
      go_end0
      exact ⟨rfl, HK, KK⟩
end Go.Proofs.YtenmjjpkbcogbaaDoor
