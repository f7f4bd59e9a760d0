/-
  The walk of mixColumns.
-/
import Derived.Test.YtenmjjpkbcogbaaDoorSmall
import Derived.Deep.Cut
import Derived.Deep.CutRange
import Derived.Deep.DeepCutAuto
import Derived.Deep.LoopGhost
namespace Go.Proofs.YtenmjjpkbcogbaaDoor
open Go.RowKit

def mixTo (ws : Nat → Int) (k : Nat) : Nat → Int := fun j => if j < k then mixF ws j else ws j

/-- five stores are one row of the first step -/
theorem mixTo_row (ws : Nat → Int) (k : Nat) (c0 c1 c2 c3 c4 u0 u1 u2 u3 u4 : Int) (h5 : k % 5 = 0)
    (HC : colF ws 0 = c0 ∧ colF ws 1 = c1 ∧ colF ws 2 = c2 ∧ colF ws 3 = c3 ∧ colF ws 4 = c4)
    (e0 : mixTo ws k k = u0) (e1 : mixTo ws k (k + 1) = u1) (e2 : mixTo ws k (k + 2) = u2) (e3 : mixTo ws k (k + 3) = u3) (e4 : mixTo ws k (k + 4) = u4) (j : Nat) :
    setF (setF (setF (setF (setF (mixTo ws k) k (xo u0 (xo c4 (rot c1 1)))) (k + 1) (xo u1 (xo c0 (rot c2 1)))) (k + 2) (xo u2 (xo c1 (rot c3 1)))) (k + 3) (xo u3 (xo c2 (rot c4 1)))) (k + 4) (xo u4 (xo c3 (rot c0 1))) j = mixTo ws (k + 5) j := by
  obtain ⟨rfl, rfl, rfl, rfl, rfl⟩ := HC
  subst e0 e1 e2 e3 e4
  have n0 : mixTo ws k k = ws k := by simp [mixTo]
  have n1 : mixTo ws k (k + 1) = ws (k + 1) := by unfold mixTo; rw [if_neg (by omega)]
  have n2 : mixTo ws k (k + 2) = ws (k + 2) := by unfold mixTo; rw [if_neg (by omega)]
  have n3 : mixTo ws k (k + 3) = ws (k + 3) := by unfold mixTo; rw [if_neg (by omega)]
  have n4 : mixTo ws k (k + 4) = ws (k + 4) := by unfold mixTo; rw [if_neg (by omega)]
  rw [n0, n1, n2, n3, n4]
  unfold setF
  by_cases j4 : j = k + 4
  · subst j4
    rw [if_pos rfl]; simp only [mixTo, if_pos (show k + 4 < k + 5 by omega), mixF, show (k + 4 + 4) % 5 = 3 by omega, show (k + 4 + 1) % 5 = 0 by omega]
  rw [if_neg j4]
  by_cases j3 : j = k + 3
  · subst j3
    rw [if_pos rfl]; simp only [mixTo, if_pos (show k + 3 < k + 5 by omega), mixF, show (k + 3 + 4) % 5 = 2 by omega, show (k + 3 + 1) % 5 = 4 by omega]
  rw [if_neg j3]
  by_cases j2 : j = k + 2
  · subst j2
    rw [if_pos rfl]; simp only [mixTo, if_pos (show k + 2 < k + 5 by omega), mixF, show (k + 2 + 4) % 5 = 1 by omega, show (k + 2 + 1) % 5 = 3 by omega]
  rw [if_neg j2]
  by_cases j1 : j = k + 1
  · subst j1
    rw [if_pos rfl]; simp only [mixTo, if_pos (show k + 1 < k + 5 by omega), mixF, show (k + 1 + 4) % 5 = 0 by omega, show (k + 1 + 1) % 5 = 2 by omega]
  rw [if_neg j1]
  by_cases j0 : j = k
  · subst j0
    rw [if_pos rfl]; simp only [mixTo, if_pos (show j < j + 5 by omega), mixF, show (j + 4) % 5 = 4 by omega, show (j + 1) % 5 = 1 by omega]
  rw [if_neg j0]
  unfold mixTo
  by_cases jl : j < k
  · rw [if_pos jl, if_pos (by omega)]
  · rw [if_neg jl, if_neg (by omega)]
theorem mixTo_end (ws : Nat → Int) (j : Nat) (h : j < 25) : mixTo ws 25 j = mixF ws j := by simp [mixTo, h]

set_option maxRecDepth 100000 in
set_option maxHeartbeats 1000000 in
theorem mixColumns_calls (ws : Nat → Int) (t : Int) (w : World) (b : Nat) (H : Held w b ws t) :
    Calls Tryd.prog 38 #[.pointer (some ⟨b, 0, none⟩)] w fun e w' => e = .returned (.tuple #[]) ∧ Held w' b (mixF ws) t ∧ Kept b w w' := by
  go_enter Tryd.func38, Tryd.ntmps38
  go_wp2_with fail
  refine (column_calls 0 (by omega) ws t _ b H).mono ?_
  rintro e w1 ⟨rfl, n1, rfl⟩
  go_wp2_with fail
  refine (column_calls 1 (by omega) ws t _ b (H.drewN _)).mono ?_
  rintro e w1 ⟨rfl, n2, rfl⟩
  go_wp2_with fail
  refine (column_calls 2 (by omega) ws t _ b (H.drewN _)).mono ?_
  rintro e w1 ⟨rfl, n3, rfl⟩
  go_wp2_with fail
  refine (column_calls 3 (by omega) ws t _ b (H.drewN _)).mono ?_
  rintro e w1 ⟨rfl, n4, rfl⟩
  go_wp2_with fail
  refine (column_calls 4 (by omega) ws t _ b (H.drewN _)).mono ?_
  rintro e w1 ⟨rfl, n5, rfl⟩
  go_wp2_with fail
  generalize hc0 : colF ws 0 = c0
  generalize hc1 : colF ws 1 = c1
  generalize hc2 : colF ws 2 = c2
  generalize hc3 : colF ws 3 = c3
  generalize hc4 : colF ws 4 = c4
  have HC : Hid (colF ws 0 = c0 ∧ colF ws 1 = c1 ∧ colF ws 2 = c2 ∧ colF ws 3 = c3 ∧ colF ws 4 = c4) := ⟨hc0, hc1, hc2, hc3, hc4⟩
  clear hc0 hc1 hc2 hc3 hc4
  go_loopg [7] 5 (fun g r wr => ∃ k : Nat, g = 5 - k / 5 ∧ k ≤ 25 ∧ Hid (k % 5 = 0) ∧ r = .int .i64 k ∧ Held wr b (mixTo ws k) t ∧ Kept b w wr)
  case atStart => 
    exact ⟨0, rfl, by omega, rfl, rfl, (H.drewN _).congr (fun j _ => by simp [mixTo]), (Kept.refl b w).drewN _⟩
  case round =>
    obtain ⟨k, hg, hk, h5, rfl, HK, KK⟩ := hrel
    have HG : Hid (gk = 5 - k / 5) := hg
    clear hg
    by_cases hlt : k < 25
    · have h20 : k ≤ 20 := by have := h5.out; omega
      have HKK : Hid (Kept b w wr) := KK
      clear KK H
      have H0 : Held wr b (mixTo ws k) t := HK
      clear HK
      have g0 := H0.at_ k (by omega)
      have f0 := H0.free k
      have HH0 : Hid (Held wr b (mixTo ws k) t) := H0
      clear H0
      generalize hv : mixTo ws k k = u0 at g0
      have HV0 : Hid (mixTo ws k k = u0) := hv
      clear hv
      go_upto_region 8 with fail
      go_cut [] (fun wx => Held wx b (setF (mixTo ws k) k (xo u0 (xo c4 (rot c1 1)))) t ∧ Kept b wr wx)
      case first =>
        go_region_with (go_at_call 50; refine (turned_calls _ 1 (by omega) _).mono ?_; rintro e w' ⟨rfl, rfl⟩)
        all_goals (go_wp2_with fail; go_meet; exact ⟨(HH0.out.set _ _ (by omega)).drew, ((Kept.refl _ _).set _ _).drew⟩)
      case rest =>
        obtain ⟨H1, K1⟩ := hcut
        have HK1 : Hid (Kept b wr wc) := K1
        clear K1 g0 f0
        generalize wc = w1 at *
        have g1 := H1.at_ (k + 1) (by omega)
        have f1 := H1.free (k + 1)
        have HH1 : Hid (Held w1 b (setF (mixTo ws k) k (xo u0 (xo c4 (rot c1 1)))) t) := H1
        clear H1
        rw [show (setF (mixTo ws k) k (xo u0 (xo c4 (rot c1 1)))) (k + 1) = mixTo ws k (k + 1) by simp [setF]] at g1
        generalize hv : mixTo ws k (k + 1) = u1 at g1
        have HV1 : Hid (mixTo ws k (k + 1) = u1) := hv
        clear hv
        have iw1 : IntKind.i64.wrap ((k : Int) + 1) = (k : Int) + 1 := by rw [IntKind.wrap_i64]; omega
        have il1 : (k : Int) + 1 < 25 := by omega
        have in1 : (0 : Int) ≤ (k : Int) + 1 := by omega
        have it1 : ((k : Int) + 1).toNat = k + 1 := by omega
        go_upto_region 9 with fail
        go_cut [] (fun wx => Held wx b (setF (setF (mixTo ws k) k (xo u0 (xo c4 (rot c1 1)))) (k + 1) (xo u1 (xo c0 (rot c2 1)))) t ∧ Kept b w1 wx)
        case first =>
          go_region_with (go_at_call 50; refine (turned_calls _ 1 (by omega) _).mono ?_; rintro e w' ⟨rfl, rfl⟩)
          all_goals (go_wp2_with fail; go_meet; exact ⟨(HH1.out.set _ _ (by omega)).drew, ((Kept.refl _ _).set _ _).drew⟩)
        case rest =>
          obtain ⟨H2, K2⟩ := hcut
          have HK2 : Hid (Kept b w1 wc) := K2
          clear K2 g1 f1
          generalize wc = w2 at *
          have g2 := H2.at_ (k + 2) (by omega)
          have f2 := H2.free (k + 2)
          have HH2 : Hid (Held w2 b (setF (setF (mixTo ws k) k (xo u0 (xo c4 (rot c1 1)))) (k + 1) (xo u1 (xo c0 (rot c2 1)))) t) := H2
          clear H2
          rw [show (setF (setF (mixTo ws k) k (xo u0 (xo c4 (rot c1 1)))) (k + 1) (xo u1 (xo c0 (rot c2 1)))) (k + 2) = mixTo ws k (k + 2) by simp [setF]] at g2
          generalize hv : mixTo ws k (k + 2) = u2 at g2
          have HV2 : Hid (mixTo ws k (k + 2) = u2) := hv
          clear hv
          have iw2 : IntKind.i64.wrap ((k : Int) + 2) = (k : Int) + 2 := by rw [IntKind.wrap_i64]; omega
          have il2 : (k : Int) + 2 < 25 := by omega
          have in2 : (0 : Int) ≤ (k : Int) + 2 := by omega
          have it2 : ((k : Int) + 2).toNat = k + 2 := by omega
          go_upto_region 10 with fail
          go_cut [] (fun wx => Held wx b (setF (setF (setF (mixTo ws k) k (xo u0 (xo c4 (rot c1 1)))) (k + 1) (xo u1 (xo c0 (rot c2 1)))) (k + 2) (xo u2 (xo c1 (rot c3 1)))) t ∧ Kept b w2 wx)
          case first =>
            go_region_with (go_at_call 50; refine (turned_calls _ 1 (by omega) _).mono ?_; rintro e w' ⟨rfl, rfl⟩)
            all_goals (go_wp2_with fail; go_meet; exact ⟨(HH2.out.set _ _ (by omega)).drew, ((Kept.refl _ _).set _ _).drew⟩)
          case rest =>
            obtain ⟨H3, K3⟩ := hcut
            have HK3 : Hid (Kept b w2 wc) := K3
            clear K3 g2 f2
            generalize wc = w3 at *
            have g3 := H3.at_ (k + 3) (by omega)
            have f3 := H3.free (k + 3)
            have HH3 : Hid (Held w3 b (setF (setF (setF (mixTo ws k) k (xo u0 (xo c4 (rot c1 1)))) (k + 1) (xo u1 (xo c0 (rot c2 1)))) (k + 2) (xo u2 (xo c1 (rot c3 1)))) t) := H3
            clear H3
            rw [show (setF (setF (setF (mixTo ws k) k (xo u0 (xo c4 (rot c1 1)))) (k + 1) (xo u1 (xo c0 (rot c2 1)))) (k + 2) (xo u2 (xo c1 (rot c3 1)))) (k + 3) = mixTo ws k (k + 3) by simp [setF]] at g3
            generalize hv : mixTo ws k (k + 3) = u3 at g3
            have HV3 : Hid (mixTo ws k (k + 3) = u3) := hv
            clear hv
            have iw3 : IntKind.i64.wrap ((k : Int) + 3) = (k : Int) + 3 := by rw [IntKind.wrap_i64]; omega
            have il3 : (k : Int) + 3 < 25 := by omega
            have in3 : (0 : Int) ≤ (k : Int) + 3 := by omega
            have it3 : ((k : Int) + 3).toNat = k + 3 := by omega
            go_upto_region 11 with fail
            go_cut [] (fun wx => Held wx b (setF (setF (setF (setF (mixTo ws k) k (xo u0 (xo c4 (rot c1 1)))) (k + 1) (xo u1 (xo c0 (rot c2 1)))) (k + 2) (xo u2 (xo c1 (rot c3 1)))) (k + 3) (xo u3 (xo c2 (rot c4 1)))) t ∧ Kept b w3 wx)
            case first =>
              go_region_with (go_at_call 50; refine (turned_calls _ 1 (by omega) _).mono ?_; rintro e w' ⟨rfl, rfl⟩)
              all_goals (go_wp2_with fail; go_meet; exact ⟨(HH3.out.set _ _ (by omega)).drew, ((Kept.refl _ _).set _ _).drew⟩)
            case rest =>
              obtain ⟨H4, K4⟩ := hcut
              have HK4 : Hid (Kept b w3 wc) := K4
              clear K4 g3 f3
              generalize wc = w4 at *
              have g4 := H4.at_ (k + 4) (by omega)
              have f4 := H4.free (k + 4)
              have HH4 : Hid (Held w4 b (setF (setF (setF (setF (mixTo ws k) k (xo u0 (xo c4 (rot c1 1)))) (k + 1) (xo u1 (xo c0 (rot c2 1)))) (k + 2) (xo u2 (xo c1 (rot c3 1)))) (k + 3) (xo u3 (xo c2 (rot c4 1)))) t) := H4
              clear H4
              rw [show (setF (setF (setF (setF (mixTo ws k) k (xo u0 (xo c4 (rot c1 1)))) (k + 1) (xo u1 (xo c0 (rot c2 1)))) (k + 2) (xo u2 (xo c1 (rot c3 1)))) (k + 3) (xo u3 (xo c2 (rot c4 1)))) (k + 4) = mixTo ws k (k + 4) by simp [setF]] at g4
              generalize hv : mixTo ws k (k + 4) = u4 at g4
              have HV4 : Hid (mixTo ws k (k + 4) = u4) := hv
              clear hv
              have iw4 : IntKind.i64.wrap ((k : Int) + 4) = (k : Int) + 4 := by rw [IntKind.wrap_i64]; omega
              have il4 : (k : Int) + 4 < 25 := by omega
              have in4 : (0 : Int) ≤ (k : Int) + 4 := by omega
              have it4 : ((k : Int) + 4).toNat = k + 4 := by omega
              go_upto_region 12 with fail
              go_region_with (go_at_call 50; refine (turned_calls _ 1 (by omega) _).mono ?_; rintro e w' ⟨rfl, rfl⟩)
              all_goals
                have H5 := (HH4.out.set (k + 4) (xo u4 (xo c3 (rot c0 1))) (by omega)).drew
                have HE := H5.congr (fun j _ => mixTo_row ws k c0 c1 c2 c3 c4 u0 u1 u2 u3 u4 h5.out HC.out HV0.out HV1.out HV2.out HV3.out HV4.out j)
                have HHE : Hid (Held _ b (mixTo ws (k + 5)) t) := HE
                clear H5 HE
                go_wp2_with fail
                go_roundg (5 - (k + 5) / 5)
                case measure => have := HG.out; omega
                case rel => exact ⟨k + 5, rfl, by omega, (by have := h5.out; show (k + 5) % 5 = 0; omega), by go_num, HHE.out, (((((HKK.out.trans HK1.out).trans HK2.out).trans HK3.out).trans HK4.out).set _ _).drew⟩
    · have : k = 25 := by omega
      subst this
      go_wp2_with fail
      go_end0
      exact ⟨rfl, HK.congr (mixTo_end ws), KK⟩
end Go.Proofs.YtenmjjpkbcogbaaDoor
