/-
  The walk of moveAndMixRows.
-/
import Derived.Test.YtenmjjpkbcogbaaDoorSmall
import Derived.Test.YtenmjjpkbcogbaaDoorTabs
import Derived.Deep.Cut
import Derived.Deep.CutRange
import Derived.Deep.DeepCutAuto
import Derived.Deep.LoopGhost
namespace Go.Proofs.YtenmjjpkbcogbaaDoor
open Go.RowKit

set_option maxRecDepth 100000 in
set_option maxHeartbeats 1000000 in
theorem moveRows_calls (ws : Nat → Int) (t : Int) (w : World) (b : Nat) (H : Held w b ws t) (T : Tabs w) (hb : 3 ≤ b) :
    Calls Tryd.prog 39 #[.pointer (some ⟨b, 0, none⟩)] w fun e w' => e = .returned (.tuple #[]) ∧ Held w' b (chiF (vTo ws 25)) t ∧ Kept b w w' := by
  have hbs := H.lt
  go_enter Tryd.func39, Tryd.ntmps39
  go_wp2_with fail
  obtain ⟨v, hv⟩ : ∃ v, v = w.heap.size := ⟨_, rfl⟩
  have HV : Hid (v = w.heap.size) := hv
  rw [← hv]
  go_loopg [3] 25 (fun g r wr => ∃ k : Nat, g = 25 - k ∧ k ≤ 25 ∧ r = .int .i64 k ∧ RowAt wr v (vTo ws k) ∧ Held wr b ws t ∧ Kept b w wr)
  case atStart =>
    have hA : (w.alloc (.cells (rcells (vTo ws 0)) 50)).heap[w.heap.size]? = some (.cells (rcells (vTo ws 0)) 50 (0, 0)) := heap_alloc_new _ _
    exact ⟨0, rfl, by omega, rfl, ⟨by rw [hv]; exact hA⟩, H.kept ((Kept.refl (b + 1) w).alloc _) (by omega), (Kept.refl b w).alloc _⟩
  case round =>
    obtain ⟨k, hg, hk, rfl, HR, HK, KK⟩ := hrel
    have HG : Hid (gk = 25 - k) := hg
    clear hg hv
    by_cases hlt : k < 25
    · have T' := T.kept KK hb
      have m1 := T'.moves k hlt
      have m2 := T'.turns k hlt
      have l1 := movesAt_lt k hlt
      have l2 := turnsAt_lt k hlt
      have c1 := HK.at_ k hlt
      have c2 := HR.at_ (movesAt k) l1
      have c3 := HR.free (movesAt k)
      have HRR : Hid (RowAt wr v (vTo ws k)) := HR
      have HHK : Hid (Held wr b ws t) := HK
      have HKK : Hid (Kept b w wr) := KK
      have HM : Hid (setF (vTo ws k) (movesAt k) (rot (ws k) (turnsAt k)) = vTo ws (k + 1)) := rfl
      clear HR HK KK T' H T
      generalize movesAt k = m at *
      generalize turnsAt k = tu at *
      go_wp2_with fail
      go_region_with (go_at_call 50; refine (turned_calls _ _ (by assumption) _).mono ?_; rintro e w' ⟨rfl, rfl⟩)
      all_goals
        go_wp2_with fail
        go_roundg (25 - (k + 1))
        case measure => have := HG.out; omega
        case rel => exact ⟨k + 1, rfl, by omega, by go_num, by rw [← HM.out]; exact (HRR.out.set _ _ (by omega)).drew, (HHK.out.other _ _ _ (by have := HV.out; omega)).drew, (HKK.out.new _ _ _ (by have := HV.out; omega)).drew⟩
    · have : k = 25 := by omega
      subst this
      generalize hvt : vTo ws 25 = vs at *
      have HVT : Hid (vTo ws 25 = vs) := hvt
      have HRR : Hid (RowAt wr v vs) := HR
      clear hvt HR
      go_wp2_with fail
      go_loopg [4, 5, 6, 7, 8, 9] 5 (fun g r _ _ _ _ _ wx => ∃ k : Nat, g = 5 - k / 5 ∧ k ≤ 25 ∧ Hid (k % 5 = 0) ∧ r = .int .i64 k ∧ RowAt wx v vs ∧ Held wx b (chiTo ws vs k) t ∧ Kept b w wx)
      case atStart => exact ⟨0, rfl, by omega, rfl, rfl, HRR.out, HK.congr (fun j _ => (chiTo_zero ws vs j).symm), KK⟩
      case round =>
        clear HK KK H T HRR HG
        obtain ⟨k, hg, hk, h5, rfl, HR, HK, KK⟩ := hrel
        have HG : Hid (gk = 5 - k / 5) := hg
        clear hg
        by_cases hlt : k < 25
        · have h20 : k ≤ 20 := by have := h5.out; omega
          have r0 := HR.at_ k (by omega)
          have r1 := HR.at_ (k + 1) (by omega)
          have r2 := HR.at_ (k + 2) (by omega)
          have r3 := HR.at_ (k + 3) (by omega)
          have r4 := HR.at_ (k + 4) (by omega)
          generalize hva : vs k = va at r0
          generalize hvb : vs (k + 1) = vb at r1
          generalize hvc : vs (k + 2) = vc at r2
          generalize hvd : vs (k + 3) = vd at r3
          generalize hve : vs (k + 4) = ve at r4
          have HE : Hid (vs k = va ∧ vs (k + 1) = vb ∧ vs (k + 2) = vc ∧ vs (k + 3) = vd ∧ vs (k + 4) = ve) := ⟨hva, hvb, hvc, hvd, hve⟩
          clear hva hvb hvc hvd hve
          obtain ⟨q0, d0⟩ : ∃ q, wr.cell? ⟨b, k, none⟩ = some q := ⟨_, HK.at_ k (by omega)⟩
          obtain ⟨q1, d1⟩ : ∃ q, wr.cell? ⟨b, k + 1, none⟩ = some q := ⟨_, HK.at_ (k + 1) (by omega)⟩
          obtain ⟨q2, d2⟩ : ∃ q, wr.cell? ⟨b, k + 2, none⟩ = some q := ⟨_, HK.at_ (k + 2) (by omega)⟩
          obtain ⟨q3, d3⟩ : ∃ q, wr.cell? ⟨b, k + 3, none⟩ = some q := ⟨_, HK.at_ (k + 3) (by omega)⟩
          obtain ⟨q4, d4⟩ : ∃ q, wr.cell? ⟨b, k + 4, none⟩ = some q := ⟨_, HK.at_ (k + 4) (by omega)⟩
          have f0 := HK.free k
          have f1 := HK.free (k + 1)
          have f2 := HK.free (k + 2)
          have f3 := HK.free (k + 3)
          have f4 := HK.free (k + 4)
          have HRR : Hid (RowAt wr v vs) := HR
          have HHK : Hid (Held wr b (chiTo ws vs k) t) := HK
          have HKK : Hid (Kept b w wr) := KK
          clear HR HK KK
          go_wp2
          go_roundg (5 - (k + 5) / 5)
          case measure => have := HG.out; omega
          case rel =>
            obtain ⟨ea, eb, ec, ed, ee⟩ := HE.out
            have hn : v ≠ b := by have := HV.out; omega
            have HH := (((((HHK.out.set k (xo va (an vc vb)) (by omega)).set (k + 1) (xo vb (an vd vc)) (by omega)).set (k + 2) (xo vc (an ve vd)) (by omega)).set (k + 3) (xo vd (an va ve)) (by omega)).set (k + 4) (xo ve (an vb va)) (by omega)).congr (fun j _ => chiTo_row ws vs k va vb vc vd ve h5.out ea eb ec ed ee j)
            exact ⟨k + 5, rfl, by omega, (by have := h5.out; show (k + 5) % 5 = 0; omega), by go_num, ((((HRR.out.other _ _ _ hn).other _ _ _ hn).other _ _ _ hn).other _ _ _ hn).other _ _ _ hn, HH, ((((HKK.out.set _ _).set _ _).set _ _).set _ _).set _ _⟩
        · have : k = 25 := by omega
          subst this
          go_wp2_with fail
          go_end0
          exact ⟨rfl, by rw [HVT.out]; exact HK.congr (chiTo_end ws vs), KK⟩
end Go.Proofs.YtenmjjpkbcogbaaDoor
