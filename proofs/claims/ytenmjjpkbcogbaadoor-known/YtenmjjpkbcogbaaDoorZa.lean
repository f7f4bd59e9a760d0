import Derived.WalkKit
import Derived.WalkSpells
import Derived.WalkLawsBesides
import Derived.Test.YtenmjjpkbcogbaaDoorRows
import Derived.BigRegion
import Derived.BigQuiet
import Derived.Deep.QuietTactic
import Derived.Deep.RegionWith
import Derived.Deep.Cut
import Derived.Deep.CutRange
import Derived.Deep.DeepCutAuto
import Derived.Deep.LoopGhost
import Derived.Deep.RegionHeld2

/- Base -/
namespace Go.Proofs.YtenmjjpkbcogbaaDoor
open Go Go.RowKit

/-- a word, turned to the left by n bits -/
def rot (a : Int) (n : Nat) : Int := bits .or .u64 (IntKind.u64.wrap (a * 2 ^ n)) (a / 2 ^ ((64 - n) % 64))
def xo (a b : Int) : Int := bits .xor .u64 a b
def an (a b : Int) : Int := bits .andNot .u64 a b
def colF (ws : Nat → Int) (x : Nat) : Int := xo (xo (xo (xo (ws x) (ws (x + 5))) (ws (x + 10))) (ws (x + 15))) (ws (x + 20))
/-- the first step of a round, at place j -/
def mixF (ws : Nat → Int) (j : Nat) : Int := xo (ws j) (xo (colF ws ((j + 4) % 5)) (rot (colF ws ((j + 1) % 5)) 1))
def setF (ws : Nat → Int) (i : Nat) (v : Int) : Nat → Int := fun j => if j = i then v else ws j

/-- what lies in a hasher's block -/
def hcells (ws : Nat → Int) (t : Int) : Array Value := ((List.range 25).map (fun i => Value.int .u64 (ws i)) ++ [Value.int .i64 t]).toArray

structure Held (w : World) (b : Nat) (ws : Nat → Int) (t : Int) : Prop where
  block : w.heap[b]? = some (.cells (hcells ws t) 52 (0, 0))

/-- all but block b is as it was -/
structure Kept (b : Nat) (w w' : World) : Prop where
  os : w'.os = w.os
  tape : w'.tape = w.tape
  output : w'.output = w.output
  size : w.heap.size ≤ w'.heap.size
  block : ∀ i, i < w.heap.size → i ≠ b → w'.heap[i]? = w.heap[i]?

theorem hcells_at (ws : Nat → Int) (t : Int) (j : Nat) (h : j < 25) : (hcells ws t)[j]? = some (.int .u64 (ws j)) := by
  unfold hcells
  rw [List.getElem?_toArray, List.getElem?_append_left (by simpa using h)]
  simp [h]
theorem hcells_taken (ws : Nat → Int) (t : Int) : (hcells ws t)[25]? = some (.int .i64 t) := by
  unfold hcells
  rw [List.getElem?_toArray, List.getElem?_append_right (by simp)]
  simp
theorem hcells_size (ws : Nat → Int) (t : Int) : (hcells ws t).size = 26 := by simp [hcells]
theorem hcells_set (ws : Nat → Int) (t : Int) (i : Nat) (v : Int) (h : i < 25) : (hcells ws t).setIfInBounds i (.int .u64 v) = hcells (setF ws i v) t := by
  apply Array.ext_getElem?
  intro j
  rw [Array.getElem?_setIfInBounds]
  by_cases hij : i = j
  · subst hij
    rw [if_pos rfl, if_pos (by rw [hcells_size]; omega), hcells_at _ _ _ h]
    simp [setF]
  · rw [if_neg hij]
    by_cases hj : j < 25
    · rw [hcells_at _ _ _ hj, hcells_at _ _ _ hj]
      simp [setF, Ne.symm hij]
    · by_cases hj2 : j = 25
      · subst hj2; rw [hcells_taken, hcells_taken]
      · rw [Array.getElem?_eq_none (by rw [hcells_size]; omega), Array.getElem?_eq_none (by rw [hcells_size]; omega)]
theorem hcells_setTaken (ws : Nat → Int) (t u : Int) : (hcells ws t).setIfInBounds 25 (.int .i64 u) = hcells ws u := by
  apply Array.ext_getElem?
  intro j
  rw [Array.getElem?_setIfInBounds]
  by_cases hij : 25 = j
  · subst hij
    rw [if_pos rfl, if_pos (by rw [hcells_size]; omega), hcells_taken]
  · rw [if_neg hij]
    by_cases hj : j < 25
    · rw [hcells_at _ _ _ hj, hcells_at _ _ _ hj]
    · rw [Array.getElem?_eq_none (by rw [hcells_size]; omega), Array.getElem?_eq_none (by rw [hcells_size]; omega)]
theorem hcells_congr {ws vs : Nat → Int} (t : Int) (h : ∀ j, j < 25 → ws j = vs j) : hcells ws t = hcells vs t := by
  apply Array.ext_getElem?
  intro j
  by_cases hj : j < 25
  · rw [hcells_at _ _ _ hj, hcells_at _ _ _ hj, h j hj]
  · by_cases hj2 : j = 25
    · subst hj2; rw [hcells_taken, hcells_taken]
    · rw [Array.getElem?_eq_none (by rw [hcells_size]; omega), Array.getElem?_eq_none (by rw [hcells_size]; omega)]

namespace Held
variable {w : World} {b : Nat} {ws : Nat → Int} {t : Int}
theorem at_ (h : Held w b ws t) (j : Nat) (hj : j < 25) : w.cell? ⟨b, j, none⟩ = some (.int .u64 (ws j)) := by
  rw [cell_of_row w b j _ _ _ h.block, hcells_at _ _ _ hj]
theorem taken (h : Held w b ws t) : w.cell? ⟨b, 25, none⟩ = some (.int .i64 t) := by
  rw [cell_of_row w b 25 _ _ _ h.block, hcells_taken]
theorem free (h : Held w b ws t) (j : Nat) : w.frozen? ⟨b, j, none⟩ = false := frozen_of_row w b j _ _ h.block
theorem lt (h : Held w b ws t) : b < w.heap.size := by
  have := h.block
  rcases Nat.lt_or_ge b w.heap.size with h1 | h1
  · exact h1
  · rw [Array.getElem?_eq_none h1] at this; cases this
theorem set (h : Held w b ws t) (i : Nat) (v : Int) (hi : i < 25) : Held (w.setCell ⟨b, i, none⟩ (.int .u64 v)) b (setF ws i v) t :=
  ⟨by rw [heap_setCell_same w b i _ _ _ h.block, hcells_set _ _ _ _ hi]⟩
theorem setTaken (h : Held w b ws t) (u : Int) : Held (w.setCell ⟨b, 25, none⟩ (.int .i64 u)) b ws u :=
  ⟨by rw [heap_setCell_same w b 25 _ _ _ h.block, hcells_setTaken]⟩
theorem drew (h : Held w b ws t) : Held w.drew b ws t := ⟨h.block⟩
theorem drewN (h : Held w b ws t) (n : Nat) : Held (w.drewN n) b ws t := ⟨h.block⟩
theorem congr (h : Held w b ws t) {vs : Nat → Int} (e : ∀ j, j < 25 → ws j = vs j) : Held w b vs t := ⟨by rw [← hcells_congr t e]; exact h.block⟩
theorem kept {w' : World} {c : Nat} (h : Held w b ws t) (k : Kept c w w') (hn : b ≠ c) : Held w' b ws t := ⟨by rw [k.block b h.lt hn]; exact h.block⟩
end Held

namespace Kept
variable {b : Nat} {w w' w'' : World}
theorem refl (b : Nat) (w : World) : Kept b w w := ⟨rfl, rfl, rfl, Nat.le_refl _, fun _ _ _ => rfl⟩
theorem trans (h : Kept b w w') (k : Kept b w' w'') : Kept b w w'' :=
  ⟨k.os.trans h.os, k.tape.trans h.tape, k.output.trans h.output, Nat.le_trans h.size k.size, fun i hi hn => (k.block i (Nat.lt_of_lt_of_le hi h.size) hn).trans (h.block i hi hn)⟩
theorem drew (h : Kept b w w') : Kept b w w'.drew := ⟨h.os, h.tape, h.output, h.size, h.block⟩
theorem drewN (h : Kept b w w') (n : Nat) : Kept b w (w'.drewN n) := ⟨h.os, h.tape, h.output, h.size, h.block⟩
theorem set (h : Kept b w w') (i : Nat) (v : Value) : Kept b w (w'.setCell ⟨b, i, none⟩ v) :=
  ⟨h.os, h.tape, h.output, by simpa [World.setCell] using h.size, fun k hk hn => (heap_setCell_other w' ⟨b, i, none⟩ k v hn).trans (h.block k hk hn)⟩
theorem alloc (h : Kept b w w') (o : Obj) : Kept b w (w'.alloc o) :=
  ⟨h.os, h.tape, h.output, by have : (w'.alloc o).heap.size = w'.heap.size + 1 := (by show (w'.heap.push o).size = _; simp); rw [this]; exact Nat.le_succ_of_le h.size, fun k hk hn => (Below.heap_alloc w' o k (Nat.lt_of_lt_of_le hk h.size)).trans (h.block k hk hn)⟩
/-- what was written was not there before -/
theorem below (h : Kept b w w') (hb : w.heap.size ≤ b) : Below w.heap.size w w' := ⟨h.os, h.tape, h.output, h.size, fun k hk => h.block k hk (by omega)⟩
theorem of_below (h : Below w.heap.size w w') (b : Nat) : Kept b w w' := ⟨h.os, h.tape, h.output, h.size, fun k hk _ => h.block k hk⟩
end Kept
end Go.Proofs.YtenmjjpkbcogbaaDoor

/- Small -/
namespace Go.Proofs.YtenmjjpkbcogbaaDoor
open Go.RowKit

theorem and63 (b : Nat) (hb : b ≤ 64) : bits .and .u64 (b : Int) 63 = ((b % 64 : Nat) : Int) := by
  have := u64_and_nat b 63 (by omega) (by omega)
  rw [nat_mask6] at this
  exact this

theorem turned_calls (a : Int) (n : Nat) (hn : n < 64) (w : World) :
    Calls Tryd.prog 50 #[.int .u64 a, .int .u64 n] w fun e w' => e = .returned (.int .u64 (rot a n)) ∧ w' = w := by
  have h1 : bits .and .u64 (n : Int) 63 = (n : Int) := by rw [and63 n (by omega), Nat.mod_eq_of_lt hn]
  have h2 : bits .and .u64 (64 - (n : Int)) 63 = (((64 - n) % 64 : Nat) : Int) := by rw [← and63 (64 - n) (by omega)]; congr 1; omega
  have h3 : min n 64 = n := by omega
  have h4 : min ((64 - n) % 64) 64 = (64 - n) % 64 := by omega
  go_enter Tryd.func50, Tryd.ntmps50
  go_wp2
  go_ret
  exact ⟨by simp [rot], rfl⟩

set_option maxHeartbeats 400000 in
theorem flip_calls (i : Nat) (c : Nat) (hc8 : c < 256) (v : Int) (w : World) (b : Nat) (hi : i < 136)
    (hc : w.cell? ⟨b, i / 8, none⟩ = some (.int .u64 v)) (hf : w.frozen? ⟨b, i / 8, none⟩ = false) :
    Calls Tryd.prog 28 #[.pointer (some ⟨b, 0, none⟩), .int .i64 i, .int .u8 c] w fun e w' => e = .returned (.tuple #[]) ∧ w' = (w.setCell ⟨b, i / 8, none⟩ (.int .u64 (xo v (IntKind.u64.wrap (c * 2 ^ (i % 8 * 8)))))).drew := by
  have hw : IntKind.u64.wrap (c : Int) = (c : Int) := by rw [IntKind.wrap_u64]; omega
  go_enter Tryd.func28, Tryd.ntmps28
  go_wp2
  go_region
  all_goals go_end0
  all_goals exact ⟨rfl, by simp [xo]⟩

theorem column_calls (x : Nat) (hx : x < 5) (ws : Nat → Int) (t : Int) (w : World) (b : Nat) (H : Held w b ws t) :
    Calls Tryd.prog 49 #[.pointer (some ⟨b, 0, none⟩), .int .i64 x] w fun e w' => e = .returned (.int .u64 (colF ws x)) ∧ ∃ n, w' = w.drewN n := by
  have g0 := H.at_ x (by omega)
  have g1 := H.at_ (x + 5) (by omega)
  have g2 := H.at_ (x + 10) (by omega)
  have g3 := H.at_ (x + 15) (by omega)
  have g4 := H.at_ (x + 20) (by omega)
  clear H
  go_enter Tryd.func49, Tryd.ntmps49
  go_wp2_with fail
  go_quiet (fail)
  go_wp2
  go_ret
  exact ⟨by simp [colF, xo], nq, rfl⟩
end Go.Proofs.YtenmjjpkbcogbaaDoor

/- Mixc -/
namespace Go.Proofs.YtenmjjpkbcogbaaDoor
open Go.RowKit

def mixTo (ws : Nat → Int) (k : Nat) : Nat → Int := fun j => if j < k then mixF ws j else ws j

/-- five stores are one row of the first step -/
theorem mixTo_row (ws : Nat → Int) (k : Nat) (c0 c1 c2 c3 c4 u0 u1 u2 u3 u4 : Int) (h5 : k % 5 = 0)
    (HC : colF ws 0 = c0 ∧ colF ws 1 = c1 ∧ colF ws 2 = c2 ∧ colF ws 3 = c3 ∧ colF ws 4 = c4)
    (e0 : mixTo ws k k = u0) (e1 : mixTo ws k (k + 1) = u1) (e2 : mixTo ws k (k + 2) = u2) (e3 : mixTo ws k (k + 3) = u3) (e4 : mixTo ws k (k + 4) = u4) (j : Nat) :
    setF (setF (setF (setF (setF (mixTo ws k) k (xo u0 (xo c4 (rot c1 1)))) (k + 1) (xo u1 (xo c0 (rot c2 1)))) (k + 2) (xo u2 (xo c1 (rot c3 1)))) (k + 3) (xo u3 (xo c2 (rot c4 1)))) (k + 4) (xo u4 (xo c3 (rot c0 1))) j = mixTo ws (k + 5) j := by
  obtain ⟨rfl, rfl, rfl, rfl, rfl⟩ := HC
  subst e0 e1 e2 e3 e4
  have n0 : mixTo ws k k = ws k := by simp [mixTo]
  have n1 : mixTo ws k (k + 1) = ws (k + 1) := by unfold mixTo; rw [if_neg (by omega)]
  have n2 : mixTo ws k (k + 2) = ws (k + 2) := by unfold mixTo; rw [if_neg (by omega)]
  have n3 : mixTo ws k (k + 3) = ws (k + 3) := by unfold mixTo; rw [if_neg (by omega)]
  have n4 : mixTo ws k (k + 4) = ws (k + 4) := by unfold mixTo; rw [if_neg (by omega)]
  rw [n0, n1, n2, n3, n4]
  unfold setF
  by_cases j4 : j = k + 4
  · subst j4
    rw [if_pos rfl]; simp only [mixTo, if_pos (show k + 4 < k + 5 by omega), mixF, show (k + 4 + 4) % 5 = 3 by omega, show (k + 4 + 1) % 5 = 0 by omega]
  rw [if_neg j4]
  by_cases j3 : j = k + 3
  · subst j3
    rw [if_pos rfl]; simp only [mixTo, if_pos (show k + 3 < k + 5 by omega), mixF, show (k + 3 + 4) % 5 = 2 by omega, show (k + 3 + 1) % 5 = 4 by omega]
  rw [if_neg j3]
  by_cases j2 : j = k + 2
  · subst j2
    rw [if_pos rfl]; simp only [mixTo, if_pos (show k + 2 < k + 5 by omega), mixF, show (k + 2 + 4) % 5 = 1 by omega, show (k + 2 + 1) % 5 = 3 by omega]
  rw [if_neg j2]
  by_cases j1 : j = k + 1
  · subst j1
    rw [if_pos rfl]; simp only [mixTo, if_pos (show k + 1 < k + 5 by omega), mixF, show (k + 1 + 4) % 5 = 0 by omega, show (k + 1 + 1) % 5 = 2 by omega]
  rw [if_neg j1]
  by_cases j0 : j = k
  · subst j0
    rw [if_pos rfl]; simp only [mixTo, if_pos (show j < j + 5 by omega), mixF, show (j + 4) % 5 = 4 by omega, show (j + 1) % 5 = 1 by omega]
  rw [if_neg j0]
  unfold mixTo
  by_cases jl : j < k
  · rw [if_pos jl, if_pos (by omega)]
  · rw [if_neg jl, if_neg (by omega)]
theorem mixTo_end (ws : Nat → Int) (j : Nat) (h : j < 25) : mixTo ws 25 j = mixF ws j := by simp [mixTo, h]

set_option maxRecDepth 100000 in
set_option maxHeartbeats 1000000 in
theorem mixColumns_calls (ws : Nat → Int) (t : Int) (w : World) (b : Nat) (H : Held w b ws t) :
    Calls Tryd.prog 38 #[.pointer (some ⟨b, 0, none⟩)] w fun e w' => e = .returned (.tuple #[]) ∧ Held w' b (mixF ws) t ∧ Kept b w w' := by
  go_enter Tryd.func38, Tryd.ntmps38
  go_wp2_with fail
  refine (column_calls 0 (by omega) ws t _ b H).mono ?_
  rintro e w1 ⟨rfl, n1, rfl⟩
  go_wp2_with fail
  refine (column_calls 1 (by omega) ws t _ b (H.drewN _)).mono ?_
  rintro e w1 ⟨rfl, n2, rfl⟩
  go_wp2_with fail
  refine (column_calls 2 (by omega) ws t _ b (H.drewN _)).mono ?_
  rintro e w1 ⟨rfl, n3, rfl⟩
  go_wp2_with fail
  refine (column_calls 3 (by omega) ws t _ b (H.drewN _)).mono ?_
  rintro e w1 ⟨rfl, n4, rfl⟩
  go_wp2_with fail
  refine (column_calls 4 (by omega) ws t _ b (H.drewN _)).mono ?_
  rintro e w1 ⟨rfl, n5, rfl⟩
  go_wp2_with fail
  generalize hc0 : colF ws 0 = c0
  generalize hc1 : colF ws 1 = c1
  generalize hc2 : colF ws 2 = c2
  generalize hc3 : colF ws 3 = c3
  generalize hc4 : colF ws 4 = c4
  have HC : Hid (colF ws 0 = c0 ∧ colF ws 1 = c1 ∧ colF ws 2 = c2 ∧ colF ws 3 = c3 ∧ colF ws 4 = c4) := ⟨hc0, hc1, hc2, hc3, hc4⟩
  clear hc0 hc1 hc2 hc3 hc4
  go_loopg [7] 5 (fun g r wr => ∃ k : Nat, g = 5 - k / 5 ∧ k ≤ 25 ∧ Hid (k % 5 = 0) ∧ r = .int .i64 k ∧ Held wr b (mixTo ws k) t ∧ Kept b w wr)
  case atStart => 
    exact ⟨0, rfl, by omega, rfl, rfl, (H.drewN _).congr (fun j _ => by simp [mixTo]), (Kept.refl b w).drewN _⟩
  case round =>
    obtain ⟨k, hg, hk, h5, rfl, HK, KK⟩ := hrel
    have HG : Hid (gk = 5 - k / 5) := hg
    clear hg
    by_cases hlt : k < 25
    · have h20 : k ≤ 20 := by have := h5.out; omega
      have HKK : Hid (Kept b w wr) := KK
      clear KK H
      have H0 : Held wr b (mixTo ws k) t := HK
      clear HK
      have g0 := H0.at_ k (by omega)
      have f0 := H0.free k
      have HH0 : Hid (Held wr b (mixTo ws k) t) := H0
      clear H0
      generalize hv : mixTo ws k k = u0 at g0
      have HV0 : Hid (mixTo ws k k = u0) := hv
      clear hv
      go_upto_region 8 with fail
      go_cut [] (fun wx => Held wx b (setF (mixTo ws k) k (xo u0 (xo c4 (rot c1 1)))) t ∧ Kept b wr wx)
      case first =>
        go_region_with (go_at_call 50; refine (turned_calls _ 1 (by omega) _).mono ?_; rintro e w' ⟨rfl, rfl⟩)
        all_goals (go_wp2_with fail; go_meet; exact ⟨(HH0.out.set _ _ (by omega)).drew, ((Kept.refl _ _).set _ _).drew⟩)
      case rest =>
        obtain ⟨H1, K1⟩ := hcut
        have HK1 : Hid (Kept b wr wc) := K1
        clear K1 g0 f0
        generalize wc = w1 at *
        have g1 := H1.at_ (k + 1) (by omega)
        have f1 := H1.free (k + 1)
        have HH1 : Hid (Held w1 b (setF (mixTo ws k) k (xo u0 (xo c4 (rot c1 1)))) t) := H1
        clear H1
        rw [show (setF (mixTo ws k) k (xo u0 (xo c4 (rot c1 1)))) (k + 1) = mixTo ws k (k + 1) by simp [setF]] at g1
        generalize hv : mixTo ws k (k + 1) = u1 at g1
        have HV1 : Hid (mixTo ws k (k + 1) = u1) := hv
        clear hv
        have iw1 : IntKind.i64.wrap ((k : Int) + 1) = (k : Int) + 1 := by rw [IntKind.wrap_i64]; omega
        have il1 : (k : Int) + 1 < 25 := by omega
        have in1 : (0 : Int) ≤ (k : Int) + 1 := by omega
        have it1 : ((k : Int) + 1).toNat = k + 1 := by omega
        go_upto_region 9 with fail
        go_cut [] (fun wx => Held wx b (setF (setF (mixTo ws k) k (xo u0 (xo c4 (rot c1 1)))) (k + 1) (xo u1 (xo c0 (rot c2 1)))) t ∧ Kept b w1 wx)
        case first =>
          go_region_with (go_at_call 50; refine (turned_calls _ 1 (by omega) _).mono ?_; rintro e w' ⟨rfl, rfl⟩)
          all_goals (go_wp2_with fail; go_meet; exact ⟨(HH1.out.set _ _ (by omega)).drew, ((Kept.refl _ _).set _ _).drew⟩)
        case rest =>
          obtain ⟨H2, K2⟩ := hcut
          have HK2 : Hid (Kept b w1 wc) := K2
          clear K2 g1 f1
          generalize wc = w2 at *
          have g2 := H2.at_ (k + 2) (by omega)
          have f2 := H2.free (k + 2)
          have HH2 : Hid (Held w2 b (setF (setF (mixTo ws k) k (xo u0 (xo c4 (rot c1 1)))) (k + 1) (xo u1 (xo c0 (rot c2 1)))) t) := H2
          clear H2
          rw [show (setF (setF (mixTo ws k) k (xo u0 (xo c4 (rot c1 1)))) (k + 1) (xo u1 (xo c0 (rot c2 1)))) (k + 2) = mixTo ws k (k + 2) by simp [setF]] at g2
          generalize hv : mixTo ws k (k + 2) = u2 at g2
          have HV2 : Hid (mixTo ws k (k + 2) = u2) := hv
          clear hv
          have iw2 : IntKind.i64.wrap ((k : Int) + 2) = (k : Int) + 2 := by rw [IntKind.wrap_i64]; omega
          have il2 : (k : Int) + 2 < 25 := by omega
          have in2 : (0 : Int) ≤ (k : Int) + 2 := by omega
          have it2 : ((k : Int) + 2).toNat = k + 2 := by omega
          go_upto_region 10 with fail
          go_cut [] (fun wx => Held wx b (setF (setF (setF (mixTo ws k) k (xo u0 (xo c4 (rot c1 1)))) (k + 1) (xo u1 (xo c0 (rot c2 1)))) (k + 2) (xo u2 (xo c1 (rot c3 1)))) t ∧ Kept b w2 wx)
          case first =>
            go_region_with (go_at_call 50; refine (turned_calls _ 1 (by omega) _).mono ?_; rintro e w' ⟨rfl, rfl⟩)
            all_goals (go_wp2_with fail; go_meet; exact ⟨(HH2.out.set _ _ (by omega)).drew, ((Kept.refl _ _).set _ _).drew⟩)
          case rest =>
            obtain ⟨H3, K3⟩ := hcut
            have HK3 : Hid (Kept b w2 wc) := K3
            clear K3 g2 f2
            generalize wc = w3 at *
            have g3 := H3.at_ (k + 3) (by omega)
            have f3 := H3.free (k + 3)
            have HH3 : Hid (Held w3 b (setF (setF (setF (mixTo ws k) k (xo u0 (xo c4 (rot c1 1)))) (k + 1) (xo u1 (xo c0 (rot c2 1)))) (k + 2) (xo u2 (xo c1 (rot c3 1)))) t) := H3
            clear H3
            rw [show (setF (setF (setF (mixTo ws k) k (xo u0 (xo c4 (rot c1 1)))) (k + 1) (xo u1 (xo c0 (rot c2 1)))) (k + 2) (xo u2 (xo c1 (rot c3 1)))) (k + 3) = mixTo ws k (k + 3) by simp [setF]] at g3
            generalize hv : mixTo ws k (k + 3) = u3 at g3
            have HV3 : Hid (mixTo ws k (k + 3) = u3) := hv
            clear hv
            have iw3 : IntKind.i64.wrap ((k : Int) + 3) = (k : Int) + 3 := by rw [IntKind.wrap_i64]; omega
            have il3 : (k : Int) + 3 < 25 := by omega
            have in3 : (0 : Int) ≤ (k : Int) + 3 := by omega
            have it3 : ((k : Int) + 3).toNat = k + 3 := by omega
            go_upto_region 11 with fail
            go_cut [] (fun wx => Held wx b (setF (setF (setF (setF (mixTo ws k) k (xo u0 (xo c4 (rot c1 1)))) (k + 1) (xo u1 (xo c0 (rot c2 1)))) (k + 2) (xo u2 (xo c1 (rot c3 1)))) (k + 3) (xo u3 (xo c2 (rot c4 1)))) t ∧ Kept b w3 wx)
            case first =>
              go_region_with (go_at_call 50; refine (turned_calls _ 1 (by omega) _).mono ?_; rintro e w' ⟨rfl, rfl⟩)
              all_goals (go_wp2_with fail; go_meet; exact ⟨(HH3.out.set _ _ (by omega)).drew, ((Kept.refl _ _).set _ _).drew⟩)
            case rest =>
              obtain ⟨H4, K4⟩ := hcut
              have HK4 : Hid (Kept b w3 wc) := K4
              clear K4 g3 f3
              generalize wc = w4 at *
              have g4 := H4.at_ (k + 4) (by omega)
              have f4 := H4.free (k + 4)
              have HH4 : Hid (Held w4 b (setF (setF (setF (setF (mixTo ws k) k (xo u0 (xo c4 (rot c1 1)))) (k + 1) (xo u1 (xo c0 (rot c2 1)))) (k + 2) (xo u2 (xo c1 (rot c3 1)))) (k + 3) (xo u3 (xo c2 (rot c4 1)))) t) := H4
              clear H4
              rw [show (setF (setF (setF (setF (mixTo ws k) k (xo u0 (xo c4 (rot c1 1)))) (k + 1) (xo u1 (xo c0 (rot c2 1)))) (k + 2) (xo u2 (xo c1 (rot c3 1)))) (k + 3) (xo u3 (xo c2 (rot c4 1)))) (k + 4) = mixTo ws k (k + 4) by simp [setF]] at g4
              generalize hv : mixTo ws k (k + 4) = u4 at g4
              have HV4 : Hid (mixTo ws k (k + 4) = u4) := hv
              clear hv
              have iw4 : IntKind.i64.wrap ((k : Int) + 4) = (k : Int) + 4 := by rw [IntKind.wrap_i64]; omega
              have il4 : (k : Int) + 4 < 25 := by omega
              have in4 : (0 : Int) ≤ (k : Int) + 4 := by omega
              have it4 : ((k : Int) + 4).toNat = k + 4 := by omega
              go_upto_region 12 with fail
              go_region_with (go_at_call 50; refine (turned_calls _ 1 (by omega) _).mono ?_; rintro e w' ⟨rfl, rfl⟩)
              all_goals
                have H5 := (HH4.out.set (k + 4) (xo u4 (xo c3 (rot c0 1))) (by omega)).drew
                have HE := H5.congr (fun j _ => mixTo_row ws k c0 c1 c2 c3 c4 u0 u1 u2 u3 u4 h5.out HC.out HV0.out HV1.out HV2.out HV3.out HV4.out j)
                have HHE : Hid (Held _ b (mixTo ws (k + 5)) t) := HE
                clear H5 HE
                go_wp2_with fail
                go_roundg (5 - (k + 5) / 5)
                case measure => have := HG.out; omega
                case rel => exact ⟨k + 5, rfl, by omega, (by have := h5.out; show (k + 5) % 5 = 0; omega), by go_num, HHE.out, (((((HKK.out.trans HK1.out).trans HK2.out).trans HK3.out).trans HK4.out).set _ _).drew⟩
    · have : k = 25 := by omega
      subst this
      go_wp2_with fail
      go_end0
      exact ⟨rfl, HK.congr (mixTo_end ws), KK⟩
end Go.Proofs.YtenmjjpkbcogbaaDoor

/- Tabs -/
namespace Go.Proofs.YtenmjjpkbcogbaaDoor
open Go Go.RowKit

def turnsT : List Nat := [0, 1, 62, 28, 27, 36, 44, 6, 55, 20, 3, 10, 43, 25, 39, 41, 45, 15, 21, 8, 18, 2, 61, 56, 14]
def movesT : List Nat := [0, 10, 20, 5, 15, 16, 1, 11, 21, 6, 7, 17, 2, 12, 22, 23, 8, 18, 3, 13, 14, 24, 9, 19, 4]
def wordsT : List Nat := [1, 32898, 9223372036854808714, 9223372039002292224, 32907, 2147483649, 9223372039002292353, 9223372036854808585, 138, 136, 2147516425, 2147483658, 2147516555, 9223372036854775947, 9223372036854808713, 9223372036854808579, 9223372036854808578, 9223372036854775936, 32778, 9223372039002259466, 9223372039002292353, 9223372036854808704, 2147483649, 9223372039002292232]
def turnsAt (i : Nat) : Nat := turnsT.getD i 0
def movesAt (i : Nat) : Nat := movesT.getD i 0
def wordsAt (i : Nat) : Nat := wordsT.getD i 0
theorem turnsAt_lt (i : Nat) (h : i < 25) : turnsAt i < 64 := by
  have : ∀ i : Fin 25, turnsAt i < 64 := by decide
  exact this ⟨i, h⟩
theorem movesAt_lt (i : Nat) (h : i < 25) : movesAt i < 25 := by
  have : ∀ i : Fin 25, movesAt i < 25 := by decide
  exact this ⟨i, h⟩

/-- what the program's three tables hold -/
structure Tabs (w : World) : Prop where
  size : 3 ≤ w.heap.size
  words : ∀ j, j < 24 → w.cell? ⟨0, j, none⟩ = some (.int .u64 (wordsAt j))
  turns : ∀ j, j < 25 → w.cell? ⟨1, j, none⟩ = some (.int .u64 (turnsAt j))
  moves : ∀ j, j < 25 → w.cell? ⟨2, j, none⟩ = some (.int .i64 (movesAt j))

theorem Tabs.kept {w w' : World} {b : Nat} (h : Tabs w) (k : Kept b w w') (hb : 3 ≤ b) : Tabs w' :=
  ⟨Nat.le_trans h.size k.size,
   fun j hj => (World.cell?_of_block (w := w) (k.block 0 (by have := h.size; omega) (by omega))).trans (h.words j hj),
   fun j hj => (World.cell?_of_block (w := w) (k.block 1 (by have := h.size; omega) (by omega))).trans (h.turns j hj),
   fun j hj => (World.cell?_of_block (w := w) (k.block 2 (by have := h.size; omega) (by omega))).trans (h.moves j hj)⟩

def rcells (vs : Nat → Int) : Array Value := ((List.range 25).map (fun i => Value.int .u64 (vs i))).toArray
theorem rcells_size (vs : Nat → Int) : (rcells vs).size = 25 := by simp [rcells]
theorem rcells_at (vs : Nat → Int) (j : Nat) (h : j < 25) : (rcells vs)[j]? = some (.int .u64 (vs j)) := by
  unfold rcells
  rw [List.getElem?_toArray]
  simp [h]
theorem rcells_set (vs : Nat → Int) (i : Nat) (v : Int) (h : i < 25) : (rcells vs).setIfInBounds i (.int .u64 v) = rcells (setF vs i v) := by
  apply Array.ext_getElem?
  intro j
  rw [Array.getElem?_setIfInBounds]
  by_cases hij : i = j
  · subst hij
    rw [if_pos rfl, if_pos (by rw [rcells_size]; omega), rcells_at _ _ h]
    simp [setF]
  · rw [if_neg hij]
    by_cases hj : j < 25
    · rw [rcells_at _ _ hj, rcells_at _ _ hj]
      simp [setF, Ne.symm hij]
    · rw [Array.getElem?_eq_none (by rw [rcells_size]; omega), Array.getElem?_eq_none (by rw [rcells_size]; omega)]

/-- a row of 25 words by itself -/
structure RowAt (w : World) (b : Nat) (vs : Nat → Int) : Prop where
  block : w.heap[b]? = some (.cells (rcells vs) 50 (0, 0))
namespace RowAt
variable {w : World} {b : Nat} {vs : Nat → Int}
theorem at_ (h : RowAt w b vs) (j : Nat) (hj : j < 25) : w.cell? ⟨b, j, none⟩ = some (.int .u64 (vs j)) := by
  rw [cell_of_row w b j _ _ _ h.block, rcells_at _ _ hj]
theorem free (h : RowAt w b vs) (j : Nat) : w.frozen? ⟨b, j, none⟩ = false := frozen_of_row w b j _ _ h.block
theorem set (h : RowAt w b vs) (i : Nat) (v : Int) (hi : i < 25) : RowAt (w.setCell ⟨b, i, none⟩ (.int .u64 v)) b (setF vs i v) :=
  ⟨by rw [heap_setCell_same w b i _ _ _ h.block, rcells_set _ _ _ hi]⟩
theorem drew (h : RowAt w b vs) : RowAt w.drew b vs := ⟨h.block⟩
theorem drewN (h : RowAt w b vs) (n : Nat) : RowAt (w.drewN n) b vs := ⟨h.block⟩
theorem other (h : RowAt w b vs) (c i : Nat) (v : Value) (hn : b ≠ c) : RowAt (w.setCell ⟨c, i, none⟩ v) b vs := ⟨by rw [heap_setCell_other w ⟨c, i, none⟩ b v hn]; exact h.block⟩
end RowAt
theorem Held.other {w : World} {b : Nat} {ws : Nat → Int} {t : Int} (h : Held w b ws t) (c i : Nat) (v : Value) (hn : b ≠ c) : Held (w.setCell ⟨c, i, none⟩ v) b ws t := ⟨by rw [heap_setCell_other w ⟨c, i, none⟩ b v hn]; exact h.block⟩
theorem Kept.new {b : Nat} {w w' : World} (h : Kept b w w') (g i : Nat) (v : Value) (hg : w.heap.size ≤ g) : Kept b w (w'.setCell ⟨g, i, none⟩ v) :=
  ⟨h.os, h.tape, h.output, by simpa [World.setCell] using h.size, fun k hk hn => (heap_setCell_other w' ⟨g, i, none⟩ k v (by show k ≠ g; omega)).trans (h.block k hk hn)⟩

/-- the second step, as far as place k -/
def vTo (ws : Nat → Int) : Nat → Nat → Int
  | 0 => fun _ => 0
  | k + 1 => setF (vTo ws k) (movesAt k) (rot (ws k) (turnsAt k))
/-- the third step, at place j -/
def chiF (vs : Nat → Int) (j : Nat) : Int := xo (vs j) (an (vs (j / 5 * 5 + (j + 2) % 5)) (vs (j / 5 * 5 + (j + 1) % 5)))
def chiTo (ws vs : Nat → Int) (k : Nat) : Nat → Int := fun j => if j < k then chiF vs j else ws j

theorem chiTo_row (ws vs : Nat → Int) (k : Nat) (a b c d e : Int) (h5 : k % 5 = 0) (ea : vs k = a) (eb : vs (k + 1) = b) (ec : vs (k + 2) = c) (ed : vs (k + 3) = d) (ee : vs (k + 4) = e) (j : Nat) :
    setF (setF (setF (setF (setF (chiTo ws vs k) k (xo a (an c b))) (k + 1) (xo b (an d c))) (k + 2) (xo c (an e d))) (k + 3) (xo d (an a e))) (k + 4) (xo e (an b a)) j = chiTo ws vs (k + 5) j := by
  subst ea eb ec ed ee
  unfold setF
  by_cases j4 : j = k + 4
  · subst j4
    rw [if_pos rfl]; simp only [chiTo, if_pos (show k + 4 < k + 5 by omega), chiF, show (k + 4) / 5 * 5 + (k + 4 + 2) % 5 = k + 1 by omega, show (k + 4) / 5 * 5 + (k + 4 + 1) % 5 = k by omega]
  rw [if_neg j4]
  by_cases j3 : j = k + 3
  · subst j3
    rw [if_pos rfl]; simp only [chiTo, if_pos (show k + 3 < k + 5 by omega), chiF, show (k + 3) / 5 * 5 + (k + 3 + 2) % 5 = k by omega, show (k + 3) / 5 * 5 + (k + 3 + 1) % 5 = k + 4 by omega]
  rw [if_neg j3]
  by_cases j2 : j = k + 2
  · subst j2
    rw [if_pos rfl]; simp only [chiTo, if_pos (show k + 2 < k + 5 by omega), chiF, show (k + 2) / 5 * 5 + (k + 2 + 2) % 5 = k + 4 by omega, show (k + 2) / 5 * 5 + (k + 2 + 1) % 5 = k + 3 by omega]
  rw [if_neg j2]
  by_cases j1 : j = k + 1
  · subst j1
    rw [if_pos rfl]; simp only [chiTo, if_pos (show k + 1 < k + 5 by omega), chiF, show (k + 1) / 5 * 5 + (k + 1 + 2) % 5 = k + 3 by omega, show (k + 1) / 5 * 5 + (k + 1 + 1) % 5 = k + 2 by omega]
  rw [if_neg j1]
  by_cases j0 : j = k
  · subst j0
    rw [if_pos rfl]; simp only [chiTo, if_pos (show j < j + 5 by omega), chiF, show j / 5 * 5 + (j + 2) % 5 = j + 2 by omega, show j / 5 * 5 + (j + 1) % 5 = j + 1 by omega]
  rw [if_neg j0]
  unfold chiTo
  by_cases jl : j < k
  · rw [if_pos jl, if_pos (by omega)]
  · rw [if_neg jl, if_neg (by omega)]
theorem chiTo_end (ws vs : Nat → Int) (j : Nat) (h : j < 25) : chiTo ws vs 25 j = chiF vs j := by simp [chiTo, h]
theorem chiTo_zero (ws vs : Nat → Int) (j : Nat) : chiTo ws vs 0 j = ws j := by simp [chiTo]
end Go.Proofs.YtenmjjpkbcogbaaDoor

/- Mover -/
namespace Go.Proofs.YtenmjjpkbcogbaaDoor
open Go.RowKit

set_option maxRecDepth 100000 in
set_option maxHeartbeats 1000000 in
theorem moveRows_calls (ws : Nat → Int) (t : Int) (w : World) (b : Nat) (H : Held w b ws t) (T : Tabs w) (hb : 3 ≤ b) :
    Calls Tryd.prog 39 #[.pointer (some ⟨b, 0, none⟩)] w fun e w' => e = .returned (.tuple #[]) ∧ Held w' b (chiF (vTo ws 25)) t ∧ Kept b w w' := by
  have hbs := H.lt
  go_enter Tryd.func39, Tryd.ntmps39
  go_wp2_with fail
  obtain ⟨v, hv⟩ : ∃ v, v = w.heap.size := ⟨_, rfl⟩
  have HV : Hid (v = w.heap.size) := hv
  rw [← hv]
  go_loopg [3] 25 (fun g r wr => ∃ k : Nat, g = 25 - k ∧ k ≤ 25 ∧ r = .int .i64 k ∧ RowAt wr v (vTo ws k) ∧ Held wr b ws t ∧ Kept b w wr)
  case atStart =>
    have hA : (w.alloc (.cells (rcells (vTo ws 0)) 50)).heap[w.heap.size]? = some (.cells (rcells (vTo ws 0)) 50 (0, 0)) := heap_alloc_new _ _
    exact ⟨0, rfl, by omega, rfl, ⟨by rw [hv]; exact hA⟩, H.kept ((Kept.refl (b + 1) w).alloc _) (by omega), (Kept.refl b w).alloc _⟩
  case round =>
    obtain ⟨k, hg, hk, rfl, HR, HK, KK⟩ := hrel
    have HG : Hid (gk = 25 - k) := hg
    clear hg hv
    by_cases hlt : k < 25
    · have T' := T.kept KK hb
      have m1 := T'.moves k hlt
      have m2 := T'.turns k hlt
      have l1 := movesAt_lt k hlt
      have l2 := turnsAt_lt k hlt
      have c1 := HK.at_ k hlt
      have c2 := HR.at_ (movesAt k) l1
      have c3 := HR.free (movesAt k)
      have HRR : Hid (RowAt wr v (vTo ws k)) := HR
      have HHK : Hid (Held wr b ws t) := HK
      have HKK : Hid (Kept b w wr) := KK
      have HM : Hid (setF (vTo ws k) (movesAt k) (rot (ws k) (turnsAt k)) = vTo ws (k + 1)) := rfl
      clear HR HK KK T' H T
      generalize movesAt k = m at *
      generalize turnsAt k = tu at *
      go_wp2_with fail
      go_region_with (go_at_call 50; refine (turned_calls _ _ (by assumption) _).mono ?_; rintro e w' ⟨rfl, rfl⟩)
      all_goals
        go_wp2_with fail
        go_roundg (25 - (k + 1))
        case measure => have := HG.out; omega
        case rel => exact ⟨k + 1, rfl, by omega, by go_num, by rw [← HM.out]; exact (HRR.out.set _ _ (by omega)).drew, (HHK.out.other _ _ _ (by have := HV.out; omega)).drew, (HKK.out.new _ _ _ (by have := HV.out; omega)).drew⟩
    · have : k = 25 := by omega
      subst this
      generalize hvt : vTo ws 25 = vs at *
      have HVT : Hid (vTo ws 25 = vs) := hvt
      have HRR : Hid (RowAt wr v vs) := HR
      clear hvt HR
      go_wp2_with fail
      go_loopg [4, 5, 6, 7, 8, 9] 5 (fun g r _ _ _ _ _ wx => ∃ k : Nat, g = 5 - k / 5 ∧ k ≤ 25 ∧ Hid (k % 5 = 0) ∧ r = .int .i64 k ∧ RowAt wx v vs ∧ Held wx b (chiTo ws vs k) t ∧ Kept b w wx)
      case atStart => exact ⟨0, rfl, by omega, rfl, rfl, HRR.out, HK.congr (fun j _ => (chiTo_zero ws vs j).symm), KK⟩
      case round =>
        clear HK KK H T HRR HG
        obtain ⟨k, hg, hk, h5, rfl, HR, HK, KK⟩ := hrel
        have HG : Hid (gk = 5 - k / 5) := hg
        clear hg
        by_cases hlt : k < 25
        · have h20 : k ≤ 20 := by have := h5.out; omega
          have r0 := HR.at_ k (by omega)
          have r1 := HR.at_ (k + 1) (by omega)
          have r2 := HR.at_ (k + 2) (by omega)
          have r3 := HR.at_ (k + 3) (by omega)
          have r4 := HR.at_ (k + 4) (by omega)
          generalize hva : vs k = va at r0
          generalize hvb : vs (k + 1) = vb at r1
          generalize hvc : vs (k + 2) = vc at r2
          generalize hvd : vs (k + 3) = vd at r3
          generalize hve : vs (k + 4) = ve at r4
          have HE : Hid (vs k = va ∧ vs (k + 1) = vb ∧ vs (k + 2) = vc ∧ vs (k + 3) = vd ∧ vs (k + 4) = ve) := ⟨hva, hvb, hvc, hvd, hve⟩
          clear hva hvb hvc hvd hve
          obtain ⟨q0, d0⟩ : ∃ q, wr.cell? ⟨b, k, none⟩ = some q := ⟨_, HK.at_ k (by omega)⟩
          obtain ⟨q1, d1⟩ : ∃ q, wr.cell? ⟨b, k + 1, none⟩ = some q := ⟨_, HK.at_ (k + 1) (by omega)⟩
          obtain ⟨q2, d2⟩ : ∃ q, wr.cell? ⟨b, k + 2, none⟩ = some q := ⟨_, HK.at_ (k + 2) (by omega)⟩
          obtain ⟨q3, d3⟩ : ∃ q, wr.cell? ⟨b, k + 3, none⟩ = some q := ⟨_, HK.at_ (k + 3) (by omega)⟩
          obtain ⟨q4, d4⟩ : ∃ q, wr.cell? ⟨b, k + 4, none⟩ = some q := ⟨_, HK.at_ (k + 4) (by omega)⟩
          have f0 := HK.free k
          have f1 := HK.free (k + 1)
          have f2 := HK.free (k + 2)
          have f3 := HK.free (k + 3)
          have f4 := HK.free (k + 4)
          have HRR : Hid (RowAt wr v vs) := HR
          have HHK : Hid (Held wr b (chiTo ws vs k) t) := HK
          have HKK : Hid (Kept b w wr) := KK
          clear HR HK KK
          go_wp2
          go_roundg (5 - (k + 5) / 5)
          case measure => have := HG.out; omega
          case rel =>
            obtain ⟨ea, eb, ec, ed, ee⟩ := HE.out
            have hn : v ≠ b := by have := HV.out; omega
            have HH := (((((HHK.out.set k (xo va (an vc vb)) (by omega)).set (k + 1) (xo vb (an vd vc)) (by omega)).set (k + 2) (xo vc (an ve vd)) (by omega)).set (k + 3) (xo vd (an va ve)) (by omega)).set (k + 4) (xo ve (an vb va)) (by omega)).congr (fun j _ => chiTo_row ws vs k va vb vc vd ve h5.out ea eb ec ed ee j)
            exact ⟨k + 5, rfl, by omega, (by have := h5.out; show (k + 5) % 5 = 0; omega), by go_num, ((((HRR.out.other _ _ _ hn).other _ _ _ hn).other _ _ _ hn).other _ _ _ hn).other _ _ _ hn, HH, ((((HKK.out.set _ _).set _ _).set _ _).set _ _).set _ _⟩
        · have : k = 25 := by omega
          subst this
          go_wp2_with fail
          go_end0
          exact ⟨rfl, by rw [HVT.out]; exact HK.congr (chiTo_end ws vs), KK⟩
end Go.Proofs.YtenmjjpkbcogbaaDoor

/- Mix -/
namespace Go.Proofs.YtenmjjpkbcogbaaDoor
open Go.RowKit

def threeF (ws : Nat → Int) : Nat → Int := chiF (vTo (mixF ws) 25)
def roundF (i : Nat) (ws : Nat → Int) : Nat → Int := setF (threeF ws) 0 (xo (threeF ws 0) (wordsAt i))
def permTo (ws : Nat → Int) : Nat → Nat → Int
  | 0 => ws
  | k + 1 => roundF k (permTo ws k)
def permF (ws : Nat → Int) : Nat → Int := permTo ws 24

set_option maxRecDepth 100000 in
set_option maxHeartbeats 1000000 in
theorem mix_calls (ws : Nat → Int) (t : Int) (w : World) (b : Nat) (H : Held w b ws t) (T : Tabs w) (hb : 3 ≤ b) :
    Calls Tryd.prog 29 #[.pointer (some ⟨b, 0, none⟩)] w fun e w' => e = .returned (.tuple #[]) ∧ Held w' b (permF ws) t ∧ Kept b w w' := by
  go_enter Tryd.func29, Tryd.ntmps29
  go_wp2_with fail
  go_loopg [2] 24 (fun g r wr => ∃ k : Nat, g = 24 - k ∧ k ≤ 24 ∧ r = .int .i64 k ∧ Held wr b (permTo ws k) t ∧ Kept b w wr)
  case atStart => exact ⟨0, rfl, by omega, rfl, H, Kept.refl b w⟩
  case round =>
    obtain ⟨k, hg, hk, rfl, HK, KK⟩ := hrel
    have HG : Hid (gk = 24 - k) := hg
    clear hg
    by_cases hlt : k < 24
    · have HKK : Hid (Kept b w wr) := KK
      have HHK : Hid (Held wr b (permTo ws k) t) := HK
      have HT : Hid (Tabs w) := T
      have HM : Hid (roundF k (permTo ws k) = permTo ws (k + 1)) := rfl
      clear KK HK H T
      generalize permTo ws k = vs at *
      go_wp2_with fail
      refine (mixColumns_calls vs t _ b HHK.out).mono ?_
      rintro e w1 ⟨rfl, H1, K1⟩
      have HH1 : Hid (Held w1 b (mixF vs) t) := H1
      have HK1 : Hid (Kept b w w1) := HKK.out.trans K1
      clear H1 K1
      go_wp2_with fail
      refine (moveRows_calls (mixF vs) t _ b HH1.out (HT.out.kept HK1.out hb) hb).mono ?_
      rintro e w2 ⟨rfl, H2, K2⟩
      have HH2 : Hid (Held w2 b (threeF vs) t) := H2
      have HK2 : Hid (Kept b w w2) := HK1.out.trans K2
      have c0 := HH2.out.at_ 0 (by omega)
      have f0 := HH2.out.free 0
      have t0 := (HT.out.kept HK2.out hb).words k hlt
      clear H2 K2
      generalize hu : threeF vs 0 = u at c0
      have HU : Hid (threeF vs 0 = u) := hu
      generalize hx : wordsAt k = x at t0
      have HX : Hid (wordsAt k = x) := hx
      clear hu hx
      go_wp2_with fail
      go_region
      all_goals
        go_wp2_with fail
        go_roundg (24 - (k + 1))
        case measure => have := HG.out; omega
        case rel => exact ⟨k + 1, rfl, by omega, by go_num, by rw [← HM.out]; unfold roundF; rw [HU.out, HX.out]; exact (HH2.out.set 0 (xo u x) (by omega)).drew, (HK2.out.set _ _).drew⟩
    · have : k = 24 := by omega
      subst this
      go_wp2_with fail
      go_end0
      exact ⟨rfl, HK, KK⟩
end Go.Proofs.YtenmjjpkbcogbaaDoor

/- Write -/
namespace Go.Proofs.YtenmjjpkbcogbaaDoor
open Go.RowKit

def flipF (ws : Nat → Int) (t c : Nat) : Nat → Int := setF ws (t / 8) (xo (ws (t / 8)) (IntKind.u64.wrap (c * 2 ^ (t % 8 * 8))))
def byteF (st : (Nat → Int) × Nat) (c : UInt8) : (Nat → Int) × Nat :=
  if st.2 + 1 = 136 then (permF (flipF st.1 st.2 c.toNat), 0) else (flipF st.1 st.2 c.toNat, st.2 + 1)
def writeF (st : (Nat → Int) × Nat) (l : List UInt8) : (Nat → Int) × Nat := l.foldl byteF st
theorem byteF_lt (st : (Nat → Int) × Nat) (c : UInt8) (h : st.2 < 136) : (byteF st c).2 < 136 := by
  unfold byteF
  split
  · exact (by decide : 0 < 136)
  · show st.2 + 1 < 136; omega
theorem writeF_lt (l : List UInt8) : ∀ (st : (Nat → Int) × Nat), st.2 < 136 → (writeF st l).2 < 136 := by
  induction l with
  | nil => intro st h; exact h
  | cons c l ih => intro st h; exact ih _ (byteF_lt st c h)
theorem writeF_append (st : (Nat → Int) × Nat) (l m : List UInt8) : writeF st (l ++ m) = writeF (writeF st l) m := by simp [writeF]
theorem writeF_snoc (st : (Nat → Int) × Nat) (s : ByteArray) (k : Nat) (h : k < s.size) : writeF st (s.data.toList.take (k + 1)) = byteF (writeF st (s.data.toList.take k)) s[k] := by
  have e : s.data.toList.take (k + 1) = s.data.toList.take k ++ [s[k]] := by
    rw [List.take_succ_eq_append_getElem (by simpa using h)]; rfl
  rw [e, writeF_append]; rfl

set_option maxRecDepth 100000 in
set_option maxHeartbeats 1000000 in
theorem write_calls (st : (Nat → Int) × Nat) (s : ByteArray) (hs : s.size ≤ maxLen) (w : World) (b : Nat) (H : Held w b st.1 st.2) (ht : st.2 < 136) (T : Tabs w) (hb : 3 ≤ b) :
    Calls Tryd.prog 16 #[.pointer (some ⟨b, 0, none⟩), .string s] w fun e w' => e = .returned (.tuple #[]) ∧ Held w' b (writeF st s.data.toList).1 (writeF st s.data.toList).2 ∧ Kept b w w' := by
  unfold maxLen at hs
  go_enter Tryd.func16, Tryd.ntmps16
  go_wp2_with fail
  go_loopg [4] s.size (fun g r wr => ∃ k : Nat, g = s.size - k ∧ k ≤ s.size ∧ r = .int .i64 k ∧ Held wr b (writeF st (s.data.toList.take k)).1 (writeF st (s.data.toList.take k)).2 ∧ Kept b w wr)
  case atStart => exact ⟨0, rfl, by omega, rfl, H, Kept.refl b w⟩
  case round =>
    obtain ⟨k, hg, hk, rfl, HK, KK⟩ := hrel
    have HG : Hid (gk = s.size - k) := hg
    clear hg
    by_cases hlt : k < s.size
    · have hst := writeF_lt (s.data.toList.take k) st ht
      have HS : Hid (writeF st (s.data.toList.take (k + 1)) = byteF (writeF st (s.data.toList.take k)) s[k]) := writeF_snoc st s k hlt
      generalize hq : writeF st (s.data.toList.take k) = q at *
      clear hq
      obtain ⟨vs, t⟩ := q
      simp only at hst HK
      have HKK : Hid (Kept b w wr) := KK
      have HHK : Hid (Held wr b vs t) := HK
      have HT : Hid (Tabs w) := T
      have c0 := HK.at_ (t / 8) (by omega)
      have f0 := HK.free (t / 8)
      have c1 := HK.taken
      have f1 := HK.free 25
      clear KK HK H T
      have hc8 : s[k].toNat < 256 := s[k].toNat_lt
      generalize hu : vs (t / 8) = u at c0
      have HU : Hid (vs (t / 8) = u) := hu
      clear hu
      have hne : t / 8 ≠ 25 := by omega
      go_upto_region 3 with fail
      go_cut [] (fun wx => Held wx b (flipF vs t s[k].toNat) t ∧ Kept b wr wx)
      case first =>
        go_region_with (go_at_call 28; refine (flip_calls t _ hc8 u _ b hst (by go_simp) (by go_simp)).mono ?_; rintro e w' ⟨rfl, rfl⟩)
        all_goals (go_wp2_with fail; go_meet; exact ⟨by unfold flipF; rw [HU.out]; exact (HHK.out.set (t / 8) _ (by omega)).drew.drew, ((Kept.refl _ _).set _ _).drew.drew⟩)
      case rest =>
        obtain ⟨H1, K1⟩ := hcut
        generalize hfl : flipF vs t s[k].toNat = us at *
        have HFL : Hid (flipF vs t s[k].toNat = us) := hfl
        have HH1 : Hid (Held wc b us t) := H1
        have HK1 : Hid (Kept b w wc) := HKK.out.trans K1
        clear c0 f0 c1 f1 hfl H1 K1
        have c1 := HH1.out.taken
        have f1 := HH1.out.free 25
        by_cases he : t + 1 = 136
        · have hbe : ((t : Int) + 1 == 136) = true := beq_iff_eq.2 (by omega)
          go_wp2_with fail
          have H2 := HH1.out.setTaken ((t : Int) + 1)
          have K2 := HK1.out.set 25 (.int .i64 ((t : Int) + 1))
          refine (mix_calls us _ _ b H2 (HT.out.kept K2 hb) hb).mono ?_
          rintro e w3 ⟨rfl, H3, K3⟩
          have HH3 : Hid (Held w3 b (permF us) ((t : Int) + 1)) := H3
          have HK3 : Hid (Kept b w w3) := K2.trans K3
          have c3 := H3.taken
          have f3 := H3.free 25
          clear H2 K2 H3 K3
          go_wp2_with fail
          go_roundg (s.size - (k + 1))
          case measure => have := HG.out; omega
          case rel =>
            refine ⟨k + 1, rfl, by omega, by go_num, ?_, HK3.out.set _ _⟩
            rw [HS.out]; unfold byteF; simp only; rw [if_pos he, HFL.out]
            exact HH3.out.setTaken 0
        · have hbe : ((t : Int) + 1 == 136) = false := beq_eq_false_iff_ne.2 (by omega)
          go_wp2_with fail
          go_roundg (s.size - (k + 1))
          case measure => have := HG.out; omega
          case rel =>
            refine ⟨k + 1, rfl, by omega, by go_num, ?_, HK1.out.set _ _⟩
            rw [HS.out]; unfold byteF; simp only; rw [if_neg he, HFL.out]
            exact HH1.out.setTaken _
    · have : k = s.size := by omega
      subst this
      have et : s.data.toList.take s.size = s.data.toList := List.take_of_length_le (by simp)
      rw [et] at HK
      go_wp2_with fail
      go_end0
      exact ⟨rfl, HK, KK⟩
end Go.Proofs.YtenmjjpkbcogbaaDoor

/- New -/
namespace Go.Proofs.YtenmjjpkbcogbaaDoor
open Go.RowKit
def zeroF : Nat → Int := fun _ => 0
theorem info29 : (Tryd.prog.info? 50).map (·.size) = some 25 := by kernel_rfl

theorem new_calls (w : World) :
    Calls Tryd.prog 15 #[] w fun e w' => e = .returned (.pointer (some ⟨w.heap.size, 0, none⟩)) ∧ w' = w.alloc (.cells (hcells zeroF 0) 52) := by
  go_enter Tryd.func15, Tryd.ntmps15
  go_wp2
  go_ret
  exact ⟨rfl, rfl⟩

theorem zero_all (ws : Nat → Int) (j : Nat) (h : j < 25) : setF (setF (setF (setF (setF (setF (setF (setF (setF (setF (setF (setF (setF (setF (setF (setF (setF (setF (setF (setF (setF (setF (setF (setF (setF ws 0 0) 1 0) 2 0) 3 0) 4 0) 5 0) 6 0) 7 0) 8 0) 9 0) 10 0) 11 0) 12 0) 13 0) 14 0) 15 0) 16 0) 17 0) 18 0) 19 0) 20 0) 21 0) 22 0) 23 0) 24 0 j = zeroF j := by
  unfold setF zeroF
  repeat (split; rfl)
  omega

def zeros : List Value := [Value.int .u64 0, Value.int .u64 0, Value.int .u64 0, Value.int .u64 0, Value.int .u64 0, Value.int .u64 0, Value.int .u64 0, Value.int .u64 0, Value.int .u64 0, Value.int .u64 0, Value.int .u64 0, Value.int .u64 0, Value.int .u64 0, Value.int .u64 0, Value.int .u64 0, Value.int .u64 0, Value.int .u64 0, Value.int .u64 0, Value.int .u64 0, Value.int .u64 0, Value.int .u64 0, Value.int .u64 0, Value.int .u64 0, Value.int .u64 0, Value.int .u64 0]
theorem held_zeros {w : World} {b : Nat} {ws : Nat → Int} {t : Int} (H : Held w b ws t) : Held (w.setCells b 0 zeros) b zeroF t :=
  ((((((((((((((((((((((((((H.set 0 0 (by omega)).set 1 0 (by omega)).set 2 0 (by omega)).set 3 0 (by omega)).set 4 0 (by omega)).set 5 0 (by omega)).set 6 0 (by omega)).set 7 0 (by omega)).set 8 0 (by omega)).set 9 0 (by omega)).set 10 0 (by omega)).set 11 0 (by omega)).set 12 0 (by omega)).set 13 0 (by omega)).set 14 0 (by omega)).set 15 0 (by omega)).set 16 0 (by omega)).set 17 0 (by omega)).set 18 0 (by omega)).set 19 0 (by omega)).set 20 0 (by omega)).set 21 0 (by omega)).set 22 0 (by omega)).set 23 0 (by omega)).set 24 0 (by omega))).congr (zero_all ws)
theorem kept_cells {b : Nat} {w : World} (vs : List Value) : ∀ (o : Nat) (w' : World), Kept b w w' → Kept b w (w'.setCells b o vs) := by
  induction vs with
  | nil => intro o w' h; exact h
  | cons v r ih => intro o w' h; exact ih (o + 1) _ (h.set o v)

set_option maxRecDepth 100000 in
set_option maxHeartbeats 400000 in
theorem reset_calls (ws : Nat → Int) (t : Int) (w : World) (b : Nat) (H : Held w b ws t) :
    Calls Tryd.prog 19 #[.pointer (some ⟨b, 0, none⟩)] w fun e w' => e = .returned (.tuple #[]) ∧ Held w' b zeroF 0 ∧ Kept b w w' := by
  have ht : w.there b 0 25 := fun j hj => ⟨by rw [Nat.zero_add, H.at_ j hj]; rfl, H.free _⟩
  have HT : Hid (w.there b 0 25) := ht
  clear ht
  have H1 : Held (w.setCells b 0 zeros) b zeroF t := held_zeros H
  have K1 : Kept b w (w.setCells b 0 zeros) := kept_cells zeros 0 w (Kept.refl b w)
  obtain ⟨w1, hw1⟩ : ∃ w1, w1 = w.setCells b 0 zeros := ⟨_, rfl⟩
  rw [← hw1] at H1 K1
  have HW1 : Hid (w1 = w.setCells b 0 zeros) := hw1
  have HH1 : Hid (Held w1 b zeroF t) := H1
  have HK1 : Hid (Kept b w w1) := K1
  have c1 := H1.taken
  have f1 := H1.free 25
  clear H H1 K1 hw1
  go_enter Tryd.func19, Tryd.ntmps19
  go_wp2_with (refine wpList_store_mid (op := { dst := none, op := Op.store 50 (.tmp 5) (.tmp 3), type := 0, pos := _, after := _, guard := none }) rfl 50 (.tmp 5) (.tmp 3) rfl b 0 zeros.toArray rfl rfl HT.out info29 (by kernel_rfl) ?_; rw [show zeros.toArray.toList = zeros from rfl, ← HW1.out])
  go_end0
  exact ⟨rfl, HH1.out.setTaken 0, HK1.out.set _ _⟩

set_option maxRecDepth 100000 in
set_option maxHeartbeats 400000 in
theorem copy_calls (ws : Nat → Int) (t : Int) (w : World) (b : Nat) (H : Held w b ws t) :
    Calls Tryd.prog 17 #[.pointer (some ⟨b, 0, none⟩)] w fun e w' => e = .returned (.pointer (some ⟨w.heap.size, 0, none⟩)) ∧ w' = (w.alloc (.cells (hcells ws t) 52)).drew := by
  have c1 := H.taken
  have hr : w.rangeAt b 0 [Value.int .u64 (ws 0), Value.int .u64 (ws 1), Value.int .u64 (ws 2), Value.int .u64 (ws 3), Value.int .u64 (ws 4), Value.int .u64 (ws 5), Value.int .u64 (ws 6), Value.int .u64 (ws 7), Value.int .u64 (ws 8), Value.int .u64 (ws 9), Value.int .u64 (ws 10), Value.int .u64 (ws 11), Value.int .u64 (ws 12), Value.int .u64 (ws 13), Value.int .u64 (ws 14), Value.int .u64 (ws 15), Value.int .u64 (ws 16), Value.int .u64 (ws 17), Value.int .u64 (ws 18), Value.int .u64 (ws 19), Value.int .u64 (ws 20), Value.int .u64 (ws 21), Value.int .u64 (ws 22), Value.int .u64 (ws 23), Value.int .u64 (ws 24)] := by
    intro j v hv
    have hj : j < 25 := by have := (List.getElem?_eq_some_iff.1 hv).1; simpa using this
    have e : [Value.int .u64 (ws 0), Value.int .u64 (ws 1), Value.int .u64 (ws 2), Value.int .u64 (ws 3), Value.int .u64 (ws 4), Value.int .u64 (ws 5), Value.int .u64 (ws 6), Value.int .u64 (ws 7), Value.int .u64 (ws 8), Value.int .u64 (ws 9), Value.int .u64 (ws 10), Value.int .u64 (ws 11), Value.int .u64 (ws 12), Value.int .u64 (ws 13), Value.int .u64 (ws 14), Value.int .u64 (ws 15), Value.int .u64 (ws 16), Value.int .u64 (ws 17), Value.int .u64 (ws 18), Value.int .u64 (ws 19), Value.int .u64 (ws 20), Value.int .u64 (ws 21), Value.int .u64 (ws 22), Value.int .u64 (ws 23), Value.int .u64 (ws 24)] = (List.range 25).map (fun i => Value.int .u64 (ws i)) := rfl
    rw [Nat.zero_add, H.at_ j hj, ← hv, e]; simp [hj]
  have hlen : [Value.int .u64 (ws 0), Value.int .u64 (ws 1), Value.int .u64 (ws 2), Value.int .u64 (ws 3), Value.int .u64 (ws 4), Value.int .u64 (ws 5), Value.int .u64 (ws 6), Value.int .u64 (ws 7), Value.int .u64 (ws 8), Value.int .u64 (ws 9), Value.int .u64 (ws 10), Value.int .u64 (ws 11), Value.int .u64 (ws 12), Value.int .u64 (ws 13), Value.int .u64 (ws 14), Value.int .u64 (ws 15), Value.int .u64 (ws 16), Value.int .u64 (ws 17), Value.int .u64 (ws 18), Value.int .u64 (ws 19), Value.int .u64 (ws 20), Value.int .u64 (ws 21), Value.int .u64 (ws 22), Value.int .u64 (ws 23), Value.int .u64 (ws 24)].length = 25 := rfl
  have hinfo : (Tryd.prog.info? 50).map (·.size) = some [Value.int .u64 (ws 0), Value.int .u64 (ws 1), Value.int .u64 (ws 2), Value.int .u64 (ws 3), Value.int .u64 (ws 4), Value.int .u64 (ws 5), Value.int .u64 (ws 6), Value.int .u64 (ws 7), Value.int .u64 (ws 8), Value.int .u64 (ws 9), Value.int .u64 (ws 10), Value.int .u64 (ws 11), Value.int .u64 (ws 12), Value.int .u64 (ws 13), Value.int .u64 (ws 14), Value.int .u64 (ws 15), Value.int .u64 (ws 16), Value.int .u64 (ws 17), Value.int .u64 (ws 18), Value.int .u64 (ws 19), Value.int .u64 (ws 20), Value.int .u64 (ws 21), Value.int .u64 (ws 22), Value.int .u64 (ws 23), Value.int .u64 (ws 24)].length := info29
  have hone : ∀ v ∈ [Value.int .u64 (ws 0), Value.int .u64 (ws 1), Value.int .u64 (ws 2), Value.int .u64 (ws 3), Value.int .u64 (ws 4), Value.int .u64 (ws 5), Value.int .u64 (ws 6), Value.int .u64 (ws 7), Value.int .u64 (ws 8), Value.int .u64 (ws 9), Value.int .u64 (ws 10), Value.int .u64 (ws 11), Value.int .u64 (ws 12), Value.int .u64 (ws 13), Value.int .u64 (ws 14), Value.int .u64 (ws 15), Value.int .u64 (ws 16), Value.int .u64 (ws 17), Value.int .u64 (ws 18), Value.int .u64 (ws 19), Value.int .u64 (ws 20), Value.int .u64 (ws 21), Value.int .u64 (ws 22), Value.int .u64 (ws 23), Value.int .u64 (ws 24)], v.oneCell' = true := by
    have e : [Value.int .u64 (ws 0), Value.int .u64 (ws 1), Value.int .u64 (ws 2), Value.int .u64 (ws 3), Value.int .u64 (ws 4), Value.int .u64 (ws 5), Value.int .u64 (ws 6), Value.int .u64 (ws 7), Value.int .u64 (ws 8), Value.int .u64 (ws 9), Value.int .u64 (ws 10), Value.int .u64 (ws 11), Value.int .u64 (ws 12), Value.int .u64 (ws 13), Value.int .u64 (ws 14), Value.int .u64 (ws 15), Value.int .u64 (ws 16), Value.int .u64 (ws 17), Value.int .u64 (ws 18), Value.int .u64 (ws 19), Value.int .u64 (ws 20), Value.int .u64 (ws 21), Value.int .u64 (ws 22), Value.int .u64 (ws 23), Value.int .u64 (ws 24)] = (List.range 25).map (fun i => Value.int .u64 (ws i)) := rfl
    rw [e]; intro v hv; simp at hv; obtain ⟨i, _, rfl⟩ := hv; rfl
  have hb := H.lt
  have ha : ∀ o, (w.alloc o).cell? ⟨b, 25, none⟩ = some (.int .i64 t) := fun o => (World.cell?_alloc_lt _ _ _ hb).trans c1
  have hra := fun o => World.rangeAt_alloc hr o
  clear H
  have hu := Tryd.underlying50
  go_enter Tryd.func17, Tryd.ntmps17
  go_wp2
  go_region_held2 (fun w' => w'.rangeAt b 0 [Value.int .u64 (ws 0), Value.int .u64 (ws 1), Value.int .u64 (ws 2), Value.int .u64 (ws 3), Value.int .u64 (ws 4), Value.int .u64 (ws 5), Value.int .u64 (ws 6), Value.int .u64 (ws 7), Value.int .u64 (ws 8), Value.int .u64 (ws 9), Value.int .u64 (ws 10), Value.int .u64 (ws 11), Value.int .u64 (ws 12), Value.int .u64 (ws 13), Value.int .u64 (ws 14), Value.int .u64 (ws 15), Value.int .u64 (ws 16), Value.int .u64 (ws 17), Value.int .u64 (ws 18), Value.int .u64 (ws 19), Value.int .u64 (ws 20), Value.int .u64 (ws 21), Value.int .u64 (ws 22), Value.int .u64 (ws 23), Value.int .u64 (ws 24)] ∧ w'.cell? ⟨b, 25, none⟩ = some (.int .i64 t)) (first | (simp [*]; done) | go_keep_ranges) (fail)
  all_goals go_wp2
  all_goals go_ret
  all_goals exact ⟨rfl, rfl⟩
end Go.Proofs.YtenmjjpkbcogbaaDoor

/- Head -/
namespace Go.Proofs.YtenmjjpkbcogbaaDoor
open Go.RowKit

def headB (ws : Nat → Int) (i : Nat) : Int := IntKind.u8.wrap (ws (i / 8) / 2 ^ (i % 8 * 8))
def headS (ws : Nat → Int) : ByteArray := strOfNums ((List.range 32).map (headB ws))
theorem headS_size (ws : Nat → Int) : (headS ws).size = 32 := by unfold headS; rw [strOfNums_size]; simp
def headTo (ws : Nat → Int) (k : Nat) (i : Nat) : Int := if i < k then headB ws i else 0

def bcells (f : Nat → Int) : Array Value := ((List.range 32).map (fun i => Value.int .u8 (f i))).toArray
theorem bcells_size (f : Nat → Int) : (bcells f).size = 32 := by simp [bcells]
theorem bcells_at (f : Nat → Int) (j : Nat) (h : j < 32) : (bcells f)[j]? = some (.int .u8 (f j)) := by
  unfold bcells
  rw [List.getElem?_toArray]
  simp [h]
theorem bcells_set (f : Nat → Int) (i : Nat) (v : Int) (h : i < 32) : (bcells f).setIfInBounds i (.int .u8 v) = bcells (setF f i v) := by
  apply Array.ext_getElem?
  intro j
  rw [Array.getElem?_setIfInBounds]
  by_cases hij : i = j
  · subst hij
    rw [if_pos rfl, if_pos (by rw [bcells_size]; omega), bcells_at _ _ h]
    simp [setF]
  · rw [if_neg hij]
    by_cases hj : j < 32
    · rw [bcells_at _ _ hj, bcells_at _ _ hj]
      simp [setF, Ne.symm hij]
    · rw [Array.getElem?_eq_none (by rw [bcells_size]; omega), Array.getElem?_eq_none (by rw [bcells_size]; omega)]
theorem headTo_succ (ws : Nat → Int) (k : Nat) : setF (headTo ws k) k (headB ws k) = headTo ws (k + 1) := by
  funext j
  unfold setF headTo
  by_cases h : j = k
  · subst h; rw [if_pos rfl, if_pos (by omega)]
  · rw [if_neg h]
    by_cases h2 : j < k
    · rw [if_pos h2, if_pos (by omega)]
    · rw [if_neg h2, if_neg (by omega)]
theorem make_run (w : World) : (Instr.makeSlice 54 (.int .i64 32) (.int .i64 32)).run Tryd.prog w = .ok (.slice (some ⟨w.heap.size, 0, none⟩) 32 32) (w.alloc (.cells (bcells fun _ => 0) 5)) := by kernel_rfl

set_option maxRecDepth 100000 in
set_option maxHeartbeats 400000 in
theorem head_calls (ws : Nat → Int) (t : Int) (w : World) (b : Nat) (H : Held w b ws t) :
    Calls Tryd.prog 30 #[.pointer (some ⟨b, 0, none⟩)] w fun e w' => e = .returned (.string (headS ws)) ∧ Below w.heap.size w w' := by
  have hmk := make_run
  have hbs := H.lt
  go_enter Tryd.func30, Tryd.ntmps30
  go_wp2_with fail
  obtain ⟨g, hg⟩ : ∃ g, g = w.heap.size := ⟨_, rfl⟩
  have HV : Hid (g = w.heap.size) := hg
  rw [← hg]
  clear hmk
  go_loopg [4] 32 (fun n r wr => ∃ k : Nat, n = 32 - k ∧ k ≤ 32 ∧ r = .int .i64 k ∧ wr.heap[g]? = some (.cells (bcells (headTo ws k)) 5 (0, 0)) ∧ Held wr b ws t ∧ Below g w wr)
  case atStart =>
    refine ⟨0, rfl, by omega, rfl, by rw [hg]; exact heap_alloc_new _ _, H.kept ((Kept.refl (b + 1) w).alloc _) (by omega), ?_⟩
    rw [hg]; exact (Below.refl _ _).alloc (Nat.le_refl _) _
  case round =>
    obtain ⟨k, hgk, hk, rfl, HR, HK, KK⟩ := hrel
    have HG : Hid (gk = 32 - k) := hgk
    have HRR : Hid (wr.heap[g]? = some (.cells (bcells (headTo ws k)) 5 (0, 0))) := HR
    have HHK : Hid (Held wr b ws t) := HK
    have HKK : Hid (Below g w wr) := KK
    clear hgk hg HR KK H
    by_cases hlt : k < 32
    · have c0 := HK.at_ (k / 8) (by omega)
      have c1 : wr.cell? ⟨g, k, none⟩ = some (.int .u8 (headTo ws k k)) := by rw [cell_of_row wr g k _ _ _ HRR.out, bcells_at _ _ hlt]
      have f1 : wr.frozen? ⟨g, k, none⟩ = false := frozen_of_row wr g k _ _ HRR.out
      have hmin : min (k % 8 * 8) 64 = k % 8 * 8 := by omega
      generalize headTo ws k k = z at c1
      clear HK
      go_wp2_with fail
      go_roundg (32 - (k + 1))
      case measure => have := HG.out; omega
      case rel =>
        refine ⟨k + 1, rfl, by omega, by go_num, ?_, HHK.out.kept ((Kept.refl g _).set _ _) (by have := HV.out; omega), HKK.out.setCell (Nat.le_refl _) _⟩
        rw [heap_setCell_same _ _ _ _ _ _ HRR.out, ← headTo_succ, ← bcells_set _ _ _ hlt]
        rfl
    · have : k = 32 := by omega
      subst this
      have hxs : headTo ws 32 = fun i => if i < 32 then headB ws i else 0 := rfl
      have hconv := run_convert_bytes_arg (P := Tryd.prog) wr 54 5 Tryd.underlying54 Tryd.underlying5 g 0 32 32 ((List.range 32).map (headB ws)) (by simp) (fun i hi => by
        rw [Nat.zero_add, cell_of_row wr g i _ _ _ HRR.out, bcells_at _ _ hi]
        simp [headTo, hi]) 9 Tryd.underlying9
      clear HK
      go_wp2_with fail
      go_ret
      exact ⟨rfl, by rw [← HV.out]; exact HKK.out⟩
end Go.Proofs.YtenmjjpkbcogbaaDoor

/- Sum -/
namespace Go.Proofs.YtenmjjpkbcogbaaDoor
open Go.RowKit

def sumF (st : (Nat → Int) × Nat) : ByteArray := headS (permF (flipF (flipF st.1 st.2 1) 135 128))
theorem sumF_size (st : (Nat → Int) × Nat) : (sumF st).size = 32 := headS_size _
def startF : (Nat → Int) × Nat := (zeroF, 0)
def hashF (s : ByteArray) : ByteArray := sumF (writeF startF s.data.toList)

theorem Tabs.below {w w' : World} (h : Tabs w) (k : Below w.heap.size w w') : Tabs w' := h.kept (Kept.of_below k 3) (Nat.le_refl _)
theorem Held.below {w w' : World} {b : Nat} {ws : Nat → Int} {t : Int} (h : Held w b ws t) (k : Below w.heap.size w w') : Held w' b ws t := h.kept (Kept.of_below k (b + 1)) (by omega)

/-- what is made and written lies above -/
theorem below_kept {n b : Nat} {w w1 w2 : World} (h1 : Below n w w1) (h : Kept b w1 w2) (hn : n ≤ w.heap.size) (hb : n ≤ b) : Below n w w2 :=
  ⟨h.os.trans h1.os, h.tape.trans h1.tape, h.output.trans h1.output, Nat.le_trans h1.size h.size, fun k hk => (h.block k (Nat.lt_of_lt_of_le hk (Nat.le_trans hn h1.size)) (by omega)).trans (h1.block k hk)⟩
theorem below_below {n : Nat} {w w1 w2 : World} (h1 : Below n w w1) (h : Below w1.heap.size w1 w2) (hn : n ≤ w.heap.size) : Below n w w2 :=
  h1.trans (h.mono (Nat.le_trans hn h1.size))
theorem below_chain {v : Nat} {w w1 w4 w5 : World} (hv : w.heap.size = v) (h1 : Below v w w1) (h4 : Kept v w1 w4) (B5 : Below w4.heap.size w4 w5) : Below w.heap.size w w5 := by
  subst hv
  exact below_below (below_kept h1 h4 (Nat.le_refl _) (Nat.le_refl _)) B5 (Nat.le_refl _)

/-- flip, of a hasher's block -/
theorem flip_held (ws : Nat → Int) (t : Int) (i c : Nat) (hi : i < 136) (hc : c < 256) (w : World) (b : Nat) (H : Held w b ws t) :
    Calls Tryd.prog 28 #[.pointer (some ⟨b, 0, none⟩), .int .i64 i, .int .u8 c] w fun e w' => e = .returned (.tuple #[]) ∧ Held w' b (flipF ws i c) t ∧ Kept b w w' :=
  (flip_calls i c hc (ws (i / 8)) w b hi (H.at_ _ (by omega)) (H.free _)).mono fun e w' ⟨he, hw⟩ => by
    subst hw
    exact ⟨he, (H.set (i / 8) _ (by omega)).drew, ((Kept.refl _ _).set _ _).drew⟩

set_option maxRecDepth 100000 in
set_option maxHeartbeats 400000 in
theorem sumM_calls (st : (Nat → Int) × Nat) (w : World) (b : Nat) (H : Held w b st.1 st.2) (ht : st.2 < 136) (T : Tabs w) :
    Calls Tryd.prog 18 #[.pointer (some ⟨b, 0, none⟩)] w fun e w' => e = .returned (.string (sumF st)) ∧ Below w.heap.size w w' := by
  obtain ⟨ws, t⟩ := st
  have h3 := T.size
  have HF : Hid (sumF (ws, t) = headS (permF (flipF (flipF ws t 1) 135 128))) := rfl
  simp only at H ht
  go_enter Tryd.func18, Tryd.ntmps18
  go_wp2_with fail
  refine (copy_calls ws t _ b H).mono ?_
  rintro e w1 ⟨rfl, hw1⟩
  have H1 : Held w1 w.heap.size ws t := by rw [hw1]; exact ⟨heap_alloc_new _ _⟩
  have B1 : Below w.heap.size w w1 := by rw [hw1]; exact ((Below.refl _ _).alloc (Nat.le_refl _) _).drew
  have T1 := T.below B1
  have HH1 : Hid (Held w1 w.heap.size ws t) := H1
  have HB1 : Hid (Below w.heap.size w w1) := B1
  have HT1 : Hid (Tabs w1) := T1
  have HV : Hid (3 ≤ w.heap.size) := h3
  have c1 := H1.taken
  clear hw1 H1 B1 T1 H T h3
  generalize hv : w.heap.size = v at *
  go_wp2_with fail
  refine (flip_held ws t t 1 ht (by omega) _ v HH1.out).mono ?_
  rintro e w2 ⟨rfl, H2, K2⟩
  have HH2 : Hid (Held w2 v (flipF ws t 1) t) := H2
  have HK2 : Hid (Kept v w1 w2) := K2
  clear H2 K2 c1
  go_wp2_with fail
  refine (flip_held _ t 135 128 (by omega) (by omega) _ v HH2.out).mono ?_
  rintro e w3 ⟨rfl, H3, K3⟩
  have HH3 : Hid (Held w3 v (flipF (flipF ws t 1) 135 128) t) := H3
  have HK3 : Hid (Kept v w1 w3) := HK2.out.trans K3
  clear H3 K3
  go_wp2_with fail
  refine (mix_calls _ t _ v HH3.out (HT1.out.kept HK3.out HV.out) HV.out).mono ?_
  rintro e w4 ⟨rfl, H4, K4⟩
  have HH4 : Hid (Held w4 v (permF (flipF (flipF ws t 1) 135 128)) t) := H4
  have HK4 : Hid (Kept v w1 w4) := HK3.out.trans K4
  clear H4 K4
  go_wp2_with fail
  refine (head_calls _ t _ v HH4.out).mono ?_
  rintro e w5 ⟨rfl, B5⟩
  go_wp2_with fail
  go_ret
  refine ⟨by rw [HF.out]; rfl, ?_⟩
  have h4 := HK4.out
  have h1 := HB1.out
  exact below_chain hv h1 h4 B5

set_option maxRecDepth 100000 in
set_option maxHeartbeats 400000 in
theorem sum_calls (s : ByteArray) (hs : s.size ≤ maxLen) (w : World) (T : Tabs w) :
    Calls Tryd.prog 14 #[.string s] w fun e w' => e = .returned (.string (hashF s)) ∧ Below w.heap.size w w' := by
  have h3 := T.size
  have HF : Hid (hashF s = sumF (writeF startF s.data.toList)) := rfl
  have hlt : (writeF startF s.data.toList).2 < 136 := writeF_lt _ _ (by decide)
  have HL : Hid ((writeF startF s.data.toList).2 < 136) := hlt
  clear hlt
  go_enter Tryd.func14, Tryd.ntmps14
  go_wp2_with fail
  refine (new_calls _).mono ?_
  rintro e w1 ⟨rfl, hw1⟩
  have H1 : Held w1 w.heap.size zeroF 0 := by rw [hw1]; exact ⟨heap_alloc_new _ _⟩
  have B1 : Below w.heap.size w w1 := by rw [hw1]; exact (Below.refl _ _).alloc (Nat.le_refl _) _
  have T1 := T.below B1
  have HH1 : Hid (Held w1 w.heap.size zeroF 0) := H1
  have HB1 : Hid (Below w.heap.size w w1) := B1
  have HT1 : Hid (Tabs w1) := T1
  have HV : Hid (3 ≤ w.heap.size) := h3
  clear hw1 H1 B1 T1 T h3
  generalize hv : w.heap.size = v at *
  go_wp2_with fail
  refine (write_calls startF s hs _ v HH1.out (by decide) HT1.out HV.out).mono ?_
  rintro e w2 ⟨rfl, H2, K2⟩
  have HH2 : Hid (Held w2 v (writeF startF s.data.toList).1 (writeF startF s.data.toList).2) := H2
  have HK2 : Hid (Kept v w1 w2) := K2
  clear H2 K2
  generalize writeF startF s.data.toList = st at *
  go_wp2_with fail
  refine (sumM_calls st _ v HH2.out HL.out (HT1.out.kept HK2.out HV.out)).mono ?_
  rintro e w5 ⟨rfl, B5⟩
  go_wp2_with fail
  go_ret
  refine ⟨by rw [HF.out]; rfl, ?_⟩
  have h4 := HK2.out
  have h1 := HB1.out
  exact below_chain hv h1 h4 B5
end Go.Proofs.YtenmjjpkbcogbaaDoor
