/-
  The walks of New, Reset, Copy.
-/
import Derived.Test.YtenmjjpkbcogbaaDoorSmall
import Derived.Deep.RegionHeld2
namespace Go.Proofs.YtenmjjpkbcogbaaDoor
open Go.RowKit
def zeroF : Nat → Int := fun _ => 0
theorem info29 : (Tryd.prog.info? 50).map (·.size) = some 25 := by kernel_rfl

theorem new_calls (w : World) :
    Calls Tryd.prog 15 #[] w fun e w' => e = .returned (.pointer (some ⟨w.heap.size, 0, none⟩)) ∧ w' = w.alloc (.cells (hcells zeroF 0) 52) := by
  go_enter Tryd.func15, Tryd.ntmps15
  go_wp2
  go_ret
  exact ⟨rfl, rfl⟩

theorem zero_all (ws : Nat → Int) (j : Nat) (h : j < 25) : setF (setF (setF (setF (setF (setF (setF (setF (setF (setF (setF (setF (setF (setF (setF (setF (setF (setF (setF (setF (setF (setF (setF (setF (setF ws 0 0) 1 0) 2 0) 3 0) 4 0) 5 0) 6 0) 7 0) 8 0) 9 0) 10 0) 11 0) 12 0) 13 0) 14 0) 15 0) 16 0) 17 0) 18 0) 19 0) 20 0) 21 0) 22 0) 23 0) 24 0 j = zeroF j := by
  unfold setF zeroF
  repeat (split; rfl)
  omega

def zeros : List Value := [Value.int .u64 0, Value.int .u64 0, Value.int .u64 0, Value.int .u64 0, Value.int .u64 0, Value.int .u64 0, Value.int .u64 0, Value.int .u64 0, Value.int .u64 0, Value.int .u64 0, Value.int .u64 0, Value.int .u64 0, Value.int .u64 0, Value.int .u64 0, Value.int .u64 0, Value.int .u64 0, Value.int .u64 0, Value.int .u64 0, Value.int .u64 0, Value.int .u64 0, Value.int .u64 0, Value.int .u64 0, Value.int .u64 0, Value.int .u64 0, Value.int .u64 0]
theorem held_zeros {w : World} {b : Nat} {ws : Nat → Int} {t : Int} (H : Held w b ws t) : Held (w.setCells b 0 zeros) b zeroF t :=
  ((((((((((((((((((((((((((H.set 0 0 (by omega)).set 1 0 (by omega)).set 2 0 (by omega)).set 3 0 (by omega)).set 4 0 (by omega)).set 5 0 (by omega)).set 6 0 (by omega)).set 7 0 (by omega)).set 8 0 (by omega)).set 9 0 (by omega)).set 10 0 (by omega)).set 11 0 (by omega)).set 12 0 (by omega)).set 13 0 (by omega)).set 14 0 (by omega)).set 15 0 (by omega)).set 16 0 (by omega)).set 17 0 (by omega)).set 18 0 (by omega)).set 19 0 (by omega)).set 20 0 (by omega)).set 21 0 (by omega)).set 22 0 (by omega)).set 23 0 (by omega)).set 24 0 (by omega))).congr (zero_all ws)
theorem kept_cells {b : Nat} {w : World} (vs : List Value) : ∀ (o : Nat) (w' : World), Kept b w w' → Kept b w (w'.setCells b o vs) := by
  induction vs with
  | nil => intro o w' h; exact h
  | cons v r ih => intro o w' h; exact ih (o + 1) _ (h.set o v)

set_option maxRecDepth 100000 in
set_option maxHeartbeats 400000 in
theorem reset_calls (ws : Nat → Int) (t : Int) (w : World) (b : Nat) (H : Held w b ws t) :
    Calls Tryd.prog 19 #[.pointer (some ⟨b, 0, none⟩)] w fun e w' => e = .returned (.tuple #[]) ∧ Held w' b zeroF 0 ∧ Kept b w w' := by
  have ht : w.there b 0 25 := fun j hj => ⟨by rw [Nat.zero_add, H.at_ j hj]; rfl, H.free _⟩
  have HT : Hid (w.there b 0 25) := ht
  clear ht
  have H1 : Held (w.setCells b 0 zeros) b zeroF t := held_zeros H
  have K1 : Kept b w (w.setCells b 0 zeros) := kept_cells zeros 0 w (Kept.refl b w)
  obtain ⟨w1, hw1⟩ : ∃ w1, w1 = w.setCells b 0 zeros := ⟨_, rfl⟩
  rw [← hw1] at H1 K1
  have HW1 : Hid (w1 = w.setCells b 0 zeros) := hw1
  have HH1 : Hid (Held w1 b zeroF t) := H1
  have HK1 : Hid (Kept b w w1) := K1
  have c1 := H1.taken
  have f1 := H1.free 25
  clear H H1 K1 hw1
  go_enter Tryd.func19, Tryd.ntmps19
  go_wp2_with (refine wpList_store_mid (op := { dst := none, op := Op.store 50 (.tmp 5) (.tmp 3), type := 0, pos := _, after := _, guard := none }) rfl 50 (.tmp 5) (.tmp 3) rfl b 0 zeros.toArray rfl rfl HT.out info29 (by kernel_rfl) ?_; rw [show zeros.toArray.toList = zeros from rfl, ← HW1.out])
  go_end0
  exact ⟨rfl, HH1.out.setTaken 0, HK1.out.set _ _⟩

set_option maxRecDepth 100000 in
set_option maxHeartbeats 400000 in
theorem copy_calls (ws : Nat → Int) (t : Int) (w : World) (b : Nat) (H : Held w b ws t) :
    Calls Tryd.prog 17 #[.pointer (some ⟨b, 0, none⟩)] w fun e w' => e = .returned (.pointer (some ⟨w.heap.size, 0, none⟩)) ∧ w' = (w.alloc (.cells (hcells ws t) 52)).drew := by
  have c1 := H.taken
  have hr : w.rangeAt b 0 [Value.int .u64 (ws 0), Value.int .u64 (ws 1), Value.int .u64 (ws 2), Value.int .u64 (ws 3), Value.int .u64 (ws 4), Value.int .u64 (ws 5), Value.int .u64 (ws 6), Value.int .u64 (ws 7), Value.int .u64 (ws 8), Value.int .u64 (ws 9), Value.int .u64 (ws 10), Value.int .u64 (ws 11), Value.int .u64 (ws 12), Value.int .u64 (ws 13), Value.int .u64 (ws 14), Value.int .u64 (ws 15), Value.int .u64 (ws 16), Value.int .u64 (ws 17), Value.int .u64 (ws 18), Value.int .u64 (ws 19), Value.int .u64 (ws 20), Value.int .u64 (ws 21), Value.int .u64 (ws 22), Value.int .u64 (ws 23), Value.int .u64 (ws 24)] := by
    intro j v hv
    have hj : j < 25 := by have := (List.getElem?_eq_some_iff.1 hv).1; simpa using this
    have e : [Value.int .u64 (ws 0), Value.int .u64 (ws 1), Value.int .u64 (ws 2), Value.int .u64 (ws 3), Value.int .u64 (ws 4), Value.int .u64 (ws 5), Value.int .u64 (ws 6), Value.int .u64 (ws 7), Value.int .u64 (ws 8), Value.int .u64 (ws 9), Value.int .u64 (ws 10), Value.int .u64 (ws 11), Value.int .u64 (ws 12), Value.int .u64 (ws 13), Value.int .u64 (ws 14), Value.int .u64 (ws 15), Value.int .u64 (ws 16), Value.int .u64 (ws 17), Value.int .u64 (ws 18), Value.int .u64 (ws 19), Value.int .u64 (ws 20), Value.int .u64 (ws 21), Value.int .u64 (ws 22), Value.int .u64 (ws 23), Value.int .u64 (ws 24)] = (List.range 25).map (fun i => Value.int .u64 (ws i)) := rfl
    rw [Nat.zero_add, H.at_ j hj, ← hv, e]; simp [hj]
  have hlen : [Value.int .u64 (ws 0), Value.int .u64 (ws 1), Value.int .u64 (ws 2), Value.int .u64 (ws 3), Value.int .u64 (ws 4), Value.int .u64 (ws 5), Value.int .u64 (ws 6), Value.int .u64 (ws 7), Value.int .u64 (ws 8), Value.int .u64 (ws 9), Value.int .u64 (ws 10), Value.int .u64 (ws 11), Value.int .u64 (ws 12), Value.int .u64 (ws 13), Value.int .u64 (ws 14), Value.int .u64 (ws 15), Value.int .u64 (ws 16), Value.int .u64 (ws 17), Value.int .u64 (ws 18), Value.int .u64 (ws 19), Value.int .u64 (ws 20), Value.int .u64 (ws 21), Value.int .u64 (ws 22), Value.int .u64 (ws 23), Value.int .u64 (ws 24)].length = 25 := rfl
  have hinfo : (Tryd.prog.info? 50).map (·.size) = some [Value.int .u64 (ws 0), Value.int .u64 (ws 1), Value.int .u64 (ws 2), Value.int .u64 (ws 3), Value.int .u64 (ws 4), Value.int .u64 (ws 5), Value.int .u64 (ws 6), Value.int .u64 (ws 7), Value.int .u64 (ws 8), Value.int .u64 (ws 9), Value.int .u64 (ws 10), Value.int .u64 (ws 11), Value.int .u64 (ws 12), Value.int .u64 (ws 13), Value.int .u64 (ws 14), Value.int .u64 (ws 15), Value.int .u64 (ws 16), Value.int .u64 (ws 17), Value.int .u64 (ws 18), Value.int .u64 (ws 19), Value.int .u64 (ws 20), Value.int .u64 (ws 21), Value.int .u64 (ws 22), Value.int .u64 (ws 23), Value.int .u64 (ws 24)].length := info29
  have hone : ∀ v ∈ [Value.int .u64 (ws 0), Value.int .u64 (ws 1), Value.int .u64 (ws 2), Value.int .u64 (ws 3), Value.int .u64 (ws 4), Value.int .u64 (ws 5), Value.int .u64 (ws 6), Value.int .u64 (ws 7), Value.int .u64 (ws 8), Value.int .u64 (ws 9), Value.int .u64 (ws 10), Value.int .u64 (ws 11), Value.int .u64 (ws 12), Value.int .u64 (ws 13), Value.int .u64 (ws 14), Value.int .u64 (ws 15), Value.int .u64 (ws 16), Value.int .u64 (ws 17), Value.int .u64 (ws 18), Value.int .u64 (ws 19), Value.int .u64 (ws 20), Value.int .u64 (ws 21), Value.int .u64 (ws 22), Value.int .u64 (ws 23), Value.int .u64 (ws 24)], v.oneCell' = true := by
    have e : [Value.int .u64 (ws 0), Value.int .u64 (ws 1), Value.int .u64 (ws 2), Value.int .u64 (ws 3), Value.int .u64 (ws 4), Value.int .u64 (ws 5), Value.int .u64 (ws 6), Value.int .u64 (ws 7), Value.int .u64 (ws 8), Value.int .u64 (ws 9), Value.int .u64 (ws 10), Value.int .u64 (ws 11), Value.int .u64 (ws 12), Value.int .u64 (ws 13), Value.int .u64 (ws 14), Value.int .u64 (ws 15), Value.int .u64 (ws 16), Value.int .u64 (ws 17), Value.int .u64 (ws 18), Value.int .u64 (ws 19), Value.int .u64 (ws 20), Value.int .u64 (ws 21), Value.int .u64 (ws 22), Value.int .u64 (ws 23), Value.int .u64 (ws 24)] = (List.range 25).map (fun i => Value.int .u64 (ws i)) := rfl
    rw [e]; intro v hv; simp at hv; obtain ⟨i, _, rfl⟩ := hv; rfl
  have hb := H.lt
  have ha : ∀ o, (w.alloc o).cell? ⟨b, 25, none⟩ = some (.int .i64 t) := fun o => (World.cell?_alloc_lt _ _ _ hb).trans c1
  have hra := fun o => World.rangeAt_alloc hr o
  clear H
  have hu := Tryd.underlying50
  go_enter Tryd.func17, Tryd.ntmps17
  go_wp2
  go_region_held2 (fun w' => w'.rangeAt b 0 [Value.int .u64 (ws 0), Value.int .u64 (ws 1), Value.int .u64 (ws 2), Value.int .u64 (ws 3), Value.int .u64 (ws 4), Value.int .u64 (ws 5), Value.int .u64 (ws 6), Value.int .u64 (ws 7), Value.int .u64 (ws 8), Value.int .u64 (ws 9), Value.int .u64 (ws 10), Value.int .u64 (ws 11), Value.int .u64 (ws 12), Value.int .u64 (ws 13), Value.int .u64 (ws 14), Value.int .u64 (ws 15), Value.int .u64 (ws 16), Value.int .u64 (ws 17), Value.int .u64 (ws 18), Value.int .u64 (ws 19), Value.int .u64 (ws 20), Value.int .u64 (ws 21), Value.int .u64 (ws 22), Value.int .u64 (ws 23), Value.int .u64 (ws 24)] ∧ w'.cell? ⟨b, 25, none⟩ = some (.int .i64 t)) (first | (simp [*]; done) | go_keep_ranges) (fail)
  all_goals go_wp2
  all_goals go_ret
  all_goals exact ⟨rfl, rfl⟩
end Go.Proofs.YtenmjjpkbcogbaaDoor
