import Derived.Test.YtenmjjpkbcogbaaGreatDoorZf
import Derived.Test.YtenmjjpkbcogbaaGreatDoorZi

/- MaV -/
namespace Go.Proofs.YtenmjjpkbcogbaaGreatDoor
open Go.RowKit

structure Op1 where
  k : Int
  x : Int
  y : Int
  z : Int
  s : ByteArray
  t : ByteArray

structure OpAt (w : World) (g o : Nat) (p : Op1) : Prop where
  c0 : w.cell? ⟨g, o, none⟩ = some (.int .i64 p.k)
  c1 : w.cell? ⟨g, o + 1, none⟩ = some (.int .i64 p.x)
  c2 : w.cell? ⟨g, o + 2, none⟩ = some (.int .i64 p.y)
  c3 : w.cell? ⟨g, o + 3, none⟩ = some (.int .i64 p.z)
  c4 : w.cell? ⟨g, o + 4, none⟩ = some (.string p.s)
  c5 : w.cell? ⟨g, o + 5, none⟩ = some (.string p.t)
theorem OpAt.below {w W : World} {g o : Nat} {p : Op1} (h : OpAt w g o p) {B : Nat} (hg : g < B) (k : Below B w W) : OpAt W g o p :=
  ⟨(World.cell?_of_block (k.block g hg)).trans h.c0, (World.cell?_of_block (k.block g hg)).trans h.c1, (World.cell?_of_block (k.block g hg)).trans h.c2, (World.cell?_of_block (k.block g hg)).trans h.c3, (World.cell?_of_block (k.block g hg)).trans h.c4, (World.cell?_of_block (k.block g hg)).trans h.c5⟩

/-- The script: the steps ops, from cell o of block g on. -/
structure Script (w : World) (a : Option Addr) (ops : List Op1) : Prop where
  len : ops.length < 140737488355328
  at_ : ∀ (i : Nat) (p : Op1), ops[i]? = some p → ∃ g o, a = some ⟨g, o, none⟩ ∧ g < w.heap.size ∧ OpAt w g (o + i * 6) p
  szS : ∀ (i : Nat) (p : Op1), ops[i]? = some p → p.s.size ≤ 140737488355328 ∧ p.t.size ≤ 140737488355328

def weigh (p : Op1) : Nat := p.s.size + p.t.size
def weighTo (ops : List Op1) (i : Nat) : Nat := ((ops.take i).map weigh).sum
theorem weighTo_succ (ops : List Op1) (i : Nat) (p : Op1) (h : ops[i]? = some p) : weighTo ops (i + 1) = weighTo ops i + (p.s.size + p.t.size) := by
  unfold weighTo
  rw [List.take_add_one, h]
  simp [weigh]
theorem weighTo_mono (ops : List Op1) (i : Nat) (hi : i ≤ ops.length) : weighTo ops i ≤ weighTo ops ops.length := by
  obtain ⟨d, hd⟩ : ∃ d, i + d = ops.length := ⟨ops.length - i, by omega⟩
  induction d generalizing i with
  | zero => rw [show i = ops.length by omega]; exact Nat.le_refl _
  | succ d ih =>
    have hp : ops[i]? = some (ops[i]'(by omega)) := List.getElem?_eq_getElem (by omega)
    have := weighTo_succ ops i _ hp
    have := ih (i + 1) (by omega) (by omega)
    omega

set_option maxRecDepth 100000 in
set_option maxHeartbeats 1000000 in
theorem small_calls (a : Option Addr) (cap : Nat) (ops : List Op1) (w : World) (H : Script w a ops) :
    Calls Tryz.prog 14 #[.slice a ops.length cap] w fun e w' => (e = .returned (.bool false) ∨ e = .returned (.bool true) ∧ ops.length + weighTo ops ops.length ≤ 1073741824) ∧ ∃ n, w' = w.drewN n := by
  have hlen := H.len
  have HA : Hid (∀ i (_ : i < ops.length), ∃ p, ops[i]? = some p ∧ ∃ g o, a = some ⟨g, o, none⟩ ∧ OpAt w g (o + i * 6) p ∧ p.s.size ≤ 140737488355328 ∧ p.t.size ≤ 140737488355328) := by
    intro i hi
    have hp : ops[i]? = some (ops[i]'hi) := List.getElem?_eq_getElem hi
    obtain ⟨g, o, e, _, h⟩ := H.at_ i _ hp
    exact ⟨_, hp, g, o, e, h, H.szS i _ hp⟩
  have HW : Hid (∀ i p, ops[i]? = some p → weighTo ops (i + 1) = weighTo ops i + (p.s.size + p.t.size)) := fun i p h => weighTo_succ ops i p h
  have HW0 : Hid (weighTo ops 0 = 0) := by show _ = _; simp [weighTo]
  clear H
  generalize hN : ops.length = N at *
  by_cases hb : 1073741824 < N
  · have hb' : (1073741824 : Int) < (N : Int) := by omega
    go_enter Tryz.func14, Tryz.ntmps14
    go_wp2
    go_ret
    exact ⟨.inl rfl, 0, rfl⟩
  · have hb' : ¬ (1073741824 : Int) < (N : Int) := by omega
    go_enter Tryz.func14, Tryz.ntmps14
    go_wp2_with fail
    go_loopg [3, 4] N (fun g u r wr => ∃ i n T : Nat, g = N - i ∧ i ≤ N ∧ r = .int .i64 i ∧ u = .int .i64 T ∧ Hid (N + weighTo ops i = T) ∧ T ≤ 1073741824 ∧ wr = w.drewN n)
    case atStart => exact ⟨0, 0, N, rfl, by omega, rfl, rfl, by show _ = _; rw [HW0.out, Nat.add_zero], by omega, rfl⟩
    case round =>
      obtain ⟨i, n, T, hg, hi, rfl, rfl, HT, hT, hwr⟩ := hrel
      have HG : Hid (gk = N - i) := hg
      have HWR : Hid (wr = w.drewN n) := hwr
      clear hg hwr
      by_cases hlt : i < N
      · obtain ⟨p, hp, g, o, rfl, hop, hs1, hs2⟩ := HA.out i hlt
        have HS := HW.out i p hp
        have r4 : wr.cell? ⟨g, o + i * 6 + 4, none⟩ = some (.string p.s) := by rw [HWR.out]; exact hop.c4
        have r5 : wr.cell? ⟨g, o + i * 6 + 5, none⟩ = some (.string p.t) := by rw [HWR.out]; exact hop.c5
        have HST : Hid (weighTo ops (i + 1) = weighTo ops i + (p.s.size + p.t.size)) := HS
        clear hop hp HS
        generalize p.s = s at *
        generalize p.t = t at *
        have hiI : (i : Int) < (N : Int) := by omega
        have w1 : IntKind.i64.wrap ((T : Int) + (s.size : Int)) = (T : Int) + (s.size : Int) := by rw [IntKind.wrap_i64]; omega
        have w2 : IntKind.i64.wrap ((T : Int) + (s.size : Int) + (t.size : Int)) = (T : Int) + (s.size : Int) + (t.size : Int) := by rw [IntKind.wrap_i64]; omega
        go_wp2_with fail
        go_region
        by_cases hbig : 1073741824 < T + s.size + t.size
        · have hbig' : (1073741824 : Int) < (T : Int) + (s.size : Int) + (t.size : Int) := by omega
          go_wp2_with fail
          go_ret
          exact ⟨.inl rfl, n + 1, by rw [HWR.out]; rfl⟩
        · have hbig' : ¬ (1073741824 : Int) < (T : Int) + (s.size : Int) + (t.size : Int) := by omega
          go_wp2_with fail
          go_roundg (N - (i + 1))
          case measure => have := HG.out; omega
          case rel => exact ⟨i + 1, n + 1, T + s.size + t.size, rfl, by omega, by go_num, by go_num, by show _ = _; rw [HST.out]; have := HT.out; omega, by omega, by rw [HWR.out]; rfl⟩
      · obtain rfl : i = N := by omega
        have hiI : ¬ (i : Int) < (i : Int) := by omega
        go_wp2_with fail
        go_ret
        exact ⟨.inr ⟨rfl, by have := HT.out; omega⟩, n, HWR.out⟩
end Go.Proofs.YtenmjjpkbcogbaaGreatDoor

/- MaW -/
namespace Go.Proofs.YtenmjjpkbcogbaaGreatDoor
open Go.RowKit

theorem Inv.pin1 {base b c : Nat} {l : Nat → Nat} {D : Dat} {w : World} (h : Inv [] base b c l D w) (q : Nat) (o : Obj) (hq : l q = 0) (hlt : q < w.heap.size) (ho : w.heap[q]? = some o) : Inv [(q, o)] base b c l D w :=
  { h with pins := fun p hp => by simp at hp; subst hp; exact ⟨hq, hlt, ho⟩ }
theorem Inv.unpin {pin : List (Nat × Obj)} {base b c : Nat} {l : Nat → Nat} {D : Dat} {w : World} (h : Inv pin base b c l D w) : Inv [] base b c l D w :=
  { h with pins := fun p hp => by simp at hp }
theorem Good.unpin {pin : List (Nat × Obj)} {base b c : Nat} {w : World} (h : Good pin base b c w) : Good [] base b c w := let ⟨l, D, I⟩ := h; ⟨l, D, I.unpin⟩
theorem Good.pinned {q : Nat} {o : Obj} {base b c : Nat} {w : World} (h : Good [(q, o)] base b c w) : w.heap[q]? = some o := let ⟨_, _, I⟩ := h; (I.pins (q, o) (by simp)).2.2

/-- Ahead of a step: its copy lies in a block of its own. -/
theorem Good.boxed {base b c : Nat} {w : World} (h : Good [] base b c w) (k x y z : Int) (s t : ByteArray) : Good [(w.heap.size, opO k x y z s t)] base b c (bx w k x y z s t) := by
  obtain ⟨l, D, I⟩ := h
  exact ⟨cutL l w.heap.size, D, ((I.relab (cutL l w.heap.size) fun j hj => cutL_old hj).below (bx_below w k x y z s t)).pin1 _ _ (cutL_new (Nat.le_refl _)) (by rw [bx_size]; omega) (bx_new _ _ _ _ _ _ _)⟩

def D0 : Dat := ⟨.slice none 0 0, .slice none 0 0, .slice none 0 0, .slice none 0 0, .slice none 0 0, .slice none 0 0, ⟨#[]⟩, 0, 0, 0, [], [], [], [], [], 0⟩
theorem good_start (w : World) (T : Tabs w) : Good [] w.heap.size w.heap.size 0 (w.alloc (.cells (wcells D0) 48)) := by
  have hb : Below w.heap.size w (w.alloc (.cells (wcells D0) 48)) := (Below.refl _ _).alloc (Nat.le_refl _) _
  exact ⟨fun _ => 1, D0,
    { b3 := T.size
      bs := hb.size
      tabs := T.low hb T.size
      bb := Nat.le_refl _
      wd := heap_alloc_new w _
      wl := rfl
      ha := Row.nil _ _ _ _ _ _
      words := Row.nil _ _ _ _ _ _
      reg := Row.nil _ _ _ _ _ _
      ls := Row.nil _ _ _ _ _ _
      lw := Row.nil _ _ _ _ _ _
      items := Row.nil _ _ _ _ _ _
      hsh := fun j h hh => by simp [D0] at hh
      la := fun j h hh => by simp [D0] at hh
      lb := fun j h hh => by simp [D0] at hh
      itm := fun i hi => by simp [D0] at hi
      nhs := Nat.le_refl _
      nws := Nat.le_refl _
      nrs := Nat.le_refl _
      nll := Nat.le_refl _
      nit := Nat.le_refl _
      pins := fun p hp => by simp at hp
      rng := ⟨⟨by decide, by decide⟩, ⟨by decide, by decide⟩, ⟨by decide, by decide⟩⟩ }⟩

/-- One step, whatever its kind. -/
theorem step_calls (pin : List (Nat × Obj)) (base b c : Nat) (p : Op1) (w : World) (G : Good pin base b c w) (hc : c < 2147483646) (hs : p.s.size ≤ 2147483648) (hx : Rng p.x) (hy : Rng p.y) (hz : Rng p.z) (hk : p.k ∈ kinds1) :
    (50 ≤ p.k → Calls Tryz.prog 19 #[.pointer (some ⟨b, 0, none⟩), opV p.k p.x p.y p.z p.s p.t] w fun e w' => Stepped pin base b (c + 1 + p.s.size) w (.bool true) e w') ∧
    (p.k < 50 → Calls Tryz.prog 20 #[.pointer (some ⟨b, 0, none⟩), opV p.k p.x p.y p.z p.s p.t] w fun e w' => Stepped pin base b (c + 1 + p.s.size) w (.bool true) e w') :=
  ⟨fun h => pure_calls pin base b c _ _ _ _ _ _ w G hc hs hx hy hz hk h, fun h => drive_calls pin base b c _ _ _ _ _ _ w G (by omega) hs hx hy hz hk h⟩
end Go.Proofs.YtenmjjpkbcogbaaGreatDoor

/- MaY -/
namespace Go.Proofs.YtenmjjpkbcogbaaGreatDoor
open Go.RowKit

set_option maxRecDepth 100000 in
set_option maxHeartbeats 4000000 in
theorem upTo_calls (a : Option Addr) (cap : Nat) (ops : List Op1) (w : World) (H : Script w a ops) (hR : ∀ (i : Nat) (p : Op1), ops[i]? = some p → Rng p.x ∧ Rng p.y ∧ Rng p.z) (T : Tabs w)
    (hsm : ops.length + weighTo ops ops.length ≤ 1073741824) (qk m : Nat) (ks : Nat → Int) (hks : ∀ j, j < m → w.cell? ⟨qk, j, none⟩ = some (.int .i64 (ks j))) (hm : m ≤ 100) (hm0 : 0 < m) :
    Calls Tryz.prog 15 #[.slice a ops.length cap, .int .i64 1, .slice (some ⟨qk, 0, none⟩) m m] w fun e w' => e = .returned (.int .i64 (-1)) ∧ Below w.heap.size w w' := by
  have HST : Hid (Good [] w.heap.size w.heap.size (0 + weighTo ops 0) (w.alloc (.cells #[.slice none 0 0, .slice none 0 0, .slice none 0 0, .slice none 0 0, .slice none 0 0, .string ⟨#[]⟩, .slice none 0 0, .slice none 0 0, .slice none 0 0, .int .i64 0, .int .i64 0, .int .i64 0, .slice none 0 0] 48))) := (good_start w T).more (Nat.zero_le _)
  have HSB : Hid (Below w.heap.size w (w.alloc (.cells #[.slice none 0 0, .slice none 0 0, .slice none 0 0, .slice none 0 0, .slice none 0 0, .string ⟨#[]⟩, .slice none 0 0, .slice none 0 0, .slice none 0 0, .int .i64 0, .int .i64 0, .int .i64 0, .slice none 0 0] 48))) := (Below.refl _ _).alloc (Nat.le_refl _) _
  have HA : Hid (∀ i (_ : i < ops.length), ∃ p : Op1, ops[i]? = some p ∧ (∃ g o, a = some ⟨g, o, none⟩ ∧ ∀ W, Below w.heap.size w W → OpAt W g (o + i * 6) p) ∧ (Rng p.x ∧ Rng p.y ∧ Rng p.z) ∧ p.s.size ≤ 1073741824 ∧ weighTo ops (i + 1) = weighTo ops i + (p.s.size + p.t.size) ∧ i + weighTo ops i < 1073741824 + 1) := by
    intro i hi
    have hp : ops[i]? = some (ops[i]'hi) := List.getElem?_eq_getElem hi
    obtain ⟨g, o, e, hlt, h⟩ := H.at_ i _ hp
    have hs := weighTo_succ ops i _ hp
    have h1 := weighTo_mono ops i (by omega)
    have h2 := weighTo_mono ops (i + 1) (by omega)
    exact ⟨_, hp, ⟨g, o, e, fun W hW => h.below hlt hW⟩, hR i _ hp, by omega, hs, by omega⟩
  have hlen : ops.length ≤ 1073741824 := by omega
  have HKS : Hid (∀ W, Below w.heap.size w W → ∀ j, j < m → W.cell? ⟨qk, j, none⟩ = some (.int .i64 (ks j))) := fun W hW j hj => cell_below hW (hks j hj)
  clear H hR T hks hsm
  generalize hN : ops.length = N at *
  clear hN
  go_enter Tryz.func15, Tryz.ntmps15
  go_wp2_with fail
  go_loopg [8] N (fun g r wr => ∃ i : Nat, g = N - i ∧ i ≤ N ∧ r = .int .i64 i ∧ Hid (Good [] w.heap.size w.heap.size (i + weighTo ops i) wr) ∧ Hid (Below w.heap.size w wr))
  case atStart => exact ⟨0, rfl, by omega, rfl, HST, HSB⟩
  case round =>
    obtain ⟨i, hg, hi, rfl, HGD, HBL⟩ := hrel
    have HG : Hid (gk = N - i) := hg
    clear hg
    by_cases hlt : i < N
    · obtain ⟨⟨k, x, y, z, s, t⟩, hp, ⟨g, o, rfl, hat⟩, ⟨hx, hy, hz⟩, hs, hws, hic⟩ := HA.out i hlt
      simp only at hx hy hz hs hws
      obtain ⟨r0, r1, r2, r3, r4, r5⟩ := hat wr HBL.out
      simp only at r0 r1 r2 r3 r4 r5
      have HBX : Hid (Good [(wr.heap.size, opO k x y z s t)] w.heap.size w.heap.size (i + weighTo ops i) (bx wr k x y z s t)) := HGD.out.boxed k x y z s t
      have HBB : Hid (Below w.heap.size w (bx wr k x y z s t)) := HBL.out.trans ((bx_below wr k x y z s t).mono HBL.out.size)
      have hiI : (i : Int) < (N : Int) := by omega
      have HIC : Hid (i + weighTo ops i < 1073741825) := hic
      have HWS : Hid (weighTo ops (i + 1) = weighTo ops i + (s.size + t.size)) := hws
      clear hat hp hic hws
      by_cases hin : k ∈ kinds1
      · have HAB : Hid (∀ W, Calls Tryz.prog 18 #[.int .i64 k, .int .i64 1] W fun e w' => e = .returned (.bool false) ∧ w' = W) := fun W => above_in k hin W
        have HSP := step_calls _ w.heap.size w.heap.size (i + weighTo ops i) ⟨k, x, y, z, s, t⟩ (bx wr k x y z s t) HBX.out (by have := HIC.out; omega) (by show s.size ≤ _; omega) hx hy hz hin
        simp only at HSP
        obtain ⟨hpu, hdr⟩ := HSP
        have HPU : Hid (50 ≤ k → Calls Tryz.prog 19 #[.pointer (some ⟨w.heap.size, 0, none⟩), opV k x y z s t] (bx wr k x y z s t) fun e w' => Stepped [(wr.heap.size, opO k x y z s t)] w.heap.size w.heap.size (i + weighTo ops i + 1 + s.size) (bx wr k x y z s t) (.bool true) e w') := hpu
        have HDR : Hid (k < 50 → Calls Tryz.prog 20 #[.pointer (some ⟨w.heap.size, 0, none⟩), opV k x y z s t] (bx wr k x y z s t) fun e w' => Stepped [(wr.heap.size, opO k x y z s t)] w.heap.size w.heap.size (i + weighTo ops i + 1 + s.size) (bx wr k x y z s t) (.bool true) e w') := hdr
        have HWG : Hid (∀ W n, Good [(wr.heap.size, opO k x y z s t)] w.heap.size w.heap.size (i + weighTo ops i + 1 + s.size) W → Good [] w.heap.size w.heap.size (i + 1 + weighTo ops (i + 1)) (W.drewN n)) := fun W n hW => by
          rw [HWS.out]
          exact (hW.unpin.more (by omega)).below (below_drewN W n)
        have HLK : Hid (∀ W, Good [(wr.heap.size, opO k x y z s t)] w.heap.size w.heap.size (i + weighTo ops i + 1 + s.size) W → Calls Tryz.prog 21 #[.pointer (some ⟨w.heap.size, 0, none⟩)] W fun e w' => e = .returned (.bool true) ∧ ∃ n, w' = W.drewN n) := fun W hW => looks_calls _ w.heap.size w.heap.size _ W hW (by have := HIC.out; omega)
        clear hpu hdr hx hy hz hin
        unfold bx at HPU HDR HBX HBB
        unfold opV at HPU HDR
        go_wp2_with fail
        refine (HAB.out _).mono ?_
        rintro e w1 ⟨rfl, hw1⟩
        subst hw1
        have hmI : (m : Int) ≠ 0 := by omega
        by_cases hk50 : 50 ≤ k
        all_goals
          go_wp2_with fail
          first
            | refine (HPU.out hk50).mono ?_
            | refine (HDR.out (by omega)).mono ?_
          rintro e w2 ⟨rfl, G2, B2⟩
          have p0 : w2.cell? ⟨wr.heap.size, 0, none⟩ = some (.int .i64 k) := by rw [cell_of_row w2 _ 0 _ _ _ G2.pinned]; rfl
          have HKW : Hid (∀ j, j < m → w2.cell? ⟨qk, j, none⟩ = some (.int .i64 (ks j))) := HKS.out w2 (HBB.out.trans B2)
          have HBN : Hid (∀ n n', Below w.heap.size w ((w2.drewN n).drewN n')) := fun n n' => below_drews (below_drews (HBB.out.trans B2) n) n'
          have HLK2 : Hid (∀ n, Calls Tryz.prog 21 #[.pointer (some ⟨w.heap.size, 0, none⟩)] (w2.drewN n) fun e w' => e = .returned (.bool true) ∧ ∃ n', w' = (w2.drewN n).drewN n') := fun n => HLK.out _ (G2.below (below_drewN w2 n))
          have HWG2 : Hid (∀ n n', Good [] w.heap.size w.heap.size (i + 1 + weighTo ops (i + 1)) ((w2.drewN n).drewN n')) := fun n n' => HWG.out _ n' (G2.below (below_drewN w2 n))
          clear G2 B2 r0 r1 r2 r3 r4 r5 HPU HDR HAB HBX HBB HWG HLK
          obtain ⟨q, hq⟩ : ∃ q, q = wr.heap.size := ⟨_, rfl⟩
          rw [← hq] at p0
          go_upto_region 14 with fail
          rw [← hq]
          clear hq
          go_loopg [12, 13] m (fun g hv r wq => ∃ (j n : Nat) (hb : Bool), g = m - j ∧ j ≤ m ∧ hv = .bool hb ∧ r = .int .i64 j ∧ wq = w2.drewN n)
          case atStart => exact ⟨0, 0, _, rfl, by omega, rfl, rfl, rfl⟩
          case round =>
            obtain ⟨j, n, hb, hg, hj, rfl, rfl, hwr⟩ := hrel
            have HG2 : Hid (gk = m - j) := hg
            have HWR : Hid (wr = w2.drewN n) := hwr
            clear hg hwr
            by_cases hjm : j < m
            · have e0 : wr.cell? ⟨q, 0, none⟩ = some (.int .i64 k) := by rw [HWR.out]; exact p0
              have e1 : wr.cell? ⟨qk, j, none⟩ = some (.int .i64 (ks j)) := by rw [HWR.out]; exact HKW.out j hjm
              generalize ks j = kj at *
              have hjI : (j : Int) < (m : Int) := by omega
              cases hb
              · go_wp2_with fail
                go_region
                go_wp2_with fail
                go_roundg (m - (j + 1))
                case measure => have := HG2.out; omega
                case rel => exact ⟨j + 1, n + 1, _, rfl, by omega, rfl, by go_num, by rw [HWR.out]; rfl⟩
              · go_wp2_with fail
                go_region
                go_wp2_with fail
                go_roundg (m - (j + 1))
                case measure => have := HG2.out; omega
                case rel => exact ⟨j + 1, n + 1, _, rfl, by omega, rfl, by go_num, by rw [HWR.out]; rfl⟩
            · obtain rfl : j = m := by omega
              have hjI : ¬ (j : Int) < (j : Int) := by omega
              have HL3 := HLK2.out n
              rw [← HWR.out] at HL3
              have HL4 : Hid (Calls Tryz.prog 21 #[.pointer (some ⟨w.heap.size, 0, none⟩)] wr fun e w' => e = .returned (.bool true) ∧ ∃ n', w' = wr.drewN n') := HL3
              clear HL3
              cases hb
              all_goals
                go_wp2_with fail
                refine HL4.out.mono ?_
                rintro e w5 ⟨rfl, n5, hw5⟩
                have HW5 : Hid (w5 = (w2.drewN n).drewN n5) := by rw [hw5, HWR.out]; rfl
                clear hw5
                go_wp2_with fail
                go_roundg (N - (i + 1))
                case measure => have := HG.out; omega
                case rel => exact ⟨i + 1, rfl, by omega, by go_num, by rw [HW5.out]; exact HWG2.out n n5, by rw [HW5.out]; exact HBN.out n n5⟩
      · have HAB : Hid (∀ W, Calls Tryz.prog 18 #[.int .i64 k, .int .i64 1] W fun e w' => e = .returned (.bool true) ∧ w' = W) := fun W => above_out k hin W
        have HGN : Hid (Good [] w.heap.size w.heap.size (i + 1 + weighTo ops (i + 1)) (bx wr k x y z s t)) := HBX.out.unpin.more (by rw [HWS.out]; omega)
        clear hin hx hy hz
        unfold bx at HGN HBB
        go_wp2_with fail
        refine (HAB.out _).mono ?_
        rintro e w1 ⟨rfl, hw1⟩
        subst hw1
        go_wp2_with fail
        go_roundg (N - (i + 1))
        case measure => have := HG.out; omega
        case rel => exact ⟨i + 1, rfl, by omega, by go_num, HGN, HBB⟩
    · obtain rfl : i = N := by omega
      have hiI : ¬ (i : Int) < (i : Int) := by omega
      go_wp2_with fail
      go_ret
      exact ⟨rfl, HBL.out⟩
end Go.Proofs.YtenmjjpkbcogbaaGreatDoor

/- MaZ -/
namespace Go.Proofs.YtenmjjpkbcogbaaGreatDoor
open Go.RowKit

theorem Script.below {w W : World} {a : Option Addr} {ops : List Op1} (h : Script w a ops) (k : Below w.heap.size w W) : Script W a ops :=
  ⟨h.len, fun i p hp => by
    obtain ⟨g, o, e, hlt, ho⟩ := h.at_ i p hp
    exact ⟨g, o, e, Nat.lt_of_lt_of_le hlt k.size, ho.below hlt k⟩, h.szS⟩

theorem plays_calls (a : Option Addr) (cap : Nat) (ops : List Op1) (w : World) (H : Script w a ops) (hR : ∀ (i : Nat) (p : Op1), ops[i]? = some p → Rng p.x ∧ Rng p.y ∧ Rng p.z) (T : Tabs w)
    (qk m : Nat) (ks : Nat → Int) (hks : ∀ j, j < m → w.cell? ⟨qk, j, none⟩ = some (.int .i64 (ks j))) (hm : m ≤ 100) (hm0 : 0 < m) :
    Calls Tryz.prog 12 #[.slice a ops.length cap, .int .i64 1, .slice (some ⟨qk, 0, none⟩) m m] w fun e w' => e = .returned (.bool true) ∧ Below w.heap.size w w' := by
  have HS : Hid (Calls Tryz.prog 14 #[.slice a ops.length cap] w fun e w' => (e = .returned (.bool false) ∨ e = .returned (.bool true) ∧ ops.length + weighTo ops ops.length ≤ 1073741824) ∧ ∃ n, w' = w.drewN n) := small_calls a cap ops w H
  have HU : Hid (∀ n, ops.length + weighTo ops ops.length ≤ 1073741824 → Calls Tryz.prog 15 #[.slice a ops.length cap, .int .i64 1, .slice (some ⟨qk, 0, none⟩) m m] (w.drewN n) fun e w' => e = .returned (.int .i64 (-1)) ∧ Below w.heap.size w w') := fun n hsm =>
    (upTo_calls a cap ops (w.drewN n) (H.below (below_drewN w n)) hR (T.below (below_drewN w n)) hsm qk m ks (fun j hj => cell_below (below_drewN w n) (hks j hj)) hm hm0).mono fun e w' h => ⟨h.1, (below_drewN w n).trans h.2⟩
  clear H hR T hks
  generalize ops.length = N at *
  go_enter Tryz.func12, Tryz.ntmps12
  go_wp2_with fail
  refine HS.out.mono ?_
  rintro e w1 ⟨he, n, hw1⟩
  rcases he with rfl | ⟨rfl, hsm⟩
  · have HB : Hid (Below w.heap.size w w1) := by rw [hw1]; exact below_drewN w n
    clear hw1
    go_wp2_with fail
    go_ret
    exact ⟨rfl, HB.out⟩
  · have HU1 := HU.out n hsm
    rw [← hw1] at HU1
    have HU2 : Hid (Calls Tryz.prog 15 #[.slice a N cap, .int .i64 1, .slice (some ⟨qk, 0, none⟩) m m] w1 fun e w' => e = .returned (.int .i64 (-1)) ∧ Below w.heap.size w w') := HU1
    clear HU1 hw1 hsm
    go_wp2_with fail
    refine HU2.out.mono ?_
    rintro e w2 ⟨rfl, B2⟩
    have HB : Hid (Below w.heap.size w w2) := B2
    clear B2
    go_wp2_with fail
    go_ret
    exact ⟨rfl, HB.out⟩

theorem hashesLaw_calls (a : Option Addr) (cap : Nat) (ops : List Op1) (w : World) (H : Script w a ops) (hR : ∀ (i : Nat) (p : Op1), ops[i]? = some p → Rng p.x ∧ Rng p.y ∧ Rng p.z) (T : Tabs w) :
    Calls Tryz.prog 3 #[.slice a ops.length cap] w fun e w' => e = .returned (.bool true) ∧ Below w.heap.size w w' := by
  have B0 : Below w.heap.size w (w.alloc (.cells #[.int .i64 38, .int .i64 50] 3)) := (Below.refl _ _).alloc (Nat.le_refl _) _
  have HP : Hid (Calls Tryz.prog 12 #[.slice a ops.length cap, .int .i64 1, .slice (some ⟨w.heap.size, 0, none⟩) 2 2] (w.alloc (.cells #[.int .i64 38, .int .i64 50] 3)) fun e w' => e = .returned (.bool true) ∧ Below w.heap.size w w') :=
    (plays_calls a cap ops _ (H.below B0) hR (T.below B0) w.heap.size 2 (fun j => if j = 0 then 38 else 50) (fun j hj => by
      rw [cell_of_row _ _ j _ _ _ (heap_alloc_new w _)]
      have : j = 0 ∨ j = 1 := by omega
      rcases this with rfl | rfl <;> rfl) (by omega) (by omega)).mono fun e w' h => ⟨h.1, B0.trans (h.2.mono B0.size)⟩
  clear H hR T B0
  generalize ops.length = N at *
  go_enter Tryz.func3, Tryz.ntmps3
  go_wp2_with fail
  refine HP.out.mono ?_
  rintro e w1 ⟨rfl, B1⟩
  have HB : Hid (Below w.heap.size w w1) := B1
  clear B1
  go_wp2_with fail
  go_ret
  exact ⟨rfl, HB.out⟩

theorem codesLaw_calls (a : Option Addr) (cap : Nat) (ops : List Op1) (w : World) (H : Script w a ops) (hR : ∀ (i : Nat) (p : Op1), ops[i]? = some p → Rng p.x ∧ Rng p.y ∧ Rng p.z) (T : Tabs w) :
    Calls Tryz.prog 4 #[.slice a ops.length cap] w fun e w' => e = .returned (.bool true) ∧ Below w.heap.size w w' := by
  have B0 : Below w.heap.size w (w.alloc (.cells #[.int .i64 51, .int .i64 52, .int .i64 55, .int .i64 56] 3)) := (Below.refl _ _).alloc (Nat.le_refl _) _
  have HP : Hid (Calls Tryz.prog 12 #[.slice a ops.length cap, .int .i64 1, .slice (some ⟨w.heap.size, 0, none⟩) 4 4] (w.alloc (.cells #[.int .i64 51, .int .i64 52, .int .i64 55, .int .i64 56] 3)) fun e w' => e = .returned (.bool true) ∧ Below w.heap.size w w') :=
    (plays_calls a cap ops _ (H.below B0) hR (T.below B0) w.heap.size 4 (fun j => if j = 0 then 51 else if j = 1 then 52 else if j = 2 then 55 else 56) (fun j hj => by
      rw [cell_of_row _ _ j _ _ _ (heap_alloc_new w _)]
      have : j = 0 ∨ j = 1 ∨ j = 2 ∨ j = 3 := by omega
      rcases this with rfl | rfl | rfl | rfl <;> rfl) (by omega) (by omega)).mono fun e w' h => ⟨h.1, B0.trans (h.2.mono B0.size)⟩
  clear H hR T B0
  generalize ops.length = N at *
  go_enter Tryz.func4, Tryz.ntmps4
  go_wp2_with fail
  refine HP.out.mono ?_
  rintro e w1 ⟨rfl, B1⟩
  have HB : Hid (Below w.heap.size w w1) := B1
  clear B1
  go_wp2_with fail
  go_ret
  exact ⟨rfl, HB.out⟩
end Go.Proofs.YtenmjjpkbcogbaaGreatDoor
