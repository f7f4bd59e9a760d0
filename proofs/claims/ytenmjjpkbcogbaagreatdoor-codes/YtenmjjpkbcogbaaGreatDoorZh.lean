import Derived.Test.YtenmjjpkbcogbaaGreatDoorZf
import Derived.Test.YtenmjjpkbcogbaaGreatDoorZg
import Derived.Test.YtenmjjpkbcogbaaGreatDoorZe

/- MaN -/
namespace Go.Proofs.YtenmjjpkbcogbaaGreatDoor
open Go.RowKit

theorem info144 : (Tryz.prog.info? 144).map (fun i => (i.zero, i.size, i.bytes)) = some (some (.agg #[.pointer none, .string ⟨#[]⟩]), 2, 24) := by kernel_rfl
theorem two_at (w : World) (x y : Value) (t : TypeId) {n : Nat} (hn : n = w.heap.size) : ∀ j u, [x, y][j]? = some u → (w.alloc (.cells #[x, y] t)).cell? ((⟨n, 0, none⟩ : Addr).add j) = some u := by
  subst hn
  intro j u hu
  rw [addr_add, cell_of_row _ _ j _ _ _ (heap_alloc_new w _)]
  show ([x, y].toArray)[j]? = some u
  rw [List.getElem?_toArray]; exact hu

set_option maxRecDepth 100000 in
theorem hashed_new (pin : List (Nat × Obj)) (base b c : Nat) (x y z : Int) (s t : ByteArray) (w : World) (G : Good pin base b c w) (hc : c < 4294967296) :
    Calls Tryz.prog 36 #[.pointer (some ⟨b, 0, none⟩), opV 36 x y z s t] w fun e w' => Stepped pin base b (c + 1) w (.bool true) e w' := by
  obtain ⟨l, D, I⟩ := G
  have hbs := I.bs
  have hhn := I.nhs
  have hblt := I.lt
  obtain ⟨W, hW⟩ : ∃ W, W = (bx w 36 x y z s t).alloc (.cells (hcells zeroF 0) 246) := ⟨_, rfl⟩
  have B1 : Below w.heap.size w W := by rw [hW]; exact (bx_below w 36 x y z s t).alloc (bx_below w 36 x y z s t).size _
  have hsW : W.heap.size = w.heap.size + 2 := by rw [hW]; unfold bx; simp
  have hq : W.heap[w.heap.size + 1]? = some (.cells (hcells zeroF 0) 246 (0, 0)) := by
    rw [hW]
    have := heap_alloc_new (bx w 36 x y z s t) (.cells (hcells zeroF 0) 246)
    have e : (bx w 36 x y z s t).heap.size = w.heap.size + 1 := by unfold bx; simp
    rw [e] at this; exact this
  have I1 : Inv pin base b c (fun k => if k = w.heap.size + 1 then 8 + 3 * D.hs.length else l k) D W := (I.relab _ (fun k hk => by rw [if_neg (by omega)])).below B1
  have HQ : HashIs base (fun k => if k = w.heap.size + 1 then 8 + 3 * D.hs.length else l k) (8 + 3 * D.hs.length) W (w.heap.size + 1) ⟨#[]⟩ := ⟨by simp, by omega, ⟨hq⟩⟩
  generalize (fun k => if k = w.heap.size + 1 then 8 + 3 * D.hs.length else l k) = l1 at *
  have c3 := I1.cell 3 _ (show (wcells D)[3]? = some D.ha from rfl)
  have HI1 : Hid (Inv pin base b c l1 D W) := I1
  have HHQ : Hid (HashIs base l1 (8 + 3 * D.hs.length) W (w.heap.size + 1) ⟨#[]⟩) := HQ
  have HB1 : Hid (Below w.heap.size w W) := B1
  have HSW : Hid (W.heap.size = w.heap.size + 2) := hsW
  have HNW : Hid (Calls Tryz.prog 121 #[] (bx w 36 x y z s t) fun e w' => e = .returned (.pointer (some ⟨w.heap.size + 1, 0, none⟩)) ∧ w' = W) := by
    have := new_calls (bx w 36 x y z s t)
    have e : (bx w 36 x y z s t).heap.size = w.heap.size + 1 := by unfold bx; simp
    rw [e, ← hW] at this; exact this
  have hbW : b < W.heap.size := I1.lt
  have hsb : base ≤ W.heap.size := I1.bs
  obtain ⟨i0, hi0, hz0, hz1, hz2⟩ := info_parts info144
  clear I I1 HQ B1 hsW hW hq
  unfold bx at HNW
  unfold opV
  go_enter Tryz.func36, Tryz.ntmps36
  go_wp2_with fail
  refine HNW.out.mono ?_
  rintro e w1 ⟨rfl, hw1⟩
  subst hw1
  go_wp2_with (at_builtin; refine wpList_append_lies _ rfl (.tmp 19) (.tmp 22) 43 rfl base 144 i0 (.agg #[.pointer none, .string ⟨#[]⟩]) 2 24 Tryz.underlying43 hi0 hz0 hz1 hz2 rfl (by decide) D.ha D.hs.length (haCells D.hs) rfl (HI1.out.ha.own.alloc _) ⟨w1.heap.size, 0, none⟩ 1 1 [.pointer (some ⟨w.heap.size + 1, 0, none⟩), .string ⟨#[]⟩] rfl rfl (two_at _ _ _ _ rfl) ?c2 (by omega) ?c3 ?c4 ?c5 _ rfl ?c6)
  case c2 => intro v hv; simp at hv; rcases hv with rfl | rfl <;> rfl
  case c3 => unfold maxLen; omega
  case c4 => omega
  case c5 => simp; omega
  intro g cap w' hown hgr hat hlt
  have hA : Below w1.heap.size w1 (w1.alloc (.cells #[.pointer (some ⟨w.heap.size + 1, 0, none⟩), .string ⟨#[]⟩] 144)) := (Below.refl _ _).alloc (Nat.le_refl _) _
  obtain ⟨G1, B2, hwd⟩ := (HI1.out.below hA).hashAdded (w.heap.size + 1) ⟨#[]⟩ (HHQ.out.move (Moved.below l1 hA) fun x => x) (Nat.zero_le _) g cap w' hown hgr (by simpa using hat)
  have c3' : w'.cell? ⟨b, 3, none⟩ = some D.ha := by rw [cell_of_row w' b 3 _ _ _ hwd]; rfl
  have f3' : w'.frozen? ⟨b, 3, none⟩ = false := frozen_of_row w' b 3 _ _ hwd
  have HF : Hid (Good pin base b (c + 1) (w'.setCell ⟨b, 3, none⟩ (.slice (some ⟨g, 0, none⟩) (D.hs.length + 1) cap)) ∧ Below base w (w'.setCell ⟨b, 3, none⟩ (.slice (some ⟨g, 0, none⟩) (D.hs.length + 1) cap))) := ⟨G1, (HB1.out.mono hbs).trans ((hA.mono hsb).trans B2)⟩
  clear G1 B2 hwd hown hgr hat hA
  go_wp2_with fail
  go_ret
  exact ⟨rfl, HF.out⟩

theorem hashed_none (pin : List (Nat × Obj)) (base b c : Nat) (k x y z : Int) (s t : ByteArray) (w : World) (l : Nat → Nat) (D : Dat) (I : Inv pin base b c l D w) (h0 : D.hs.length = 0) (hk : k ≠ 36) :
    Calls Tryz.prog 36 #[.pointer (some ⟨b, 0, none⟩), opV k x y z s t] w fun e w' => Stepped pin base b (c + 1) w (.bool true) e w' := by
  obtain ⟨a3, k3, h3, _, _, _⟩ := own_form I.ha.own
  have c3 := I.cell 3 _ (show (wcells D)[3]? = some D.ha from rfl)
  rw [h3, h0] at c3
  have hblt := I.lt
  have HF : Hid (Good pin base b (c + 1) (bx w k x y z s t) ∧ Below base w (bx w k x y z s t)) := bx_good ⟨⟨l, D, I⟩, Below.refl _ _⟩ k x y z s t
  clear I h3
  unfold bx at HF
  unfold opV
  go_enter Tryz.func36, Tryz.ntmps36
  go_wp2_with fail
  go_ret
  exact ⟨rfl, HF.out⟩
end Go.Proofs.YtenmjjpkbcogbaaGreatDoor

/- MaO -/
namespace Go.Proofs.YtenmjjpkbcogbaaGreatDoor
open Go.RowKit

theorem ba_append (a b : ByteArray) : (a ++ b).data.toList = a.data.toList ++ b.data.toList := by simp

set_option maxRecDepth 100000 in
set_option maxHeartbeats 1000000 in
theorem hashed_sum (pin : List (Nat × Obj)) (base b c : Nat) (x y z : Int) (s t : ByteArray) (w : World) (l : Nat → Nat) (D : Dat) (I : Inv pin base b c l D w) (hc : c < 2147483648) (h0 : D.hs.length ≠ 0) (hx : Rng x) :
    Calls Tryz.prog 36 #[.pointer (some ⟨b, 0, none⟩), opV 38 x y z s t] w fun e w' => Stepped pin base b (c + 1) w (.bool true) e w' := by
  obtain ⟨a3, k3, h3, _, _, f3⟩ := own_form I.ha.own
  have c3 := I.cell 3 _ (show (wcells D)[3]? = some D.ha from rfl)
  rw [h3] at c3
  have hblt := I.lt
  have hbs := I.bs
  have hnh := I.nhs
  have hlt := pickN_lt x D.hs.length (by omega)
  have hp : D.hs[pickN x D.hs.length]? = some D.hs[pickN x D.hs.length] := List.getElem?_eq_getElem hlt
  have HP0 : Hid (∀ W, Calls Tryz.prog 62 #[.int .i64 x, .int .i64 D.hs.length] W fun e w' => e = .returned (.int .i64 (pickN x D.hs.length)) ∧ w' = W) := fun W => pick_calls x _ hx (by omega) (by omega) W
  obtain ⟨r0, r1⟩ := haCells_at _ _ _ hp
  rcases f3 with ⟨_, h, _⟩ | ⟨gh, rfl⟩
  · omega
  have q0 := own_cell I.ha.own (by rw [h3]; rfl) _ _ r0
  have q1 := own_cell I.ha.own (by rw [h3]; rfl) _ _ r1
  have hghl := (I.ha.own.lt gh (by rw [h3]; rfl)).2
  have HH := (I.hsh _ _ hp).1
  have hts := (I.hsh _ _ hp).2
  generalize D.hs[pickN x D.hs.length] = p at *
  obtain ⟨hb, tx⟩ := p
  simp only at q0 q1 HH hts
  have HSM : Hid (∀ W, Below w.heap.size w W → Calls Tryz.prog 123 #[.pointer (some ⟨hb, 0, none⟩)] W fun e w' => e = .returned (.string (hashF tx)) ∧ Below W.heap.size W w') := fun W hW =>
    sumM_calls (writeF startF tx.data.toList) W hb (HH.held.below hW) (writeF_lt _ _ (by decide)) (I.tabs.below hW)
  have HLS : Hid (∀ W, Calls Tryz.prog 58 #[.string tx] W fun e w' => e = .returned (.string (hashF tx)) ∧ Below W.heap.size W w') := fun W => lsum_calls tx (by omega) W
  have HWD : Hid (∀ W, Below w.heap.size w W → Calls Tryz.prog 25 #[.pointer (some ⟨b, 0, none⟩), .string (hashF tx)] W fun e w' => e = .returned (.tuple #[]) ∧ Good pin base b (c + 1) w' ∧ Below base W w') := fun W hW =>
    mword_calls pin base b c _ W ⟨l, D, I.below hW⟩ (by omega)
  generalize hashF tx = hsh at *
  generalize pickN x D.hs.length = K at *
  generalize hN : D.hs.length = N at *
  have hK' : (K : Int) < (N : Int) := by omega
  have hN0 : (N : Int) ≠ 0 := by omega
  rw [Nat.mul_comm] at q0
  rw [Nat.mul_comm 2 K] at q1
  have HB0 : Hid (Below w.heap.size w (bx w 38 x y z s t)) := bx_below w 38 x y z s t
  clear I HH h3 hp r0 r1 hx
  unfold bx at HB0
  unfold opV
  go_enter Tryz.func36, Tryz.ntmps36
  go_wp2_with fail
  go_quiet ((go_at_call 62; refine Calls.quiet_of_same (HP0.out _)))
  obtain ⟨W2, hW2⟩ : ∃ W2, W2 = (w.alloc (.cells #[.int .i64 38, .int .i64 x, .int .i64 y, .int .i64 z, .string s, .string t] 38)).drewN nq := ⟨_, rfl⟩
  rw [← hW2]
  have HB2 : Hid (Below w.heap.size w W2) := by rw [hW2]; exact below_drews HB0.out _
  have o2 : W2.heap[w.heap.size]? = some (.cells #[.int .i64 38, .int .i64 x, .int .i64 y, .int .i64 z, .string s, .string t] 38 (0, 0)) := by rw [hW2]; exact heap_alloc_new w _
  have oc2 : ∀ j, W2.cell? ⟨w.heap.size, j, none⟩ = (#[Value.int .i64 38, .int .i64 x, .int .i64 y, .int .i64 z, .string s, .string t])[j]? := fun j => cell_of_row W2 _ j _ _ _ o2
  have p0 := oc2 0
  have c3' := cell_below HB2.out c3
  have q0' := cell_below HB2.out q0
  have q1' := cell_below HB2.out q1
  have hszW : w.heap.size < W2.heap.size := (Array.getElem?_eq_some_iff.1 o2).1
  have hghW : gh < W2.heap.size := by omega
  have hbW : b < W2.heap.size := by omega
  clear o2 oc2 hW2 c3 q0 q1
  go_wp2_with fail
  have B3 : Below w.heap.size w (W2.alloc (.cells #[.pointer (some ⟨hb, 0, none⟩), .string tx] 144)) := HB2.out.alloc HB2.out.size _
  refine (HSM.out _ B3).mono ?_
  rintro e w4 ⟨rfl, B4⟩
  have d1 : w4.cell? ⟨W2.heap.size, 1, none⟩ = some (.string tx) := by
    rw [World.cell?_of_block (B4.block W2.heap.size (by simp)), cell_of_row _ _ 1 _ _ _ (heap_alloc_new W2 _)]; rfl
  have HB4 : Hid (Below w.heap.size w w4) := B3.trans (B4.mono B3.size)
  have hs4 : W2.heap.size < w4.heap.size := by have := B4.size; simp at this; omega
  clear B3 B4
  go_wp2_with fail
  refine (HLS.out _).mono ?_
  rintro e w5 ⟨rfl, B5⟩
  have HB5 : Hid (Below w.heap.size w w5) := HB4.out.trans (B5.mono HB4.out.size)
  clear B5
  go_wp2_with fail
  refine (HWD.out _ HB5.out).mono ?_
  rintro e w6 ⟨rfl, G6, B6⟩
  have HF : Hid (Good pin base b (c + 1) w6 ∧ Below base w w6) := ⟨G6, (HB5.out.mono hbs).trans B6⟩
  clear G6 B6
  go_wp2_with fail
  go_ret
  exact ⟨rfl, HF.out⟩

set_option maxRecDepth 100000 in
set_option maxHeartbeats 1000000 in
theorem hashed_anew (pin : List (Nat × Obj)) (base b c : Nat) (x y z : Int) (s t : ByteArray) (w : World) (l : Nat → Nat) (D : Dat) (I : Inv pin base b c l D w) (hc : c < 2147483648) (h0 : D.hs.length ≠ 0) (hx : Rng x) :
    Calls Tryz.prog 36 #[.pointer (some ⟨b, 0, none⟩), opV 39 x y z s t] w fun e w' => Stepped pin base b (c + 1) w (.bool true) e w' := by
  obtain ⟨a3, k3, h3, _, _, f3⟩ := own_form I.ha.own
  have c3 := I.cell 3 _ (show (wcells D)[3]? = some D.ha from rfl)
  rw [h3] at c3
  have hblt := I.lt
  have hbs := I.bs
  have hnh := I.nhs
  have hlt := pickN_lt x D.hs.length (by omega)
  have hp : D.hs[pickN x D.hs.length]? = some D.hs[pickN x D.hs.length] := List.getElem?_eq_getElem hlt
  have HP0 : Hid (∀ W, Calls Tryz.prog 62 #[.int .i64 x, .int .i64 D.hs.length] W fun e w' => e = .returned (.int .i64 (pickN x D.hs.length)) ∧ w' = W) := fun W => pick_calls x _ hx (by omega) (by omega) W
  obtain ⟨r0, r1⟩ := haCells_at _ _ _ hp
  rcases f3 with ⟨_, h, _⟩ | ⟨gh, rfl⟩
  · omega
  have q0 := own_cell I.ha.own (by rw [h3]; rfl) _ _ r0
  have q1 := own_cell I.ha.own (by rw [h3]; rfl) _ _ r1
  have hghl := (I.ha.own.lt gh (by rw [h3]; rfl)).2
  have HH := (I.hsh _ _ hp).1
  have hts := (I.hsh _ _ hp).2
  generalize D.hs[pickN x D.hs.length] = p at *
  obtain ⟨hb, tx⟩ := p
  simp only at q0 q1 HH hts
  have HRS : Hid (∀ W, Below w.heap.size w W → Calls Tryz.prog 124 #[.pointer (some ⟨hb, 0, none⟩)] W fun e w' => e = .returned (.tuple #[]) ∧ Held w' hb zeroF 0 ∧ Kept hb W w') := fun W hW =>
    reset_calls _ _ W hb (HH.held.below hW)
  have HST : Hid (∀ W w1, Below w.heap.size w W → Kept hb W w1 → Held w1 hb zeroF 0 → (Good pin base b (c + 1) (w1.setCell ⟨gh, 2 * pickN x D.hs.length + 1, none⟩ (.string ⟨#[]⟩)) ∧ Below base W (w1.setCell ⟨gh, 2 * pickN x D.hs.length + 1, none⟩ (.string ⟨#[]⟩)) ∧
      w1.heap[b]? = some (.cells (wcells D) 48 (0, 0)) ∧ w1.ownsRow base 144 2 D.ha D.hs.length (haCells D.hs))) := fun W w1 hW hK hH =>
    (I.below hW).hashSet _ _ hp ⟨#[]⟩ (by omega) (Nat.zero_le _) w1 hK hH gh (by rw [h3]; rfl)
  have HHA : Hid (D.ha = .slice (some ⟨gh, 0, none⟩) D.hs.length k3) := h3
  have HW3 : Hid ((wcells D)[3]? = some (.slice (some ⟨gh, 0, none⟩) D.hs.length k3)) := by show _ = _; rw [← h3]; rfl
  have HRR : Hid ((haCells D.hs)[2 * pickN x D.hs.length + 1]? = some (.string tx)) := r1
  generalize pickN x D.hs.length = K at *
  generalize hN : D.hs.length = N at *
  have hK' : (K : Int) < (N : Int) := by omega
  have hN0 : (N : Int) ≠ 0 := by omega
  rw [Nat.mul_comm] at q0
  rw [Nat.mul_comm 2 K] at q1
  have HB0 : Hid (Below w.heap.size w (bx w 39 x y z s t)) := bx_below w 39 x y z s t
  clear I HH h3 hp r0 r1 hx
  unfold bx at HB0
  unfold opV
  go_enter Tryz.func36, Tryz.ntmps36
  go_wp2_with fail
  go_quiet ((go_at_call 62; refine Calls.quiet_of_same (HP0.out _)))
  obtain ⟨W2, hW2⟩ : ∃ W2, W2 = (w.alloc (.cells #[.int .i64 39, .int .i64 x, .int .i64 y, .int .i64 z, .string s, .string t] 38)).drewN nq := ⟨_, rfl⟩
  rw [← hW2]
  have HB2 : Hid (Below w.heap.size w W2) := by rw [hW2]; exact below_drews HB0.out _
  have o2 : W2.heap[w.heap.size]? = some (.cells #[.int .i64 39, .int .i64 x, .int .i64 y, .int .i64 z, .string s, .string t] 38 (0, 0)) := by rw [hW2]; exact heap_alloc_new w _
  have oc2 : ∀ j, W2.cell? ⟨w.heap.size, j, none⟩ = (#[Value.int .i64 39, .int .i64 x, .int .i64 y, .int .i64 z, .string s, .string t])[j]? := fun j => cell_of_row W2 _ j _ _ _ o2
  have p0 := oc2 0
  have c3' := cell_below HB2.out c3
  have q0' := cell_below HB2.out q0
  have q1' := cell_below HB2.out q1
  have hszW : w.heap.size < W2.heap.size := (Array.getElem?_eq_some_iff.1 o2).1
  have hghW : gh < W2.heap.size := by omega
  have hbW : b < W2.heap.size := by omega
  clear o2 oc2 hW2 c3 q0 q1
  go_wp2_with fail
  have B3 : Below w.heap.size w (W2.alloc (.cells #[.pointer (some ⟨hb, 0, none⟩), .string tx] 144)) := HB2.out.alloc HB2.out.size _
  refine (HRS.out _ B3).mono ?_
  rintro e w4 ⟨rfl, hH, hK⟩
  obtain ⟨G5, B5, hwb, hoh⟩ := HST.out _ w4 B3 hK hH
  have d3 : w4.cell? ⟨b, 3, none⟩ = some (.slice (some ⟨gh, 0, none⟩) N k3) := by rw [cell_of_row w4 b 3 _ _ _ hwb]; exact HW3.out
  have d4 : w4.cell? ⟨gh, K * 2 + 1, none⟩ = some (.string tx) := by
    rw [Nat.mul_comm]; exact own_cell hoh (by rw [HHA.out]; rfl) _ _ HRR.out
  have f4 : w4.frozen? ⟨gh, K * 2 + 1, none⟩ = false := own_free hoh (by rw [HHA.out]; rfl) _
  rw [Nat.mul_comm 2 K] at G5 B5
  have HF : Hid (Good pin base b (c + 1) (w4.setCell ⟨gh, K * 2 + 1, none⟩ (.string ⟨#[]⟩)) ∧ Below base w (w4.setCell ⟨gh, K * 2 + 1, none⟩ (.string ⟨#[]⟩))) := ⟨G5, (B3.mono hbs).trans B5⟩
  clear B3 hH hK G5 B5 hwb hoh
  go_wp2_with fail
  go_ret
  exact ⟨rfl, HF.out⟩

set_option maxRecDepth 100000 in
set_option maxHeartbeats 1000000 in
theorem hashed_take (pin : List (Nat × Obj)) (base b c : Nat) (x y z : Int) (s t : ByteArray) (w : World) (l : Nat → Nat) (D : Dat) (I : Inv pin base b c l D w) (hc : c < 2147483648) (h0 : D.hs.length ≠ 0) (hx : Rng x) (hs : s.size ≤ 2147483648) :
    Calls Tryz.prog 36 #[.pointer (some ⟨b, 0, none⟩), opV 37 x y z s t] w fun e w' => Stepped pin base b (c + 1 + s.size) w (.bool true) e w' := by
  obtain ⟨a3, k3, h3, _, _, f3⟩ := own_form I.ha.own
  have c3 := I.cell 3 _ (show (wcells D)[3]? = some D.ha from rfl)
  rw [h3] at c3
  have hblt := I.lt
  have hbs := I.bs
  have hnh := I.nhs
  have hlt := pickN_lt x D.hs.length (by omega)
  have hp : D.hs[pickN x D.hs.length]? = some D.hs[pickN x D.hs.length] := List.getElem?_eq_getElem hlt
  have HP0 : Hid (∀ W, Calls Tryz.prog 62 #[.int .i64 x, .int .i64 D.hs.length] W fun e w' => e = .returned (.int .i64 (pickN x D.hs.length)) ∧ w' = W) := fun W => pick_calls x _ hx (by omega) (by omega) W
  obtain ⟨r0, r1⟩ := haCells_at _ _ _ hp
  rcases f3 with ⟨_, h, _⟩ | ⟨gh, rfl⟩
  · omega
  have q0 := own_cell I.ha.own (by rw [h3]; rfl) _ _ r0
  have q1 := own_cell I.ha.own (by rw [h3]; rfl) _ _ r1
  have hghl := (I.ha.own.lt gh (by rw [h3]; rfl)).2
  have HH := (I.hsh _ _ hp).1
  have hts := (I.hsh _ _ hp).2
  generalize D.hs[pickN x D.hs.length] = p at *
  obtain ⟨hb, tx⟩ := p
  simp only at q0 q1 HH hts
  have hhb : hb < w.heap.size := HH.held.lt
  have HRS : Hid (∀ W, Below w.heap.size w W → Calls Tryz.prog 122 #[.pointer (some ⟨hb, 0, none⟩), .string s] W fun e w' => e = .returned (.tuple #[]) ∧ Held w' hb (writeF startF (tx ++ s).data.toList).1 (writeF startF (tx ++ s).data.toList).2 ∧ Kept hb W w') := fun W hW => by
    have := write_calls (writeF startF tx.data.toList) s (by unfold maxLen; omega) W hb (HH.held.below hW) (writeF_lt _ _ (by decide)) (I.tabs.below hW) (by have := HH.low; have := I.b3; omega)
    rw [← writeF_append, ← ba_append] at this; exact this
  have HST : Hid (∀ W w1, Below w.heap.size w W → Kept hb W w1 → Held w1 hb (writeF startF (tx ++ s).data.toList).1 (writeF startF (tx ++ s).data.toList).2 → (Good pin base b (c + 1 + s.size) (w1.setCell ⟨gh, 2 * pickN x D.hs.length + 1, none⟩ (.string (tx ++ s))) ∧ Below base W (w1.setCell ⟨gh, 2 * pickN x D.hs.length + 1, none⟩ (.string (tx ++ s))) ∧
      w1.heap[b]? = some (.cells (wcells D) 48 (0, 0)) ∧ w1.ownsRow base 144 2 D.ha D.hs.length (haCells D.hs))) := fun W w1 hW hK hH =>
    (I.below hW).hashSet _ _ hp (tx ++ s) (by omega) (by rw [ByteArray.size_append]; have : tx.size ≤ c := hts; omega) w1 hK hH gh (by rw [h3]; rfl)
  have HHA : Hid (D.ha = .slice (some ⟨gh, 0, none⟩) D.hs.length k3) := h3
  have HW3 : Hid ((wcells D)[3]? = some (.slice (some ⟨gh, 0, none⟩) D.hs.length k3)) := by show _ = _; rw [← h3]; rfl
  have HRR : Hid ((haCells D.hs)[2 * pickN x D.hs.length + 1]? = some (.string tx)) := r1
  generalize pickN x D.hs.length = K at *
  generalize hN : D.hs.length = N at *
  have hK' : (K : Int) < (N : Int) := by omega
  have hN0 : (N : Int) ≠ 0 := by omega
  rw [Nat.mul_comm] at q0
  rw [Nat.mul_comm 2 K] at q1
  have HB0 : Hid (Below w.heap.size w (bx w 37 x y z s t)) := bx_below w 37 x y z s t
  clear I HH h3 hp r0 r1 hx
  unfold bx at HB0
  unfold opV
  go_enter Tryz.func36, Tryz.ntmps36
  go_wp2_with fail
  go_quiet ((go_at_call 62; refine Calls.quiet_of_same (HP0.out _)))
  obtain ⟨W2, hW2⟩ : ∃ W2, W2 = (w.alloc (.cells #[.int .i64 37, .int .i64 x, .int .i64 y, .int .i64 z, .string s, .string t] 38)).drewN nq := ⟨_, rfl⟩
  rw [← hW2]
  have HB2 : Hid (Below w.heap.size w W2) := by rw [hW2]; exact below_drews HB0.out _
  have o2 : W2.heap[w.heap.size]? = some (.cells #[.int .i64 37, .int .i64 x, .int .i64 y, .int .i64 z, .string s, .string t] 38 (0, 0)) := by rw [hW2]; exact heap_alloc_new w _
  have oc2 : ∀ j, W2.cell? ⟨w.heap.size, j, none⟩ = (#[Value.int .i64 37, .int .i64 x, .int .i64 y, .int .i64 z, .string s, .string t])[j]? := fun j => cell_of_row W2 _ j _ _ _ o2
  have p0 := oc2 0
  have p4 := oc2 4
  have c3' := cell_below HB2.out c3
  have q0' := cell_below HB2.out q0
  have q1' := cell_below HB2.out q1
  have hszW : w.heap.size < W2.heap.size := (Array.getElem?_eq_some_iff.1 o2).1
  have hghW : gh < W2.heap.size := by omega
  have hbW : b < W2.heap.size := by omega
  clear o2 oc2 hW2 c3 q0 q1
  go_wp2_with fail
  have B3 : Below w.heap.size w (W2.alloc (.cells #[.pointer (some ⟨hb, 0, none⟩), .string tx] 144)) := HB2.out.alloc HB2.out.size _
  refine (HRS.out _ B3).mono ?_
  rintro e w4 ⟨rfl, hH, hK⟩
  obtain ⟨G5, B5, hwb, hoh⟩ := HST.out _ w4.drew B3 hK.drew hH.drew
  have d3 : w4.cell? ⟨b, 3, none⟩ = some (.slice (some ⟨gh, 0, none⟩) N k3) := by rw [cell_of_row w4 b 3 _ _ _ hwb]; exact HW3.out
  have d4 : w4.cell? ⟨gh, K * 2 + 1, none⟩ = some (.string tx) := by
    rw [Nat.mul_comm]; exact own_cell hoh (by rw [HHA.out]; rfl) _ _ HRR.out
  have f4 : w4.frozen? ⟨gh, K * 2 + 1, none⟩ = false := own_free hoh (by rw [HHA.out]; rfl) _
  have d5 : w4.cell? ⟨W2.heap.size, 1, none⟩ = some (.string tx) := by
    rw [World.cell?_of_block (hK.block W2.heap.size (by simp) (by omega)), cell_of_row _ _ 1 _ _ _ (heap_alloc_new W2 _)]; rfl
  have d6 : w4.cell? ⟨w.heap.size, 4, none⟩ = some (.string s) := by
    rw [World.cell?_of_block (hK.block w.heap.size (by simp; omega) (by omega)), World.cell?_of_block (Below.heap_alloc _ _ _ hszW)]; exact p4
  rw [Nat.mul_comm 2 K] at G5 B5
  have HF : Hid (Good pin base b (c + 1 + s.size) (w4.drew.setCell ⟨gh, K * 2 + 1, none⟩ (.string (tx ++ s))) ∧ Below base w (w4.drew.setCell ⟨gh, K * 2 + 1, none⟩ (.string (tx ++ s)))) := ⟨G5, (B3.mono hbs).trans B5⟩
  have hlen : tx.size + s.size < 4611686018427387904 := by omega
  clear B3 hH hK G5 B5 hwb hoh
  go_wp2_with fail
  go_region
  go_wp2_with fail
  go_ret
  exact ⟨rfl, HF.out⟩

end Go.Proofs.YtenmjjpkbcogbaaGreatDoor

/- MaP -/
namespace Go.Proofs.YtenmjjpkbcogbaaGreatDoor
open Go.RowKit

set_option maxRecDepth 100000 in
set_option maxHeartbeats 1000000 in
theorem hashed_twin (pin : List (Nat × Obj)) (base b c : Nat) (x y z : Int) (s t : ByteArray) (w : World) (l : Nat → Nat) (D : Dat) (I : Inv pin base b c l D w) (hc : c < 2147483648) (h0 : D.hs.length ≠ 0) (hx : Rng x) :
    Calls Tryz.prog 36 #[.pointer (some ⟨b, 0, none⟩), opV 40 x y z s t] w fun e w' => Stepped pin base b (c + 1) w (.bool true) e w' := by
  obtain ⟨a3, k3, h3, _, _, f3⟩ := own_form I.ha.own
  have c3 := I.cell 3 _ (show (wcells D)[3]? = some D.ha from rfl)
  rw [h3] at c3
  have hblt := I.lt
  have hbs := I.bs
  have hnh := I.nhs
  have hlt := pickN_lt x D.hs.length (by omega)
  have hp : D.hs[pickN x D.hs.length]? = some D.hs[pickN x D.hs.length] := List.getElem?_eq_getElem hlt
  have HP0 : Hid (∀ W, Calls Tryz.prog 62 #[.int .i64 x, .int .i64 D.hs.length] W fun e w' => e = .returned (.int .i64 (pickN x D.hs.length)) ∧ w' = W) := fun W => pick_calls x _ hx (by omega) (by omega) W
  obtain ⟨r0, r1⟩ := haCells_at _ _ _ hp
  rcases f3 with ⟨_, h, _⟩ | ⟨gh, rfl⟩
  · omega
  have q0 := own_cell I.ha.own (by rw [h3]; rfl) _ _ r0
  have q1 := own_cell I.ha.own (by rw [h3]; rfl) _ _ r1
  have hghl := (I.ha.own.lt gh (by rw [h3]; rfl)).2
  have HH := (I.hsh _ _ hp).1
  have hts := (I.hsh _ _ hp).2
  generalize D.hs[pickN x D.hs.length] = p at *
  obtain ⟨hb, tx⟩ := p
  simp only at q0 q1 HH hts
  have HCP : Hid (∀ W, Below w.heap.size w W → Calls Tryz.prog 125 #[.pointer (some ⟨hb, 0, none⟩)] W fun e w' => e = .returned (.pointer (some ⟨W.heap.size, 0, none⟩)) ∧ w' = (W.alloc (.cells (hcells (writeF startF tx.data.toList).1 (writeF startF tx.data.toList).2) 246)).drew) := fun W hW =>
    copy_calls _ _ W hb (HH.held.below hW)
  have HI : Hid (∀ W, Below w.heap.size w W → ∀ l', (∀ k, k < w.heap.size → l' k = l k) → Inv pin base b c l' D W) := fun W hW l' hl => (I.relab l' hl).below hW
  have HHA : Hid (D.ha = .slice (some ⟨gh, 0, none⟩) D.hs.length k3) := h3
  obtain ⟨i0, hi0, hz0, hz1, hz2⟩ := info_parts info144
  generalize pickN x D.hs.length = K at *
  generalize hN : D.hs.length = N at *
  have hK' : (K : Int) < (N : Int) := by omega
  have hN0 : (N : Int) ≠ 0 := by omega
  rw [Nat.mul_comm] at q0
  rw [Nat.mul_comm 2 K] at q1
  have HB0 : Hid (Below w.heap.size w (bx w 40 x y z s t)) := bx_below w 40 x y z s t
  clear I HH h3 hp r0 r1 hx
  unfold bx at HB0
  unfold opV
  go_enter Tryz.func36, Tryz.ntmps36
  go_wp2_with fail
  go_quiet ((go_at_call 62; refine Calls.quiet_of_same (HP0.out _)))
  obtain ⟨W2, hW2⟩ : ∃ W2, W2 = (w.alloc (.cells #[.int .i64 40, .int .i64 x, .int .i64 y, .int .i64 z, .string s, .string t] 38)).drewN nq := ⟨_, rfl⟩
  rw [← hW2]
  have HB2 : Hid (Below w.heap.size w W2) := by rw [hW2]; exact below_drews HB0.out _
  have o2 : W2.heap[w.heap.size]? = some (.cells #[.int .i64 40, .int .i64 x, .int .i64 y, .int .i64 z, .string s, .string t] 38 (0, 0)) := by rw [hW2]; exact heap_alloc_new w _
  have oc2 : ∀ j, W2.cell? ⟨w.heap.size, j, none⟩ = (#[Value.int .i64 40, .int .i64 x, .int .i64 y, .int .i64 z, .string s, .string t])[j]? := fun j => cell_of_row W2 _ j _ _ _ o2
  have p0 := oc2 0
  have c3' := cell_below HB2.out c3
  have q0' := cell_below HB2.out q0
  have q1' := cell_below HB2.out q1
  have hszW : w.heap.size < W2.heap.size := (Array.getElem?_eq_some_iff.1 o2).1
  have hghW : gh < W2.heap.size := by omega
  have hbW : b < W2.heap.size := by omega
  clear o2 oc2 hW2 c3 q0 q1
  go_wp2_with fail
  have B3 : Below w.heap.size w (W2.alloc (.cells #[.pointer (some ⟨hb, 0, none⟩), .string tx] 144)) := HB2.out.alloc HB2.out.size _
  have d0 : (W2.alloc (.cells #[.pointer (some ⟨hb, 0, none⟩), .string tx] 144)).heap[W2.heap.size]? = some (.cells #[.pointer (some ⟨hb, 0, none⟩), .string tx] 144 (0, 0)) := heap_alloc_new W2 _
  have hs3 : (W2.alloc (.cells #[.pointer (some ⟨hb, 0, none⟩), .string tx] 144)).heap.size = W2.heap.size + 1 := by simp
  generalize (W2.alloc (.cells #[.pointer (some ⟨hb, 0, none⟩), .string tx] 144)) = W3 at *
  refine (HCP.out _ B3).mono ?_
  rintro e w4 ⟨rfl, hw4⟩
  have B4 : Below w.heap.size w w4 := by rw [hw4]; exact (B3.alloc B3.size _).drew
  have hq : w4.heap[W3.heap.size]? = some (.cells (hcells (writeF startF tx.data.toList).1 (writeF startF tx.data.toList).2) 246 (0, 0)) := by rw [hw4]; exact heap_alloc_new W3 _
  have d1 : w4.cell? ⟨W2.heap.size, 1, none⟩ = some (.string tx) := by
    have : w4.heap[W2.heap.size]? = some (.cells #[.pointer (some ⟨hb, 0, none⟩), .string tx] 144 (0, 0)) := by
      rw [hw4]; exact (Below.heap_alloc _ _ _ (by omega)).trans d0
    rw [cell_of_row _ _ 1 _ _ _ this]; rfl
  have hs4 : w4.heap.size = W2.heap.size + 2 := by rw [hw4]; simp [hs3]
  have hlt3 : w.heap.size < W3.heap.size := by omega
  have I4 : Inv pin base b c (fun k => if k = W3.heap.size then 8 + 3 * D.hs.length else l k) D w4 := HI.out w4 B4 _ (fun k hk => by rw [if_neg (by omega)])
  have HQ : HashIs base (fun k => if k = W3.heap.size then 8 + 3 * D.hs.length else l k) (8 + 3 * D.hs.length) w4 W3.heap.size tx := ⟨by simp, by omega, ⟨hq⟩⟩
  generalize (fun k => if k = W3.heap.size then 8 + 3 * D.hs.length else l k) = l4 at *
  have c3w : w4.cell? ⟨b, 3, none⟩ = some (.slice (some ⟨gh, 0, none⟩) N k3) := by
    rw [← HHA.out]; exact I4.cell 3 _ rfl
  have HI4 : Hid (Inv pin base b c l4 D w4) := I4
  have HHQ : Hid (HashIs base l4 (8 + 3 * D.hs.length) w4 W3.heap.size tx) := HQ
  have HB4 : Hid (Below w.heap.size w w4) := B4
  have HNN : Hid (D.hs.length = N) := hN
  have HOW : Hid (w4.ownsRow base 144 2 (.slice (some ⟨gh, 0, none⟩) N k3) N (haCells D.hs)) := by
    show World.ownsRow _ _ _ _ _ _ _
    rw [← HHA.out, ← hN]; exact I4.ha.own
  have hb4 : base ≤ w4.heap.size := I4.bs
  have hblt4 : b < w4.heap.size := I4.lt
  generalize W3.heap.size = Q at *
  have HADD : Hid (∀ g5 cap5 w5, w5.ownsRow base 144 2 (.slice (some ⟨g5, 0, none⟩) (N + 1) cap5) (N + 1) (haCells D.hs ++ [.pointer (some ⟨Q, 0, none⟩), .string tx]) → (w4.drew.alloc (.cells #[.pointer (some ⟨Q, 0, none⟩), .string tx] 144)).grownBy w5 (Value.slice (some ⟨gh, 0, none⟩) N k3).ownBlock →
      ((Value.slice (some ⟨gh, 0, none⟩) N k3).ownBlock = some g5 ∨ g5 = (w4.drew.alloc (.cells #[.pointer (some ⟨Q, 0, none⟩), .string tx] 144)).heap.size) →
      Hid (Good pin base b (c + 1) (w5.setCell ⟨b, 3, none⟩ (.slice (some ⟨g5, 0, none⟩) (N + 1) cap5)) ∧ Below base w (w5.setCell ⟨b, 3, none⟩ (.slice (some ⟨g5, 0, none⟩) (N + 1) cap5))) ∧ w5.cell? ⟨b, 3, none⟩ = some (.slice (some ⟨gh, 0, none⟩) N k3) ∧ w5.frozen? ⟨b, 3, none⟩ = false) := by
    intro g5 cap5 w5 ho hg ha
    have hA : Below w4.heap.size w4 (w4.drew.alloc (.cells #[.pointer (some ⟨Q, 0, none⟩), .string tx] 144)) := (Below.refl _ _).drew.alloc (Nat.le_refl _) _
    rw [← HNN.out] at ho ha hg
    have hHA := HHA.out
    rw [← HNN.out] at hHA
    obtain ⟨G1, B2, hwd⟩ := (HI4.out.below hA).hashAdded Q tx (HHQ.out.move (Moved.below l4 hA) fun x => x) hts g5 cap5 w5 ho (by rw [hHA]; exact hg) (by rw [hHA]; exact ha)
    rw [HNN.out] at G1 B2
    refine ⟨⟨G1, (HB4.out.mono hbs).trans ((hA.mono hb4).trans B2)⟩, ?_, frozen_of_row w5 b 3 _ _ hwd⟩
    rw [cell_of_row w5 b 3 _ _ _ hwd, ← HHA.out]; rfl
  have c3a : (w4.alloc (.cells #[.pointer (some ⟨Q, 0, none⟩), .string tx] 144)).cell? ⟨b, 3, none⟩ = some (.slice (some ⟨gh, 0, none⟩) N k3) := by
    rw [World.cell?_of_block (w := w4) (Below.heap_alloc _ _ _ hblt4)]; exact c3w
  clear hw4 hq I4 HQ B4 B3 hN d0 hs3 HCP HI c3' q0' q1' p0
  go_wp2_with fail
  go_region_law (refine step_append_lies _ rfl (.tmp 103) (.tmp 108) 43 rfl base 144 i0 (.agg #[.pointer none, .string ⟨#[]⟩]) 2 24 Tryz.underlying43 hi0 hz0 hz1 hz2 rfl (by decide) (.slice (some ⟨gh, 0, none⟩) N k3) N (haCells D.hs) (by simp [Act.eval]) (HOW.out.drew.alloc _) ⟨w4.heap.size, 0, none⟩ 1 1 [.pointer (some ⟨Q, 0, none⟩), .string tx] (by simp [Act.eval]) rfl (two_at _ _ _ _ rfl) (by intro u hu; simp at hu; rcases hu with rfl | rfl <;> rfl) (by omega) (by unfold maxLen; omega) (by omega) (by simp; omega) _ rfl ?_; intro g5 cap5 w5 hown5 hgr5 hat5 hlt5; obtain ⟨HF5, e3, g3⟩ := HADD.out g5 cap5 w5 hown5 hgr5 (by simpa using hat5); clear hown5 hgr5 hat5 hlt5)
  all_goals
    go_wp2_with fail
    go_ret
    exact ⟨rfl, HF5.out⟩
end Go.Proofs.YtenmjjpkbcogbaaGreatDoor

/- MaR -/
namespace Go.Proofs.YtenmjjpkbcogbaaGreatDoor
open Go.RowKit

theorem info56' : (Tryz.prog.info? 56).map (fun i => (i.zero, i.size, i.bytes)) = some (some (.agg #[.bool false, .string ⟨#[]⟩, .slice none 0 0]), 3, 48) := by kernel_rfl
theorem mmake_items (n : Nat) (hn : n ≤ 4294967296) (w : World) :
    (Instr.makeSlice 46 (.int .i64 n) (.int .i64 n)).run Tryz.prog w = .ok (.slice (some ⟨w.heap.size, 0, none⟩) n n) (w.alloc (.cells (madeCells #[.bool false, .string ⟨#[]⟩, .slice none 0 0] (n * 3)) 56)) := by
  obtain ⟨i0, hi, hz0, hz1, hz2⟩ := info_parts info56'
  have := run_make (P := Tryz.prog) w 46 56 i0 (.agg #[.bool false, .string ⟨#[]⟩, .slice none 0 0]) Tryz.underlying46 hi hz0 .i64 .i64 n n (by omega) (by omega) (by rw [hz2]; omega) (by omega)
  rw [hz1] at this
  exact this

/-- The pile's topmost items, copied to memory of their own, as one list. -/
theorem joined_item {pin : List (Nat × Obj)} {base b c : Nat} {l : Nat → Nat} {D : Dat} {w W : World} (I : Inv pin base b c l D w) (k P q : Nat) (hk : k + P = D.its.length) (hP : P < 4294967296) (hW : Below w.heap.size w W) (hq : w.heap.size ≤ q)
    (hh : W.heap[q]? = some (.cells (itCells (D.its.drop k)).toArray 56 (0, 0))) (l4 : Nat → Nat) (hl4 : ∀ j, j < w.heap.size → l4 j = l j) (hl0 : ∀ j, w.heap.size ≤ j → l4 j = 0) :
    ItemIs (D.d + 1) W (fun j => l4 j = 0) [.bool true, .string ⟨#[]⟩, .slice (some ⟨q, 0, none⟩) P P] (listT ((D.its.drop k).map fun i => i.2.2.2)) := by
  have hlen : (D.its.drop k).length = P := by rw [List.length_drop]; omega
  have hl2 : ((D.its.drop k).map fun i => i.2.2.2).length = P := by rw [List.length_map, hlen]
  refine item_list D.d W _ ⟨#[]⟩ _ _ (itCells (D.its.drop k)) ⟨by rw [itCells_length, hl2, hlen], .inr ⟨q, 0, P, by rw [hl2], ?_, fun j hj => ?_⟩⟩ (by rw [hl2]; omega) fun i hi => ?_
  · exact hl0 q hq
  · rw [Nat.zero_add, cell_of_row W q j _ _ _ hh, List.getElem?_toArray]
  · rw [hl2] at hi
    have hp : (D.its.drop k)[i]? = some ((D.its.drop k)[i]'(by omega)) := List.getElem?_eq_getElem (by omega)
    rw [itCells_get _ _ _ hp, List.getD_eq_getElem?_getD, List.getElem?_map, hp]
    have hm : (D.its.drop k)[i]'(by omega) ∈ D.its := List.mem_of_mem_drop (List.getElem_mem _)
    exact ItemIs.move (fun j hj hlt => ⟨(hl4 j hlt).trans hj, hW.block j hlt⟩) _ _ _ (I.itm _ hm).1

theorem item_cells {d : Nat} {w : World} {S : Nat → Prop} {v0 v1 v2 : Value} {x : Tree} (h : ItemIs d w S [v0, v1, v2] x) : (∃ q, v0 = .bool q) ∧ ∃ t, v1 = .string t := by
  cases d with
  | zero =>
    obtain ⟨t, k, e, _⟩ := h
    simp at e
    exact ⟨⟨_, e.1⟩, ⟨_, e.2.1⟩⟩
  | succ d =>
    rcases h with ⟨t, k, e, _⟩ | ⟨t, k, ks, xs, e, _⟩
    · simp at e
      exact ⟨⟨_, e.1⟩, ⟨_, e.2.1⟩⟩
    · simp at e
      exact ⟨⟨_, e.1⟩, ⟨_, e.2.1⟩⟩

set_option maxRecDepth 100000 in
set_option maxHeartbeats 1000000 in
theorem mjoin_calls (pin : List (Nat × Obj)) (base b c : Nat) (x : Int) (w : World) (l : Nat → Nat) (D : Dat) (I : Inv pin base b c l D w) (hc : c < 2147483648) (hx : Rng x) (q : Nat) (hq : q < w.heap.size) (hq0 : l q = 0) :
    Calls Tryz.prog 27 #[.pointer (some ⟨b, 0, none⟩), .int .i64 x] w fun e w' => e = .returned (.tuple #[]) ∧ Good pin base b (c + 1) w' ∧ Below base w w' ∧ w'.heap[q]? = w.heap[q]? := by
  obtain ⟨a12, k12, h12, hcap, _, f12⟩ := own_form I.items.own
  have c12 := I.cell 12 _ (show (wcells D)[12]? = some D.items from rfl)
  rw [h12] at c12
  have hblt := I.lt
  have hbs := I.bs
  have hni := I.nit
  have hPl := pickN_lt x (D.its.length + 1) (by omega)
  obtain ⟨P, hPe⟩ : ∃ P, P = pickN x (D.its.length + 1) := ⟨_, rfl⟩
  obtain ⟨k, hk⟩ : ∃ k, k + P = D.its.length := ⟨D.its.length - P, by omega⟩
  have HP0 : Hid (∀ W, Calls Tryz.prog 62 #[.int .i64 x, .int .i64 ((D.its.length : Int) + 1)] W fun e w' => e = .returned (.int .i64 P) ∧ w' = W) := fun W => by
    have := pick_calls x (D.its.length + 1) hx (by omega) (by omega) W
    rw [← hPe] at this; push_cast at this; exact this
  have hmk : Hid (∀ W, (Instr.makeSlice 46 (.int .i64 P) (.int .i64 P)).run Tryz.prog W = .ok (.slice (some ⟨W.heap.size, 0, none⟩) P P) (W.alloc (.cells (madeCells #[.bool false, .string ⟨#[]⟩, .slice none 0 0] (P * 3)) 56))) := fun W => mmake_items P (by omega) W
  obtain ⟨i0, hi0, hz0, hz1, hz2⟩ := info_parts info56'
  have hlend : (itCells (D.its.drop k)).length = P * 3 := by rw [itCells_length, List.length_drop]; omega
  have hone : ∀ v ∈ itCells (D.its.drop k), v.oneCell' = true := by
    intro v hv
    obtain ⟨i, hi, hv⟩ := List.mem_flatMap.1 hv
    have hit := I.itm i (List.mem_of_mem_drop hi)
    obtain ⟨⟨q, e0⟩, ⟨u, e1⟩⟩ := item_cells hit.1
    simp at hv
    rcases hv with rfl | rfl | rfl
    · rw [e0]; rfl
    · rw [e1]; rfl
    · exact hit.2
  have HCP : Hid (∀ W sp scap, Below w.heap.size w W → (0 < P → ∃ gi, a12 = some ⟨gi, 0, none⟩ ∧ sp = some ⟨gi, k * 3, none⟩) →
      (Builtin.copy_ #[46, 46] 3 #[.slice (some ⟨W.heap.size, 0, none⟩) P P, .slice sp P scap]).run Tryz.prog (W.alloc (.cells (madeCells #[.bool false, .string ⟨#[]⟩, .slice none 0 0] (P * 3)) 56)) = .ok (.int .i64 P) (W.alloc (.cells (itCells (D.its.drop k)).toArray 56))) := by
    intro W sp scap hW hsp
    rw [← alloc_setRow W (madeCells #[.bool false, .string ⟨#[]⟩, .slice none 0 0] (P * 3)) (itCells (D.its.drop k)).toArray 56]
    refine run_copy_fresh _ 46 46 3 56 i0 Tryz.underlying46 hi0 W.heap.size P P _ 56 (heap_alloc_new W _) (by rw [hz1]; simp [madeCells]) sp scap _ (by rw [hz1]; exact hlend) ?_ hone
    intro h0
    obtain ⟨gi, ha, hs⟩ := hsp h0
    refine ⟨_, hs, fun j v hv => ?_⟩
    have hadd : (⟨gi, k * 3, none⟩ : Addr).add j = ⟨gi, k * 3 + j, none⟩ := by unfold Addr.add; split <;> simp_all
    rw [hadd]
    have hc1 : w.cell? ⟨gi, k * 3 + j, none⟩ = some v := own_cell I.items.own (by rw [h12, ha]; rfl) (k * 3 + j) v (by
      rw [itCells_drop, List.getElem?_drop, Nat.mul_comm 3 k] at hv; exact hv)
    have hc2 := cell_below hW hc1
    exact cell_below ((Below.refl _ _).alloc (Nat.le_refl _) _) hc2
  obtain ⟨l4, hl4⟩ : ∃ l4 : Nat → Nat, l4 = fun j => if j < w.heap.size then l j else 0 := ⟨_, rfl⟩
  have hl4a : ∀ j, j < w.heap.size → l4 j = l j := fun j hj => by rw [hl4]; simp [hj]
  have HQ0 : Hid (l4 q = 0) := (hl4a q hq).trans hq0
  have hl4b : ∀ j, w.heap.size ≤ j → l4 j = 0 := fun j hj => by rw [hl4]; simp [Nat.not_lt.2 hj]
  clear hl4
  have HIT : Hid (∀ W, Below w.heap.size w W → ItemIs (D.d + 1) (W.alloc (.cells (itCells (D.its.drop k)).toArray 56)) (fun j => l4 j = 0) [.bool true, .string ⟨#[]⟩, .slice (some ⟨W.heap.size, 0, none⟩) P P] (listT ((D.its.drop k).map fun i => i.2.2.2))) := fun W hW =>
    joined_item I k P W.heap.size hk (by omega) (hW.alloc hW.size _) hW.size (heap_alloc_new W _) l4 hl4a hl4b
  have HI : Hid (∀ W, Below w.heap.size w W → Inv pin base b c l4 D W) := fun W hW => (I.relab _ hl4a).below hW
  have HRW : Hid (∀ W, Below w.heap.size w W → ∀ v, (v = .slice none 0 0 ∧ k = 0 ∨ ∃ gi, a12 = some ⟨gi, 0, none⟩ ∧ v = .slice (some ⟨gi, 0, none⟩) k k12) → Row base l4 7 W 56 3 v k (itCells (D.its.take k))) := by
    intro W hW v hv
    rcases hv with ⟨rfl, rfl⟩ | ⟨gi, ha, rfl⟩
    · exact Row.nil _ _ _ _ _ _
    · have J := (I.relab l4 hl4a).below hW
      have ho := J.items.own
      rw [h12, ha] at ho
      have hp := own_prefix ho (k := k) (by omega)
      refine ⟨?_, fun g hg => J.items.lab g (by rw [h12, ha]; exact hg)⟩
      rw [itCells_take, Nat.mul_comm 3 k]; exact hp
  have HH12 : Hid (D.items = .slice a12 D.its.length k12) := h12
  have HQ : Hid (q < w.heap.size) := hq
  clear I hq hq0 hl4a hl4b h12 hPe hPl hlend hone
  generalize hN : D.its.length = N at *
  have hkP : (N : Int) - (P : Int) = (k : Int) := by omega
  have hkP2 : (N : Int) - (k : Int) = (P : Int) := by omega
  have hkN : (k : Int) ≤ (N : Int) := by omega
  have hkN2 : N - k = P := by omega
  have hkc : (k : Int) ≤ (k12 : Int) := by omega
  have HW1 : Hid (∀ n, Below w.heap.size w (w.drewN n)) := fun n => below_drewN w n
  rcases f12 with ⟨rfl, h0, rfl⟩ | ⟨gi, rfl⟩
  · obtain rfl : P = 0 := by omega
    obtain rfl : k = 0 := by omega
    subst h0
    have HP1 : Hid (∀ W, Calls Tryz.prog 62 #[.int .i64 x, .int .i64 1] W fun e w' => e = .returned (.int .i64 0) ∧ w' = W) := HP0.out
    go_enter Tryz.func27, Tryz.ntmps27
    go_wp2_with fail
    go_quiet ((go_at_call 62; refine Calls.quiet_of_same (HP1.out _)))
    obtain ⟨W1, hW1⟩ : ∃ W1, W1 = w.drewN nq := ⟨_, rfl⟩
    rw [← hW1]
    have HB1 : Hid (Below w.heap.size w W1) := by rw [hW1]; exact below_drewN w nq
    have c12' := cell_below HB1.out c12
    have hb1 : b < W1.heap.size := Nat.lt_of_lt_of_le hblt HB1.out.size
    have hbs1 : base ≤ W1.heap.size := Nat.le_trans hbs HB1.out.size
    have hmk1 : (Instr.makeSlice 46 (.int .i64 0) (.int .i64 0)).run Tryz.prog W1 = .ok (.slice (some ⟨W1.heap.size, 0, none⟩) 0 0) (W1.alloc (.cells (madeCells #[.bool false, .string ⟨#[]⟩, .slice none 0 0] (0 * 3)) 56)) := hmk.out W1
    have hcpA : (Builtin.copy_ #[46, 46] 3 #[.slice (some ⟨W1.heap.size, 0, none⟩) 0 0, .slice none 0 0]).run Tryz.prog (W1.alloc (.cells (madeCells #[.bool false, .string ⟨#[]⟩, .slice none 0 0] (0 * 3)) 56)) = .ok (.int .i64 0) (W1.alloc (.cells (itCells (D.its.drop 0)).toArray 56)) := HCP.out W1 none 0 HB1.out (fun h => by omega)
    have HIT1 := HIT.out W1 HB1.out
    have HA1 : Hid (Below w.heap.size w (W1.alloc (.cells (itCells (D.its.drop 0)).toArray 56))) := HB1.out.alloc HB1.out.size _
    obtain ⟨W4, hW4⟩ : ∃ W4, W4 = W1.alloc (.cells (itCells (D.its.drop 0)).toArray 56) := ⟨_, rfl⟩
    rw [← hW4] at hcpA HIT1 HA1
    have HI4 : Hid (Inv pin base b c l4 D W4) := HI.out W4 HA1.out
    have HR4 : Hid (Row base l4 7 W4 56 3 (.slice none 0 0) 0 (itCells (D.its.take 0))) := HRW.out W4 HA1.out _ (.inl ⟨rfl, by trivial⟩)
    have HIT4 : Hid (ItemIs (D.d + 1) W4 (fun j => l4 j = 0) [.bool true, .string ⟨#[]⟩, .slice (some ⟨W1.heap.size, 0, none⟩) 0 0] (listT ((D.its.drop 0).map fun i => i.2.2.2))) := HIT1
    have hs4 : W4.heap.size = W1.heap.size + 1 := by rw [hW4]; simp
    have c4 := cell_below (w := W1) (W := W4) (by rw [hW4]; exact (Below.refl _ _).alloc (Nat.le_refl _) _) c12'
    have hb4 : b < W4.heap.size := by omega
    have hbs4 : base ≤ W4.heap.size := by omega
    clear hW1 c12 hW4 HIT1 hs4 HP0 hkP hkP2 hkN hkN2 hkc
    go_wp2_with (at_builtin; refine wpList_append_lies _ rfl (.tmp 42) (.tmp 45) 46 rfl base 56 i0 (.agg #[.bool false, .string ⟨#[]⟩, .slice none 0 0]) 3 48 Tryz.underlying46 hi0 hz0 hz1 hz2 rfl (by decide) (.slice none 0 0) 0 (itCells (D.its.take 0)) rfl (HR4.out.own.alloc _) ⟨W4.heap.size, 0, none⟩ 1 1 [.bool true, .string ⟨#[]⟩, .slice (some ⟨W1.heap.size, 0, none⟩) 0 0] rfl rfl (three_at _ _ _ _ _ rfl) ?d2 (by omega) ?d3 ?d4 ?d5 _ rfl ?d6)
    case d2 => intro v hv; simp at hv; rcases hv with rfl | rfl | rfl <;> rfl
    case d3 => unfold maxLen; omega
    case d4 => omega
    case d5 => simp; omega
    intro g cap w' hown hgr hat hlt
    have hA : Below W4.heap.size W4 (W4.alloc (.cells #[.bool true, .string ⟨#[]⟩, .slice (some ⟨W1.heap.size, 0, none⟩) 0 0] 56)) := (Below.refl _ _).alloc (Nat.le_refl _) _
    obtain ⟨G1, B2, hwd, hkq⟩ := (HI4.out.below hA).itemPut _ _ _ _ _ (HIT4.out.below hA) rfl 0 (by omega) _ (HR4.out.move (Moved.below l4 hA) fun x => x) g cap w' hown hgr (by simpa using hat)
    have c5' : w'.cell? ⟨b, 12, none⟩ = some D.items := by rw [cell_of_row w' b 12 _ _ _ hwd]; rfl
    have f5' : w'.frozen? ⟨b, 12, none⟩ = false := frozen_of_row w' b 12 _ _ hwd
    have HF : Hid (Good pin base b (c + 1) (w'.setCell ⟨b, 12, none⟩ (.slice (some ⟨g, 0, none⟩) (0 + 1) cap)) ∧ Below base w (w'.setCell ⟨b, 12, none⟩ (.slice (some ⟨g, 0, none⟩) (0 + 1) cap)) ∧ (w'.setCell ⟨b, 12, none⟩ (.slice (some ⟨g, 0, none⟩) (0 + 1) cap)).heap[q]? = w.heap[q]?) := ⟨G1, (HA1.out.mono hbs).trans ((hA.mono hbs4).trans B2), (hkq q (Nat.lt_of_lt_of_le HQ.out (Nat.le_trans HA1.out.size hA.size)) HQ0.out).trans ((hA.block q (Nat.lt_of_lt_of_le HQ.out HA1.out.size)).trans (HA1.out.block q HQ.out))⟩
    clear G1 B2 hkq hwd hown hgr hat hA
    go_wp2_with fail
    go_end0
    exact ⟨rfl, HF.out⟩
  by_cases hq : k12 = k
  · subst hq
    go_enter Tryz.func27, Tryz.ntmps27
    go_wp2_with fail
    go_quiet ((go_at_call 62; refine Calls.quiet_of_same (HP0.out _)))
    obtain ⟨W1, hW1⟩ : ∃ W1, W1 = w.drewN nq := ⟨_, rfl⟩
    rw [← hW1]
    have HB1 : Hid (Below w.heap.size w W1) := by rw [hW1]; exact below_drewN w nq
    have c12' := cell_below HB1.out c12
    have hb1 : b < W1.heap.size := Nat.lt_of_lt_of_le hblt HB1.out.size
    have hbs1 : base ≤ W1.heap.size := Nat.le_trans hbs HB1.out.size
    have hmk1 := hmk.out W1
    have hcpA := HCP.out W1 (some ⟨gi, 0, none⟩) 0 HB1.out (fun h => by omega)
    have HIT1 := HIT.out W1 HB1.out
    have HA1 : Hid (Below w.heap.size w (W1.alloc (.cells (itCells (D.its.drop k12)).toArray 56))) := HB1.out.alloc HB1.out.size _
    obtain ⟨W4, hW4⟩ : ∃ W4, W4 = W1.alloc (.cells (itCells (D.its.drop k12)).toArray 56) := ⟨_, rfl⟩
    rw [← hW4] at hcpA HIT1 HA1
    have HI4 : Hid (Inv pin base b c l4 D W4) := HI.out W4 HA1.out
    have HR4 : Hid (Row base l4 7 W4 56 3 (.slice (some ⟨gi, 0, none⟩) k12 k12) k12 (itCells (D.its.take k12))) := HRW.out W4 HA1.out _ (.inr ⟨gi, rfl, rfl⟩)
    have HIT4 : Hid (ItemIs (D.d + 1) W4 (fun j => l4 j = 0) [.bool true, .string ⟨#[]⟩, .slice (some ⟨W1.heap.size, 0, none⟩) P P] (listT ((D.its.drop k12).map fun i => i.2.2.2))) := HIT1
    have hs4 : W4.heap.size = W1.heap.size + 1 := by rw [hW4]; simp
    have c4 := cell_below (w := W1) (W := W4) (by rw [hW4]; exact (Below.refl _ _).alloc (Nat.le_refl _) _) c12'
    have hb4 : b < W4.heap.size := by omega
    have hbs4 : base ≤ W4.heap.size := by omega
    clear hW1 c12 hW4 HIT1 hs4
    go_wp2_with (at_builtin; refine wpList_append_lies _ rfl (.tmp 42) (.tmp 45) 46 rfl base 56 i0 (.agg #[.bool false, .string ⟨#[]⟩, .slice none 0 0]) 3 48 Tryz.underlying46 hi0 hz0 hz1 hz2 rfl (by decide) (.slice (some ⟨gi, 0, none⟩) k12 k12) k12 (itCells (D.its.take k12)) rfl (HR4.out.own.alloc _) ⟨W4.heap.size, 0, none⟩ 1 1 [.bool true, .string ⟨#[]⟩, .slice (some ⟨W1.heap.size, 0, none⟩) P P] rfl rfl (three_at _ _ _ _ _ rfl) ?c2 (by omega) ?c3 ?c4 ?c5 _ rfl ?c6)
    case c2 => intro v hv; simp at hv; rcases hv with rfl | rfl | rfl <;> rfl
    case c3 => unfold maxLen; omega
    case c4 => omega
    case c5 => simp; omega
    intro g cap w' hown hgr hat hlt
    have hA : Below W4.heap.size W4 (W4.alloc (.cells #[.bool true, .string ⟨#[]⟩, .slice (some ⟨W1.heap.size, 0, none⟩) P P] 56)) := (Below.refl _ _).alloc (Nat.le_refl _) _
    obtain ⟨G1, B2, hwd, hkq⟩ := (HI4.out.below hA).itemPut _ _ _ _ _ (HIT4.out.below hA) rfl k12 (by omega) _ (HR4.out.move (Moved.below l4 hA) fun x => x) g cap w' hown hgr (by simpa using hat)
    have c5' : w'.cell? ⟨b, 12, none⟩ = some D.items := by rw [cell_of_row w' b 12 _ _ _ hwd]; rfl
    have f5' : w'.frozen? ⟨b, 12, none⟩ = false := frozen_of_row w' b 12 _ _ hwd
    have HF : Hid (Good pin base b (c + 1) (w'.setCell ⟨b, 12, none⟩ (.slice (some ⟨g, 0, none⟩) (k12 + 1) cap)) ∧ Below base w (w'.setCell ⟨b, 12, none⟩ (.slice (some ⟨g, 0, none⟩) (k12 + 1) cap)) ∧ (w'.setCell ⟨b, 12, none⟩ (.slice (some ⟨g, 0, none⟩) (k12 + 1) cap)).heap[q]? = w.heap[q]?) := ⟨G1, (HA1.out.mono hbs).trans ((hA.mono hbs4).trans B2), (hkq q (Nat.lt_of_lt_of_le HQ.out (Nat.le_trans HA1.out.size hA.size)) HQ0.out).trans ((hA.block q (Nat.lt_of_lt_of_le HQ.out HA1.out.size)).trans (HA1.out.block q HQ.out))⟩
    clear G1 B2 hkq hwd hown hgr hat hA
    go_wp2_with fail
    go_end0
    exact ⟨rfl, HF.out⟩
  · skip
    go_enter Tryz.func27, Tryz.ntmps27
    go_wp2_with fail
    go_quiet ((go_at_call 62; refine Calls.quiet_of_same (HP0.out _)))
    obtain ⟨W1, hW1⟩ : ∃ W1, W1 = w.drewN nq := ⟨_, rfl⟩
    rw [← hW1]
    have HB1 : Hid (Below w.heap.size w W1) := by rw [hW1]; exact below_drewN w nq
    have c12' := cell_below HB1.out c12
    have hb1 : b < W1.heap.size := Nat.lt_of_lt_of_le hblt HB1.out.size
    have hbs1 : base ≤ W1.heap.size := Nat.le_trans hbs HB1.out.size
    have hmk1 := hmk.out W1
    have hcpA := HCP.out W1 (some ⟨gi, k * 3, none⟩) (k12 - k) HB1.out (fun _ => ⟨gi, rfl, rfl⟩)
    have HIT1 := HIT.out W1 HB1.out
    have HA1 : Hid (Below w.heap.size w (W1.alloc (.cells (itCells (D.its.drop k)).toArray 56))) := HB1.out.alloc HB1.out.size _
    obtain ⟨W4, hW4⟩ : ∃ W4, W4 = W1.alloc (.cells (itCells (D.its.drop k)).toArray 56) := ⟨_, rfl⟩
    rw [← hW4] at hcpA HIT1 HA1
    have HI4 : Hid (Inv pin base b c l4 D W4) := HI.out W4 HA1.out
    have HR4 : Hid (Row base l4 7 W4 56 3 (.slice (some ⟨gi, 0, none⟩) k k12) k (itCells (D.its.take k))) := HRW.out W4 HA1.out _ (.inr ⟨gi, rfl, rfl⟩)
    have HIT4 : Hid (ItemIs (D.d + 1) W4 (fun j => l4 j = 0) [.bool true, .string ⟨#[]⟩, .slice (some ⟨W1.heap.size, 0, none⟩) P P] (listT ((D.its.drop k).map fun i => i.2.2.2))) := HIT1
    have hs4 : W4.heap.size = W1.heap.size + 1 := by rw [hW4]; simp
    have c4 := cell_below (w := W1) (W := W4) (by rw [hW4]; exact (Below.refl _ _).alloc (Nat.le_refl _) _) c12'
    have hb4 : b < W4.heap.size := by omega
    have hbs4 : base ≤ W4.heap.size := by omega
    clear hW1 c12 hW4 HIT1 hs4
    go_wp2_with (at_builtin; refine wpList_append_lies _ rfl (.tmp 42) (.tmp 45) 46 rfl base 56 i0 (.agg #[.bool false, .string ⟨#[]⟩, .slice none 0 0]) 3 48 Tryz.underlying46 hi0 hz0 hz1 hz2 rfl (by decide) (.slice (some ⟨gi, 0, none⟩) k k12) k (itCells (D.its.take k)) rfl (HR4.out.own.alloc _) ⟨W4.heap.size, 0, none⟩ 1 1 [.bool true, .string ⟨#[]⟩, .slice (some ⟨W1.heap.size, 0, none⟩) P P] rfl rfl (three_at _ _ _ _ _ rfl) ?e2 (by omega) ?e3 ?e4 ?e5 _ rfl ?e6)
    case e2 => intro v hv; simp at hv; rcases hv with rfl | rfl | rfl <;> rfl
    case e3 => unfold maxLen; omega
    case e4 => omega
    case e5 => simp; omega
    intro g cap w' hown hgr hat hlt
    have hA : Below W4.heap.size W4 (W4.alloc (.cells #[.bool true, .string ⟨#[]⟩, .slice (some ⟨W1.heap.size, 0, none⟩) P P] 56)) := (Below.refl _ _).alloc (Nat.le_refl _) _
    obtain ⟨G1, B2, hwd, hkq⟩ := (HI4.out.below hA).itemPut _ _ _ _ _ (HIT4.out.below hA) rfl k (by omega) _ (HR4.out.move (Moved.below l4 hA) fun x => x) g cap w' hown hgr (by simpa using hat)
    have c5' : w'.cell? ⟨b, 12, none⟩ = some D.items := by rw [cell_of_row w' b 12 _ _ _ hwd]; rfl
    have f5' : w'.frozen? ⟨b, 12, none⟩ = false := frozen_of_row w' b 12 _ _ hwd
    have HF : Hid (Good pin base b (c + 1) (w'.setCell ⟨b, 12, none⟩ (.slice (some ⟨g, 0, none⟩) (k + 1) cap)) ∧ Below base w (w'.setCell ⟨b, 12, none⟩ (.slice (some ⟨g, 0, none⟩) (k + 1) cap)) ∧ (w'.setCell ⟨b, 12, none⟩ (.slice (some ⟨g, 0, none⟩) (k + 1) cap)).heap[q]? = w.heap[q]?) := ⟨G1, (HA1.out.mono hbs).trans ((hA.mono hbs4).trans B2), (hkq q (Nat.lt_of_lt_of_le HQ.out (Nat.le_trans HA1.out.size hA.size)) HQ0.out).trans ((hA.block q (Nat.lt_of_lt_of_le HQ.out HA1.out.size)).trans (HA1.out.block q HQ.out))⟩
    clear G1 B2 hkq hwd hown hgr hat hA
    go_wp2_with fail
    go_end0
    exact ⟨rfl, HF.out⟩
end Go.Proofs.YtenmjjpkbcogbaaGreatDoor
