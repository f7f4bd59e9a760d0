import Derived.Test.YtenmjjpkbcogbaaGreatDoorZf

/- MaF -/
namespace Go.Proofs.YtenmjjpkbcogbaaGreatDoor
open Go.RowKit

set_option maxRecDepth 100000 in
set_option maxHeartbeats 1000000 in
theorem lend_calls (pin : List (Nat × Obj)) (base b c : Nat) (k : Int) (w : World) (G : Good pin base b c w) (hc : c < 4294967296) (hk : -9223372036854775808 ≤ k ∧ k ≤ 9223372036854775807) :
    Calls Tryz.prog 70 #[.pointer (some ⟨b, 0, none⟩), .int .i64 k] w fun e w' => (∃ u v, e = .returned (.tuple #[u, v])) ∧ Below w.heap.size w w' := by
  obtain ⟨l, D, I⟩ := G
  obtain ⟨a7, k7, h7, _, _, _⟩ := own_form I.ls.own
  obtain ⟨a8, k8, h8, _, _, _⟩ := own_form I.lw.own
  have c7 := I.cell 7 _ (show (wcells D)[7]? = some D.ls from rfl)
  have c8 := I.cell 8 _ (show (wcells D)[8]? = some D.lw from rfl)
  have c9 := I.cell 9 _ (show (wcells D)[9]? = some (.int .i64 D.px) from rfl)
  have c10 := I.cell 10 _ (show (wcells D)[10]? = some (.int .i64 D.pn) from rfl)
  have c11 := I.cell 11 _ (show (wcells D)[11]? = some (.int .i64 D.pe) from rfl)
  rw [h7] at c7
  rw [h8] at c8
  have hn : D.ll.length < 4294967296 := by have := I.nll; omega
  by_cases h0 : D.ll.length = 0
  · rw [h0] at c7
    clear I
    go_enter Tryz.func70, Tryz.ntmps70
    go_wp2_with fail
    go_ret2
    exact ⟨⟨_, _, rfl⟩, Below.refl _ _⟩
  · have hlt := pickN_lt k D.ll.length (by omega)
    have hp : D.ll[pickN k D.ll.length]? = some D.ll[pickN k D.ll.length] := List.getElem?_eq_getElem hlt
    have HP0 : Hid (∀ W, Calls Tryz.prog 62 #[.int .i64 k, .int .i64 D.ll.length] W fun e w' => e = .returned (.int .i64 (pickN k D.ll.length)) ∧ w' = W) := fun W => pick_calls k _ hk (by omega) (by omega) W
    obtain ⟨g7, e7, r7, _⟩ := row_at I.ls h7 _ D.ll[pickN k D.ll.length].1 (by rw [List.getElem?_map, hp]; rfl)
    obtain ⟨g8, e8, r8, _⟩ := row_at I.lw h8 _ D.ll[pickN k D.ll.length].2.1 (by rw [List.getElem?_map, hp]; rfl)
    subst e7 e8
    have RA := (I.la _ _ hp).1
    have RB := I.lb _ _ hp
    have hmc := (I.la _ _ hp).2
    obtain ⟨hr1, hr2, hr3⟩ := I.rng
    generalize D.ll[pickN k D.ll.length] = p at *
    obtain ⟨va, vb, ts⟩ := p
    simp only at RA RB r7 r8 hmc
    obtain ⟨aa, ca, rfl, hca, _, fa⟩ := own_form RA.own
    obtain ⟨ab, cb, rfl, hcb, _, fb⟩ := own_form RB.own
    generalize pickN k D.ll.length = K at *
    generalize hN : D.ll.length = N at *
    generalize hM : ts.length = M at *
    have hK' : (K : Int) < (N : Int) := by omega
    have hN0 : (N : Int) ≠ 0 := by omega
    obtain ⟨x, hx⟩ : ∃ x, x = pickN D.px (M + 1) := ⟨_, rfl⟩
    have hxM : x ≤ M := by have := pickN_lt D.px (M + 1) (by omega); omega
    have HP1 : Hid (∀ W, Calls Tryz.prog 62 #[.int .i64 D.px, .int .i64 ((M : Int) + 1)] W fun e w' => e = .returned (.int .i64 x) ∧ w' = W) := fun W => by
      have := pick_calls D.px (M + 1) hr1 (by omega) (by omega) W
      rw [← hx] at this; push_cast at this; exact this
    obtain ⟨y, hy⟩ : ∃ y, y = pickN D.pn (M - x + 1) := ⟨_, rfl⟩
    have hyM : x + y ≤ M := by have := pickN_lt D.pn (M - x + 1) (by omega); omega
    have HP2 : Hid (∀ W, Calls Tryz.prog 62 #[.int .i64 D.pn, .int .i64 ((M : Int) - (x : Int) + 1)] W fun e w' => e = .returned (.int .i64 y) ∧ w' = W) := fun W => by
      have := pick_calls D.pn (M - x + 1) hr2 (by omega) (by omega) W
      rw [← hy, show ((M - x + 1 : Nat) : Int) = (M : Int) - (x : Int) + 1 by omega] at this; exact this
    obtain ⟨z, hz⟩ : ∃ z, z = pickN D.pe (M - x - y + 1) := ⟨_, rfl⟩
    have hzM : x + y + z ≤ M := by have := pickN_lt D.pe (M - x - y + 1) (by omega); omega
    have HP3 : Hid (∀ W, Calls Tryz.prog 62 #[.int .i64 D.pe, .int .i64 ((M : Int) - (x : Int) - (y : Int) + 1)] W fun e w' => e = .returned (.int .i64 z) ∧ w' = W) := fun W => by
      have := pick_calls D.pe (M - x - y + 1) hr3 (by omega) (by omega) W
      rw [← hz, show ((M - x - y + 1 : Nat) : Int) = (M : Int) - (x : Int) - (y : Int) + 1 by omega] at this; exact this
    clear hx hy hz
    have hMb : M < 4294967296 := by omega
    have HCS : Hid (∀ sp cp, (0 < y → ∃ gb, ab = some ⟨gb, 0, none⟩ ∧ sp = some ⟨gb, x, none⟩) → Calls Tryz.prog 74 #[.slice sp y cp] w fun e w' => e = .returned (.slice (some ⟨w.heap.size, 0, none⟩) y y) ∧ Below w.heap.size w w') := fun sp cp hab => by
      have hl : ((ts.drop x).take y).length = y := by rw [List.length_take, List.length_drop]; omega
      have := copied_calls sp cp ((ts.drop x).take y) (by omega) w (fun h0 => by
        obtain ⟨gb, hab2, rfl⟩ := hab (by omega)
        refine ⟨_, rfl, fun j v hv => ?_⟩
        have hadd : (⟨gb, x, none⟩ : Addr).add j = ⟨gb, x + j, none⟩ := by unfold Addr.add; split <;> simp_all
        rw [hadd]
        refine own_cell RB.own (by rw [hab2]; rfl) (x + j) v ?_
        rw [List.getElem?_map, List.getElem?_take] at hv
        rw [List.getElem?_map]
        split at hv
        · rw [List.getElem?_drop] at hv; exact hv
        · cases hv)
      rw [hl] at this
      exact this.mono fun e w' h => ⟨h.1, by rw [h.2]; exact (Below.refl _ _).alloc (Nat.le_refl _) _⟩
    have q1 : (x : Int) + (y : Int) ≤ (ca : Int) := by omega
    have q2 : (x : Int) + (y : Int) ≤ (cb : Int) := by omega
    have q3 : (x : Int) + (y : Int) + (z : Int) ≤ (ca : Int) := by omega
    have q4 : (x : Int) ≤ (M : Int) := by omega
    have q5 : (x : Int) ≤ (x : Int) + (y : Int) := by omega
    have q6 : (x : Int) + (y : Int) ≤ (x : Int) + (y : Int) + (z : Int) := by omega
    clear I RA RB h7 h8 hr1 hr2 hr3 hp hmc hk
    have hfab : (aa = none ∧ M = 0 ∧ ca = 0 ∨ ∃ g, aa = some ⟨g, 0, none⟩) ∧ (ab = none ∧ M = 0 ∧ cb = 0 ∨ ∃ g, ab = some ⟨g, 0, none⟩) := ⟨fa, fb⟩
    clear fa fb
    rcases hfab with ⟨⟨rfl, hM0, rfl⟩ | ⟨ga, rfl⟩, ⟨rfl, hM1, rfl⟩ | ⟨gb, rfl⟩⟩
    all_goals
      have HY : Hid (y ≤ M) := by show _ ≤ _; omega
      have HMM : Hid (M = 0 ∨ M ≠ 0) := by show _ ∨ _; omega
      try (have HM0 : Hid (M = 0) := hM0
           clear hM0)
      try (have HM1 : Hid (M = 0) := hM1
           clear hM1)
      go_enter Tryz.func70, Tryz.ntmps70
      go_wp2_with fail
      refine (HP0.out _).mono ?_
      rintro e w1 ⟨rfl, hw1⟩
      subst hw1
      go_wp2_with fail
      refine (HP1.out _).mono ?_
      rintro e w1 ⟨rfl, hw1⟩
      subst hw1
      go_wp2_with fail
      refine (HP2.out _).mono ?_
      rintro e w1 ⟨rfl, hw1⟩
      subst hw1
      go_wp2_with fail
      refine (HP3.out _).mono ?_
      rintro e w1 ⟨rfl, hw1⟩
      subst hw1
      go_wp2_with fail
      all_goals
        refine (HCS.out _ _ (by intro h; first | exact ⟨_, rfl, rfl⟩ | (have := HY.out; omega) | (have := HY.out; have := HM1.out; omega))).mono ?_
        rintro e w2 ⟨rfl, B2⟩
        have HB2 : Hid (Below w1.heap.size w1 w2) := B2
        clear B2
        go_wp2_with fail
        all_goals
          go_ret2
          exact ⟨⟨_, _, rfl⟩, HB2.out⟩
end Go.Proofs.YtenmjjpkbcogbaaGreatDoor

/- MaG -/
namespace Go.Proofs.YtenmjjpkbcogbaaGreatDoor
open Go.RowKit

def Rng (x : Int) : Prop := -9223372036854775808 ≤ x ∧ x ≤ 9223372036854775807

theorem verify_calls (pin : List (Nat × Obj)) (base b c : Nat) (k x y z : Int) (s t : ByteArray) (w : World) (G : Good pin base b c w) (hc : c < 4294967296) (hy : Rng y) (hz : Rng z)
    (k1 : k ≠ 57) (k2 : k ≠ 58) (k3 : k ≠ 59) :
    Calls Tryz.prog 31 #[.pointer (some ⟨b, 0, none⟩), opV k x y z s t] w fun e w' => e = .returned (.bool true) ∧ Below w.heap.size w w' := by
  have B0 : Below w.heap.size w (w.alloc (.cells #[.int .i64 k, .int .i64 x, .int .i64 y, .int .i64 z, .string s, .string t] 38)) := (Below.refl _ _).alloc (Nat.le_refl _) _
  have HL : Hid (Calls Tryz.prog 69 #[.pointer (some ⟨b, 0, none⟩), opV k x y z s t] (w.alloc (.cells #[.int .i64 k, .int .i64 x, .int .i64 y, .int .i64 z, .string s, .string t] 38)) fun e w' => (∃ u, e = .returned (.string u)) ∧ Below (w.alloc (.cells #[.int .i64 k, .int .i64 x, .int .i64 y, .int .i64 z, .string s, .string t] 38)).heap.size (w.alloc (.cells #[.int .i64 k, .int .i64 x, .int .i64 y, .int .i64 z, .string s, .string t] 38)) w') :=
    long_calls pin base b c k x y z s t _ (G.below B0) hc hz
  have HN : Hid (∀ W, Below w.heap.size w W → Calls Tryz.prog 70 #[.pointer (some ⟨b, 0, none⟩), .int .i64 y] W fun e w' => (∃ u v, e = .returned (.tuple #[u, v])) ∧ Below W.heap.size W w') := fun W hW =>
    lend_calls pin base b c y W (G.below hW) hc hy
  have HB0 : Hid (Below w.heap.size w (w.alloc (.cells #[.int .i64 k, .int .i64 x, .int .i64 y, .int .i64 z, .string s, .string t] 38))) := B0
  clear B0 G hy hz hc
  unfold opV at HL ⊢
  go_enter Tryz.func31, Tryz.ntmps31
  go_wp2_with fail
  refine HL.out.mono ?_
  rintro e w1 ⟨⟨u, rfl⟩, B1⟩
  have d2 : w1.cell? ⟨w.heap.size, 2, none⟩ = some (.int .i64 y) := by
    rw [World.cell?_of_block (B1.block w.heap.size (by simp))]; rw [cell_of_row _ _ 2 _ _ _ (heap_alloc_new w _)]; rfl
  have d0 : w1.cell? ⟨w.heap.size, 0, none⟩ = some (.int .i64 k) := by
    rw [World.cell?_of_block (B1.block w.heap.size (by simp))]; rw [cell_of_row _ _ 0 _ _ _ (heap_alloc_new w _)]; rfl
  have hs1 : w.heap.size < w1.heap.size := by have := B1.size; simp at this; omega
  have HB1 : Hid (Below w.heap.size w w1) := HB0.out.trans (B1.mono (by simp))
  clear B1
  go_wp2_with fail
  refine (HN.out w1 HB1.out).mono ?_
  rintro e w2 ⟨⟨u2, v2, rfl⟩, B2⟩
  have d0' : w2.cell? ⟨w.heap.size, 0, none⟩ = some (.int .i64 k) := by
    rw [World.cell?_of_block (B2.block w.heap.size hs1)]; exact d0
  have HB2 : Hid (Below w.heap.size w w2) := HB1.out.trans (B2.mono (by omega))
  clear B2 d0 d2
  go_wp2_with fail
  go_ret
  exact ⟨rfl, HB2.out⟩
end Go.Proofs.YtenmjjpkbcogbaaGreatDoor

/- MaJ -/
namespace Go.Proofs.YtenmjjpkbcogbaaGreatDoor
open Go.RowKit

set_option maxRecDepth 100000 in
set_option maxHeartbeats 1000000 in
theorem cell_calls (pin : List (Nat × Obj)) (base b c : Nat) (k x y z : Int) (s t : ByteArray) (w : World) (G : Good pin base b c w) (hc : c < 4294967296) (hx : Rng x) (hy : Rng y) (hz : Rng z) :
    Calls Tryz.prog 75 #[.pointer (some ⟨b, 0, none⟩), opV k x y z s t] w fun e w' => e = .returned (.tuple #[]) ∧ Good pin base b c w' ∧ Below base w w' := by
  have HL : Hid (∀ W, Below w.heap.size w W → Calls Tryz.prog 69 #[.pointer (some ⟨b, 0, none⟩), opV k x y z s t] W fun e w' => (∃ u, e = .returned (.string u)) ∧ Below W.heap.size W w') := fun W hW => long_calls pin base b c k x y z s t W (G.below hW) hc hz
  have HB0 : Hid (Below w.heap.size w (w.alloc (.cells #[.int .i64 k, .int .i64 x, .int .i64 y, .int .i64 z, .string s, .string t] 38))) := (Below.refl _ _).alloc (Nat.le_refl _) _
  have HG : Hid (∀ W, Below w.heap.size w W → Good pin base b c W) := fun W hW => G.below hW
  have hbs := G.base
  obtain ⟨l, D, I⟩ := G
  obtain ⟨a7, k7, h7, _, _, _⟩ := own_form I.ls.own
  obtain ⟨a8, k8, h8, _, _, _⟩ := own_form I.lw.own
  have c7 := I.cell 7 _ (show (wcells D)[7]? = some D.ls from rfl)
  have c8 := I.cell 8 _ (show (wcells D)[8]? = some D.lw from rfl)
  rw [h7] at c7
  rw [h8] at c8
  have hblt := I.lt
  unfold opV at HL ⊢
  have hn : D.ll.length < 4294967296 := by have := I.nll; omega
  by_cases h0 : D.ll.length = 0
  · rw [h0] at c7
    clear I
    go_enter Tryz.func75, Tryz.ntmps75
    go_wp2_with fail
    refine bodyPost_ret (results_none rfl _ _ _) rfl ?_
    exact ⟨rfl, HG.out _ HB0.out, HB0.out.mono hbs⟩
  · have hlt := pickN_lt x D.ll.length (by omega)
    have hp : D.ll[pickN x D.ll.length]? = some D.ll[pickN x D.ll.length] := List.getElem?_eq_getElem hlt
    have HP0 : Hid (∀ W, Calls Tryz.prog 62 #[.int .i64 x, .int .i64 D.ll.length] W fun e w' => e = .returned (.int .i64 (pickN x D.ll.length)) ∧ w' = W) := fun W => pick_calls x _ hx (by omega) (by omega) W
    obtain ⟨g7, e7, r7, _, _, hg7, _⟩ := row_at I.ls h7 _ D.ll[pickN x D.ll.length].1 (by rw [List.getElem?_map, hp]; rfl)
    obtain ⟨g8, e8, r8, _, _, hg8, _⟩ := row_at I.lw h8 _ D.ll[pickN x D.ll.length].2.1 (by rw [List.getElem?_map, hp]; rfl)
    subst e7 e8
    have RA := (I.la _ _ hp).1
    have RB := I.lb _ _ hp
    have hmc := (I.la _ _ hp).2
    have HCS : Hid (∀ (W : World) (i : Nat) (u : ByteArray) (ga gb : Nat), Below w.heap.size w W → D.ll[pickN x D.ll.length].1.ownBlock = some ga → D.ll[pickN x D.ll.length].2.1.ownBlock = some gb →
        Good pin base b c ((W.setCell ⟨ga, i, none⟩ (.string u)).setCell ⟨gb, i, none⟩ (.string u)) ∧ Below base W ((W.setCell ⟨ga, i, none⟩ (.string u)).setCell ⟨gb, i, none⟩ (.string u))) := fun W i u ga gb hW ha hb =>
      (I.below hW).cellSet _ i _ hp u ga gb ha hb
    generalize D.ll[pickN x D.ll.length] = p at *
    obtain ⟨va, vb, ts⟩ := p
    simp only at RA RB r7 r8 hmc HCS
    obtain ⟨aa, ca, rfl, hca, _, fa⟩ := own_form RA.own
    obtain ⟨ab, cb, rfl, hcb, _, fb⟩ := own_form RB.own
    generalize pickN x D.ll.length = K at *
    generalize hN : D.ll.length = N at *
    have hK' : (K : Int) < (N : Int) := by omega
    have hN0 : (N : Int) ≠ 0 := by omega
    by_cases hM0 : ts.length = 0
    · rw [hM0] at r7
      clear I RA RB
      go_enter Tryz.func75, Tryz.ntmps75
      go_wp2_with fail
      go_quiet ((go_at_call 62; refine Calls.quiet_of_same (HP0.out _)))
      go_wp2_with fail
      refine bodyPost_ret (results_none rfl _ _ _) rfl ?_
      exact ⟨rfl, HG.out _ (below_drews HB0.out _), (below_drews HB0.out _).mono hbs⟩
    · have hyl := pickN_lt y ts.length (by omega)
      have HP1 : Hid (∀ W, Calls Tryz.prog 62 #[.int .i64 y, .int .i64 ts.length] W fun e w' => e = .returned (.int .i64 (pickN y ts.length)) ∧ w' = W) := fun W => pick_calls y _ hy (by omega) (by omega) W
      have HRA : Hid (∃ ga, aa = some ⟨ga, 0, none⟩ ∧ ga < w.heap.size ∧ (∃ u, w.cell? ⟨ga, pickN y ts.length, none⟩ = some u) ∧ w.frozen? ⟨ga, pickN y ts.length, none⟩ = false) := by
        obtain ⟨g, e, r, f, _, hlt, _⟩ := row_at RA rfl (pickN y ts.length) (.string ts[pickN y ts.length]) (by rw [List.getElem?_map, List.getElem?_eq_getElem hyl]; rfl)
        exact ⟨g, e, hlt, ⟨_, r⟩, f⟩
      have HRB : Hid (∃ gb, ab = some ⟨gb, 0, none⟩ ∧ gb < w.heap.size ∧ (∃ u, w.cell? ⟨gb, pickN y ts.length, none⟩ = some u) ∧ w.frozen? ⟨gb, pickN y ts.length, none⟩ = false) := by
        obtain ⟨g, e, r, f, _, hlt, _⟩ := row_at RB rfl (pickN y ts.length) (.string ts[pickN y ts.length]) (by rw [List.getElem?_map, List.getElem?_eq_getElem hyl]; rfl)
        exact ⟨g, e, hlt, ⟨_, r⟩, f⟩
      have HABN : Hid (∀ ga gb, aa = some ⟨ga, 0, none⟩ → ab = some ⟨gb, 0, none⟩ → ga ≠ gb) := fun ga gb ea eb e => by
        have la := RA.lab ga (by rw [ea]; rfl)
        have lb := RB.lab gb (by rw [eb]; rfl)
        rw [e, lb] at la; omega
      have HBG : Hid (∀ ga, aa = some ⟨ga, 0, none⟩ → ga ≠ b ∧ ga ≠ g7 ∧ ga ≠ g8) := fun ga ea => by
        have la := RA.lab ga (by rw [ea]; rfl)
        have l7 := I.ls.lab g7 (by rw [h7]; rfl)
        have l8 := I.lw.lab g8 (by rw [h8]; rfl)
        have lb := I.wl
        refine ⟨fun e => ?_, fun e => ?_, fun e => ?_⟩
        · rw [e, lb] at la; omega
        · rw [e, l7] at la; omega
        · rw [e, l8] at la; omega
      clear I RA RB fa fb
      generalize pickN y ts.length = J at *
      generalize ts.length = M at *
      have hJ' : (J : Int) < (M : Int) := by omega
      have hM0' : (M : Int) ≠ 0 := by omega
      obtain ⟨ga, rfl, hga, ⟨ua, ca1⟩, fa1⟩ := HRA.out
      obtain ⟨gb, rfl, hgb, ⟨ub, cb1⟩, fb1⟩ := HRB.out
      have hne1 := HABN.out ga gb rfl rfl
      obtain ⟨hne2, hne3, hne4⟩ := HBG.out ga rfl
      clear HRA HRB HABN HBG
      go_enter Tryz.func75, Tryz.ntmps75
      go_wp2_with fail
      go_quiet ((go_at_call 62; refine Calls.quiet_of_same (HP0.out _)))
      obtain ⟨W2, hW2⟩ : ∃ W2, W2 = (w.alloc (.cells #[.int .i64 k, .int .i64 x, .int .i64 y, .int .i64 z, .string s, .string t] 38)).drewN nq := ⟨_, rfl⟩
      rw [← hW2]
      have HB2 : Hid (Below w.heap.size w W2) := by rw [hW2]; exact below_drews HB0.out _
      have o2 : W2.heap[w.heap.size]? = some (.cells #[.int .i64 k, .int .i64 x, .int .i64 y, .int .i64 z, .string s, .string t] 38 (0, 0)) := by rw [hW2]; exact heap_alloc_new w _
      have oc2 : ∀ j, W2.cell? ⟨w.heap.size, j, none⟩ = (#[Value.int .i64 k, .int .i64 x, .int .i64 y, .int .i64 z, .string s, .string t])[j]? := fun j => cell_of_row W2 _ j _ _ _ o2
      have p0 := oc2 0
      have p1 := oc2 1
      have p2 := oc2 2
      have p3 := oc2 3
      have p4 := oc2 4
      have p5 := oc2 5
      have c7' := cell_below HB2.out c7
      have c8' := cell_below HB2.out c8
      have r7' := cell_below HB2.out r7
      have r8' := cell_below HB2.out r8
      clear o2 oc2 hW2
      go_wp2_with fail
      go_quiet ((go_at_call 62; refine Calls.quiet_of_same (HP1.out _)))
      go_wp2_with fail
      refine (HL.out _ (below_drews HB2.out _)).mono ?_
      rintro e w1 ⟨⟨u, rfl⟩, B1⟩
      have B1w : Below w.heap.size w w1 := HB2.out.trans ((below_drews (Below.refl _ _) _).trans (B1.mono HB2.out.size))
      have HB1 : Hid (Below w.heap.size w w1) := B1w
      have d7 := cell_below B1w c7
      have d8 := cell_below B1w c8
      have q7 := cell_below B1w r7
      have q8 := cell_below B1w r8
      have qa := cell_below B1w ca1
      have qb := cell_below B1w cb1
      have fa2 := frozen_below (a := ⟨ga, J, none⟩) B1w hga fa1
      have fb2 := frozen_below (a := ⟨gb, J, none⟩) B1w hgb fb1
      obtain ⟨GG, BB⟩ := HCS.out w1 J u ga gb B1w rfl rfl
      have HFIN : Hid (Good pin base b c ((w1.setCell ⟨ga, J, none⟩ (.string u)).setCell ⟨gb, J, none⟩ (.string u)) ∧ Below base w ((w1.setCell ⟨ga, J, none⟩ (.string u)).setCell ⟨gb, J, none⟩ (.string u))) := ⟨GG, (B1w.mono hbs).trans BB⟩
      clear GG BB B1 B1w c7 c8 r7 r8 ca1 cb1 fa1 fb1 c7' c8' r7' r8' p0 p1 p2 p3 p4 p5 HCS HL HG
      go_wp2_with fail
      go_end0
      exact ⟨rfl, HFIN.out⟩
end Go.Proofs.YtenmjjpkbcogbaaGreatDoor

/- MaK -/
namespace Go.Proofs.YtenmjjpkbcogbaaGreatDoor
open Go.RowKit

def bx (w : World) (k x y z : Int) (s t : ByteArray) : World := w.alloc (.cells #[.int .i64 k, .int .i64 x, .int .i64 y, .int .i64 z, .string s, .string t] 38)
theorem bx_below (w : World) (k x y z : Int) (s t : ByteArray) : Below w.heap.size w (bx w k x y z s t) := (Below.refl _ _).alloc (Nat.le_refl _) _

theorem bx_good {pin : List (Nat × Obj)} {base b c : Nat} {w w' : World} (h : Good pin base b c w' ∧ Below base w w') (k x y z : Int) (s t : ByteArray) : Good pin base b (c + 1) (bx w' k x y z s t) ∧ Below base w (bx w' k x y z s t) :=
  ⟨(h.1.below (bx_below w' k x y z s t)).more (by omega), h.2.trans ((bx_below w' k x y z s t).mono h.1.base)⟩

/-- A step has ended well. -/
def Stepped (pin : List (Nat × Obj)) (base b c : Nat) (w : World) (v : Value) (e : Ending) (w' : World) : Prop := e = .returned v ∧ Good pin base b c w' ∧ Below base w w'

theorem owner_word (pin : List (Nat × Obj)) (base b c : Nat) (x y z : Int) (s t : ByteArray) (w : World) (G : Good pin base b c w) (hc : c < 4294967296) :
    Calls Tryz.prog 32 #[.pointer (some ⟨b, 0, none⟩), opV 29 x y z s t] w fun e w' => Stepped pin base b (c + 1) w (.bool true) e w' := by
  have HW : Hid (Calls Tryz.prog 25 #[.pointer (some ⟨b, 0, none⟩), .string s] (bx w 29 x y z s t) fun e w' => e = .returned (.tuple #[]) ∧ Good pin base b (c + 1) w' ∧ Below base (bx w 29 x y z s t) w') :=
    mword_calls pin base b c s _ (G.below (bx_below w 29 x y z s t)) hc
  have HB0 : Hid (Below base w (bx w 29 x y z s t)) := (bx_below w 29 x y z s t).mono G.base
  clear G hc
  unfold bx at HW HB0
  unfold opV
  go_enter Tryz.func32, Tryz.ntmps32
  go_wp2_with fail
  refine HW.out.mono ?_
  rintro e w1 ⟨rfl, G1, B1⟩
  have HF : Hid (Good pin base b (c + 1) w1 ∧ Below base w w1) := ⟨G1, HB0.out.trans B1⟩
  clear G1 B1
  go_wp2_with fail
  go_ret
  exact ⟨rfl, HF.out⟩

theorem owner_value (pin : List (Nat × Obj)) (base b c : Nat) (x y z : Int) (s t : ByteArray) (w : World) (G : Good pin base b c w) :
    Calls Tryz.prog 32 #[.pointer (some ⟨b, 0, none⟩), opV 22 x y z s t] w fun e w' => Stepped pin base b (c + 1) w (.bool true) e w' := by
  obtain ⟨l, D, I⟩ := G
  have HF : Hid (Good pin base b (c + 1) (bx (w.setCell ⟨b, 5, none⟩ (.string s)) 22 x y z s t) ∧ Below base w (bx (w.setCell ⟨b, 5, none⟩ (.string s)) 22 x y z s t)) := bx_good (I.valSet s) 22 x y z s t
  have c5 := I.cell 5 _ (show (wcells D)[5]? = some (.string D.vl) from rfl)
  have f5 := I.free 5
  have hblt := I.lt
  clear I
  unfold bx at HF
  unfold opV
  go_enter Tryz.func32, Tryz.ntmps32
  go_wp2_with fail
  go_ret
  exact ⟨rfl, HF.out⟩

theorem owner_clear (pin : List (Nat × Obj)) (base b c : Nat) (x y z : Int) (s t : ByteArray) (w : World) (G : Good pin base b c w) :
    Calls Tryz.prog 32 #[.pointer (some ⟨b, 0, none⟩), opV 31 x y z s t] w fun e w' => Stepped pin base b (c + 1) w (.bool true) e w' := by
  obtain ⟨l, D, I⟩ := G
  have HF : Hid (Good pin base b (c + 1) (bx (w.setCell ⟨b, 6, none⟩ (.slice none 0 0)) 31 x y z s t) ∧ Below base w (bx (w.setCell ⟨b, 6, none⟩ (.slice none 0 0)) 31 x y z s t)) := bx_good (I.regNone ) 31 x y z s t
  have c5 := I.cell 6 _ (show (wcells D)[6]? = some D.reg from rfl)
  have f5 := I.free 6
  have hblt := I.lt
  clear I
  unfold bx at HF
  unfold opV
  go_enter Tryz.func32, Tryz.ntmps32
  go_wp2_with fail
  go_ret
  exact ⟨rfl, HF.out⟩

theorem owner_part (pin : List (Nat × Obj)) (base b c : Nat) (x y z : Int) (s t : ByteArray) (w : World) (G : Good pin base b c w) (hx : Rng x) (hy : Rng y) (hz : Rng z) :
    Calls Tryz.prog 32 #[.pointer (some ⟨b, 0, none⟩), opV 35 x y z s t] w fun e w' => Stepped pin base b (c + 1) w (.bool true) e w' := by
  obtain ⟨l, D, I⟩ := G
  have HF : Hid (Good pin base b (c + 1) (bx (((w.setCell ⟨b, 9, none⟩ (.int .i64 x)).setCell ⟨b, 10, none⟩ (.int .i64 y)).setCell ⟨b, 11, none⟩ (.int .i64 z)) 35 x y z s t) ∧ Below base w (bx (((w.setCell ⟨b, 9, none⟩ (.int .i64 x)).setCell ⟨b, 10, none⟩ (.int .i64 y)).setCell ⟨b, 11, none⟩ (.int .i64 z)) 35 x y z s t)) := bx_good (I.partSet x y z hx hy hz) 35 x y z s t
  have c9 := I.cell 9 _ (show (wcells D)[9]? = some (.int .i64 D.px) from rfl)
  have c10 := I.cell 10 _ (show (wcells D)[10]? = some (.int .i64 D.pn) from rfl)
  have c11 := I.cell 11 _ (show (wcells D)[11]? = some (.int .i64 D.pe) from rfl)
  have f9 := I.free 9
  have f10 := I.free 10
  have f11 := I.free 11
  have hblt := I.lt
  clear I hx hy hz
  unfold bx at HF
  unfold opV
  go_enter Tryz.func32, Tryz.ntmps32
  go_wp2_with fail
  go_ret
  exact ⟨rfl, HF.out⟩

theorem owner_cell (pin : List (Nat × Obj)) (base b c : Nat) (x y z : Int) (s t : ByteArray) (w : World) (G : Good pin base b c w) (hc : c < 4294967296) (hx : Rng x) (hy : Rng y) (hz : Rng z) :
    Calls Tryz.prog 32 #[.pointer (some ⟨b, 0, none⟩), opV 34 x y z s t] w fun e w' => Stepped pin base b (c + 1) w (.bool true) e w' := by
  have HW : Hid (Calls Tryz.prog 75 #[.pointer (some ⟨b, 0, none⟩), opV 34 x y z s t] (bx w 34 x y z s t) fun e w' => e = .returned (.tuple #[]) ∧ Good pin base b c w' ∧ Below base (bx w 34 x y z s t) w') :=
    cell_calls pin base b c 34 x y z s t _ (G.below (bx_below w 34 x y z s t)) hc hx hy hz
  have HB0 : Hid (Below base w (bx w 34 x y z s t)) := (bx_below w 34 x y z s t).mono G.base
  clear G hc hx hy hz
  unfold bx at HW HB0
  unfold opV at HW ⊢
  go_enter Tryz.func32, Tryz.ntmps32
  go_wp2_with fail
  refine HW.out.mono ?_
  rintro e w1 ⟨rfl, G1, B1⟩
  have HF : Hid (Good pin base b (c + 1) w1 ∧ Below base w w1) := ⟨G1.more (by omega), HB0.out.trans B1⟩
  clear G1 B1
  go_wp2_with fail
  go_ret
  exact ⟨rfl, HF.out⟩

theorem owner_other (b : Nat) (k x y z : Int) (s t : ByteArray) (w : World) (h1 : k ≠ 29) (h2 : k ≠ 22) (h3 : k ≠ 30) (h4 : k ≠ 31) (h5 : k ≠ 32) (h6 : k ≠ 33) (h7 : k ≠ 34) (h8 : k ≠ 35) :
    Calls Tryz.prog 32 #[.pointer (some ⟨b, 0, none⟩), opV k x y z s t] w fun e w' => e = .returned (.bool false) ∧ Below w.heap.size w w' := by
  have HB0 : Hid (Below w.heap.size w (bx w k x y z s t)) := bx_below w k x y z s t
  unfold bx at HB0
  unfold opV
  go_enter Tryz.func32, Tryz.ntmps32
  go_wp2_with fail
  go_ret
  exact ⟨rfl, HB0.out⟩
end Go.Proofs.YtenmjjpkbcogbaaGreatDoor

/- MaL -/
namespace Go.Proofs.YtenmjjpkbcogbaaGreatDoor
open Go.RowKit

set_option maxRecDepth 100000 in
theorem owner_add (pin : List (Nat × Obj)) (base b c : Nat) (x y z : Int) (s t : ByteArray) (w : World) (G : Good pin base b c w) (hc : c < 4294967296) (hz : Rng z) :
    Calls Tryz.prog 32 #[.pointer (some ⟨b, 0, none⟩), opV 30 x y z s t] w fun e w' => Stepped pin base b (c + 1) w (.bool true) e w' := by
  have HL : Hid (Calls Tryz.prog 69 #[.pointer (some ⟨b, 0, none⟩), opV 30 x y z s t] (bx w 30 x y z s t) fun e w' => (∃ u, e = .returned (.string u)) ∧ Below (bx w 30 x y z s t).heap.size (bx w 30 x y z s t) w') :=
    long_calls pin base b c 30 x y z s t _ (G.below (bx_below w 30 x y z s t)) hc hz
  obtain ⟨l, D, I⟩ := G
  have HB0 : Hid (Below w.heap.size w (bx w 30 x y z s t)) := bx_below w 30 x y z s t
  have hszb : (bx w 30 x y z s t).heap.size = w.heap.size + 1 := by unfold bx; simp
  have HSZ : Hid ((bx w 30 x y z s t).heap.size = w.heap.size + 1) := hszb
  have hbs := I.bs
  have hrn := I.nrs
  have HI : Hid (∀ W, Below w.heap.size w W → Inv pin base b c l D W) := fun W hW => I.below hW
  obtain ⟨i0, hi0, hz0, hz1, hz2⟩ := info_parts info9
  clear hszb I hz
  unfold bx at HL HB0 HSZ
  unfold opV at HL ⊢
  go_enter Tryz.func32, Tryz.ntmps32
  go_wp2_with fail
  refine HL.out.mono ?_
  rintro e w1 ⟨⟨u, rfl⟩, B1⟩
  have B1w : Below w.heap.size w w1 := HB0.out.trans (B1.mono HB0.out.size)
  have I1 := HI.out w1 B1w
  have c6 := I1.cell 6 _ (show (wcells D)[6]? = some D.reg from rfl)
  have hblt := I1.lt
  have hs1 : base ≤ w1.heap.size := I1.bs
  have HI1 : Hid (Inv pin base b c l D w1) := I1
  have HB1 : Hid (Below w.heap.size w w1) := B1w
  clear I1 B1 B1w
  go_wp2_with (at_builtin; refine wpList_append_lies _ rfl (.tmp 32) (.tmp 34) 44 rfl base 9 i0 (.string ⟨#[]⟩) 1 16 Tryz.underlying44 hi0 hz0 hz1 hz2 rfl (by decide) D.reg D.rs.length (D.rs.map Value.string) rfl (HI1.out.reg.own.alloc _) ⟨w1.heap.size, 0, none⟩ 1 1 [.string u] rfl rfl (cell_one_new _ _ _) ?c2 (by omega) ?c3 ?c4 ?c5 _ rfl ?c6)
  case c2 => intro v hv; simp at hv; subst hv; rfl
  case c3 => unfold maxLen; omega
  case c4 => omega
  case c5 => simp; omega
  intro g cap w' hown hgr hat hlt
  have hA : Below w1.heap.size w1 (w1.alloc (.cells #[.string u] 9)) := (Below.refl _ _).alloc (Nat.le_refl _) _
  obtain ⟨G1, B2, hwd⟩ := (HI1.out.below hA).regAdded u g cap w' hown hgr (by simpa using hat)
  have c6' : w'.cell? ⟨b, 6, none⟩ = some D.reg := by rw [cell_of_row w' b 6 _ _ _ hwd]; rfl
  have f6' : w'.frozen? ⟨b, 6, none⟩ = false := frozen_of_row w' b 6 _ _ hwd
  have HF : Hid (Good pin base b (c + 1) (w'.setCell ⟨b, 6, none⟩ (.slice (some ⟨g, 0, none⟩) (D.rs.length + 1) cap)) ∧ Below base w (w'.setCell ⟨b, 6, none⟩ (.slice (some ⟨g, 0, none⟩) (D.rs.length + 1) cap))) := ⟨G1, (HB1.out.mono hbs).trans ((hA.mono hs1).trans B2)⟩
  clear G1 B2 hwd hown hgr hat hA
  go_wp2_with fail
  go_ret
  exact ⟨rfl, HF.out⟩

theorem one_at (w : World) (x : Value) (t : TypeId) {n : Nat} (hn : n = w.heap.size) : ∀ j u, [x][j]? = some u → (w.alloc (.cells #[x] t)).cell? ((⟨n, 0, none⟩ : Addr).add j) = some u := by
  subst hn; exact cell_one_new w x t
theorem info44 : (Tryz.prog.info? 44).map (fun i => (i.zero, i.size, i.bytes)) = some (some (.slice none 0 0), 1, 24) := by kernel_rfl

set_option maxRecDepth 100000 in
theorem owner_nil (pin : List (Nat × Obj)) (base b c : Nat) (x y z : Int) (s t : ByteArray) (w : World) (G : Good pin base b c w) (hc : c < 4294967296) :
    Calls Tryz.prog 32 #[.pointer (some ⟨b, 0, none⟩), opV 33 x y z s t] w fun e w' => Stepped pin base b (c + 1) w (.bool true) e w' := by
  obtain ⟨l, D, I⟩ := G
  have HB0 : Hid (Below w.heap.size w (bx w 33 x y z s t)) := bx_below w 33 x y z s t
  have I1 : Inv pin base b c l D (bx w 33 x y z s t) := I.below HB0.out
  have HI1 : Hid (Inv pin base b c l D (bx w 33 x y z s t)) := I1
  have hbs := I.bs
  have hln := I.nll
  have c7 := I.cell 7 _ (show (wcells D)[7]? = some D.ls from rfl)
  have hblt := I.lt
  obtain ⟨i0, hi0, hz0, hz1, hz2⟩ := info_parts info44
  clear I I1
  unfold bx at HI1 HB0
  unfold opV
  go_enter Tryz.func32, Tryz.ntmps32
  go_wp2_with (at_builtin; refine wpList_append_lies _ rfl (.tmp 81) (.tmp 82) 45 rfl base 44 i0 (.slice none 0 0) 1 24 Tryz.underlying45 hi0 hz0 hz1 hz2 rfl (by decide) D.ls D.ll.length (D.ll.map fun p => p.1) rfl (HI1.out.ls.own.alloc _) ⟨w.heap.size + 1, 0, none⟩ 1 1 [.slice none 0 0] rfl rfl (one_at _ _ _ (by simp)) ?c2 (by omega) ?c3 ?c4 ?c5 _ rfl ?c6)
  case c2 => intro v hv; simp at hv; subst hv; rfl
  case c3 => unfold maxLen; omega
  case c4 => omega
  case c5 => simp; omega
  intro g1 cap1 w1 hown1 hgr1 hat1 hlt1
  have HLA := HI1.out.listAdded [] (.slice none 0 0) (.slice none 0 0) (Row.nil _ _ _ _ _ _) (Row.nil _ _ _ _ _ _) (by simp) (.cells #[.slice none 0 0] 44) w1 g1 cap1 hown1 hgr1 (by simpa using hat1)
  obtain ⟨hw1, hsz1, hd1, hlw1, hnext⟩ := HLA
  have c7' : w1.cell? ⟨b, 7, none⟩ = some D.ls := by rw [cell_of_row w1 b 7 _ _ _ hw1]; rfl
  have f7' : w1.frozen? ⟨b, 7, none⟩ = false := frozen_of_row w1 b 7 _ _ hw1
  obtain ⟨W1, hW1⟩ : ∃ W1, W1 = w1.setCell ⟨b, 7, none⟩ (.slice (some ⟨g1, 0, none⟩) (D.ll.length + 1) cap1) := ⟨_, rfl⟩
  have c8 : W1.cell? ⟨b, 8, none⟩ = some D.lw := by rw [hW1, cell_of_row _ b 8 _ _ _ hd1]; rfl
  go_upto_region 19 with fail
  rw [← hW1] at hsz1 hd1 hlw1 hnext ⊢
  have hbW : b < W1.heap.size := (Array.getElem?_eq_some_iff.1 hd1).1
  have HN : Hid (∀ (o2 : Obj) (w2 : World) (g2 cap2 : Nat), w2.ownsRow base 44 1 (.slice (some ⟨g2, 0, none⟩) (D.ll.length + 1) cap2) (D.ll.length + 1) (D.ll.map (fun p => p.2.1) ++ [.slice none 0 0]) →
      (W1.alloc o2).grownBy w2 D.lw.ownBlock → (D.lw.ownBlock = some g2 ∨ g2 = W1.heap.size + 1) →
      Good pin base b (c + 1) (w2.setCell ⟨b, 8, none⟩ (.slice (some ⟨g2, 0, none⟩) (D.ll.length + 1) cap2)) ∧ Below base _ (w2.setCell ⟨b, 8, none⟩ (.slice (some ⟨g2, 0, none⟩) (D.ll.length + 1) cap2)) ∧
      w2.heap[b]? = some (.cells ((wcells D).setIfInBounds 7 (.slice (some ⟨g1, 0, none⟩) (D.ll.length + 1) cap1)) 48 (0, 0))) := hnext
  clear hnext hW1 hd1 hw1 hown1 hgr1 hat1 hlt1
  go_wp2_with (at_builtin; refine wpList_append_lies _ rfl (.tmp 90) (.tmp 91) 45 rfl base 44 i0 (.slice none 0 0) 1 24 Tryz.underlying45 hi0 hz0 hz1 hz2 rfl (by decide) D.lw D.ll.length (D.ll.map fun p => p.2.1) rfl (hlw1.alloc _) ⟨W1.heap.size, 0, none⟩ 1 1 [.slice none 0 0] rfl rfl (cell_one_new _ _ _) ?d2 (by omega) ?d3 ?d4 ?d5 _ rfl ?d6)
  case d2 => intro v hv; simp at hv; subst hv; rfl
  case d3 => unfold maxLen; omega
  case d4 => omega
  case d5 => simp; omega
  intro g2 cap2 w2 hown2 hgr2 hat2 hlt2
  obtain ⟨G2, B2, hw2⟩ := HN.out _ w2 g2 cap2 hown2 hgr2 (by simpa using hat2)
  have c8' : w2.cell? ⟨b, 8, none⟩ = some D.lw := by rw [cell_of_row w2 b 8 _ _ _ hw2]; rfl
  have f8' : w2.frozen? ⟨b, 8, none⟩ = false := frozen_of_row w2 b 8 _ _ hw2
  have HF : Hid (Good pin base b (c + 1) (w2.setCell ⟨b, 8, none⟩ (.slice (some ⟨g2, 0, none⟩) (D.ll.length + 1) cap2)) ∧ Below base w (w2.setCell ⟨b, 8, none⟩ (.slice (some ⟨g2, 0, none⟩) (D.ll.length + 1) cap2))) := ⟨G2, (HB0.out.mono hbs).trans B2⟩
  clear G2 B2 hw2 hown2 hgr2 hat2
  go_wp2_with fail
  go_ret
  exact ⟨rfl, HF.out⟩

theorem own_whole (w : World) (base g : Nat) (ts : List ByteArray) (hg : w.heap[g]? = some (.cells (ts.map Value.string).toArray 9 (0, 0))) (hb : base ≤ g) (hn : ts.length ≤ maxLen) :
    w.ownsRow base 9 1 (.slice (some ⟨g, 0, none⟩) ts.length ts.length) ts.length (ts.map Value.string) :=
  ⟨by simp, .inr ⟨g, ts.length, _, rfl, hb, hg, Nat.le_refl _, hn, by simp, by
    rw [Nat.mul_one]
    exact List.take_of_length_le (by simp)⟩⟩

set_option maxRecDepth 100000 in
set_option maxHeartbeats 1000000 in
theorem owner_list (pin : List (Nat × Obj)) (base b c : Nat) (x y z : Int) (s t : ByteArray) (w : World) (G : Good pin base b c w) (hc : c < 4294967296) :
    Calls Tryz.prog 32 #[.pointer (some ⟨b, 0, none⟩), opV 32 x y z s t] w fun e w' => Stepped pin base b (c + 1) w (.bool true) e w' := by
  obtain ⟨l, D, I⟩ := G
  have HB0 : Hid (Below w.heap.size w (bx w 32 x y z s t)) := bx_below w 32 x y z s t
  have hbs := I.bs
  have hln := I.nll
  have hrn := I.nrs
  obtain ⟨a6, k6, h6, _, _, fr⟩ := own_form I.reg.own
  have c6 := I.cell 6 _ (show (wcells D)[6]? = some D.reg from rfl)
  rw [h6] at c6
  have c7 := I.cell 7 _ (show (wcells D)[7]? = some D.ls from rfl)
  have hblt := I.lt
  have HC : Hid (∀ W, Below w.heap.size w W → Calls Tryz.prog 74 #[.slice a6 D.rs.length k6] W fun e w' => e = .returned (.slice (some ⟨W.heap.size, 0, none⟩) D.rs.length D.rs.length) ∧ w' = W.alloc (.cells (D.rs.map Value.string).toArray 9)) := fun W hW => by
    refine copied_calls a6 k6 D.rs (by omega) W fun h0 => ?_
    rcases fr with ⟨_, h, _⟩ | ⟨g, rfl⟩
    · omega
    · exact ⟨_, rfl, fun j v hv => (I.below hW).reg.own.cells (by rw [h6]; rfl) j v hv⟩
  obtain ⟨i0, hi0, hz0, hz1, hz2⟩ := info_parts info44
  have HI : Hid (∀ W, Below w.heap.size w W → ∀ l', (∀ k, k < w.heap.size → l' k = l k) → Inv pin base b c l' D W) := fun W hW l' hl => (I.relab l' hl).below hW
  clear I h6 fr
  unfold bx at HB0
  unfold opV
  go_enter Tryz.func32, Tryz.ntmps32
  go_wp2_with fail
  refine (HC.out _ HB0.out).mono ?_
  rintro e w1 ⟨rfl, hw1⟩
  have B1 : Below w.heap.size w w1 := by rw [hw1]; exact HB0.out.alloc HB0.out.size _
  have hs1 : w1.heap.size = w.heap.size + 2 := by rw [hw1]; simp
  have hq1 : w1.heap[w.heap.size + 1]? = some (.cells (D.rs.map Value.string).toArray 9 (0, 0)) := by
    rw [hw1]
    have := heap_alloc_new (w.alloc (.cells #[.int .i64 32, .int .i64 x, .int .i64 y, .int .i64 z, .string s, .string t] 38)) (.cells (D.rs.map Value.string).toArray 9)
    simpa using this
  have c6' := cell_below B1 c6
  have HB1 : Hid (Below w.heap.size w w1) := B1
  have HS1 : Hid (w1.heap.size = w.heap.size + 2) := hs1
  clear hw1 hs1 B1
  go_wp2_with fail
  refine (HC.out _ HB1.out).mono ?_
  rintro e w2 ⟨rfl, hw2⟩
  have B2 : Below w.heap.size w w2 := by rw [hw2]; exact HB1.out.alloc HB1.out.size _
  have hs2 : w2.heap.size = w.heap.size + 3 := by rw [hw2]; have := HS1.out; simp; omega
  have hq1' : w2.heap[w.heap.size + 1]? = some (.cells (D.rs.map Value.string).toArray 9 (0, 0)) := by
    rw [hw2, Below.heap_alloc _ _ _ (by have := HS1.out; omega)]; exact hq1
  have hq2 : w2.heap[w.heap.size + 2]? = some (.cells (D.rs.map Value.string).toArray 9 (0, 0)) := by
    rw [hw2, ← HS1.out]; exact heap_alloc_new _ _
  have c7' := cell_below B2 c7
  have I2 : Inv pin base b c (fun k => if k = w.heap.size + 1 then 9 + 3 * D.ll.length else if k = w.heap.size + 2 then 10 + 3 * D.ll.length else l k) D w2 := HI.out w2 B2 _ (fun k hk => by
    rw [if_neg (by omega), if_neg (by omega)])
  have R1 : Row base (fun k => if k = w.heap.size + 1 then 9 + 3 * D.ll.length else if k = w.heap.size + 2 then 10 + 3 * D.ll.length else l k) (9 + 3 * D.ll.length) w2 9 1 (.slice (some ⟨w.heap.size + 1, 0, none⟩) D.rs.length D.rs.length) D.rs.length (D.rs.map Value.string) :=
    ⟨own_whole w2 base _ D.rs hq1' (by omega) (by unfold maxLen; omega), fun g hg => by simp [Value.ownBlock] at hg; subst hg; simp⟩
  have R2 : Row base (fun k => if k = w.heap.size + 1 then 9 + 3 * D.ll.length else if k = w.heap.size + 2 then 10 + 3 * D.ll.length else l k) (10 + 3 * D.ll.length) w2 9 1 (.slice (some ⟨w.heap.size + 2, 0, none⟩) D.rs.length D.rs.length) D.rs.length (D.rs.map Value.string) :=
    ⟨own_whole w2 base _ D.rs hq2 (by omega) (by unfold maxLen; omega), fun g hg => by simp [Value.ownBlock] at hg; subst hg; simp⟩
  generalize (fun k => if k = w.heap.size + 1 then 9 + 3 * D.ll.length else if k = w.heap.size + 2 then 10 + 3 * D.ll.length else l k) = l2 at *
  have HI1 : Hid (Inv pin base b c l2 D w2) := I2
  have HR1 : Hid (Row base l2 (9 + 3 * D.ll.length) w2 9 1 (.slice (some ⟨w.heap.size + 1, 0, none⟩) D.rs.length D.rs.length) D.rs.length (D.rs.map Value.string)) := R1
  have HR2 : Hid (Row base l2 (10 + 3 * D.ll.length) w2 9 1 (.slice (some ⟨w.heap.size + 2, 0, none⟩) D.rs.length D.rs.length) D.rs.length (D.rs.map Value.string)) := R2
  have HB2 : Hid (Below w.heap.size w w2) := B2
  have HS2 : Hid (w2.heap.size = w.heap.size + 3) := hs2
  have hs1' := HS1.out
  rw [hs1']
  have hb2 : base ≤ w2.heap.size := by omega
  have hblt2 : b < w2.heap.size := by omega
  clear hw2 hs2 B2 I2 R1 R2 hq1 hq1' hq2 c6 c6' c7 HC HI hs1'
  go_wp2_with (at_builtin; refine wpList_append_lies _ rfl (.tmp 59) (.tmp 61) 45 rfl base 44 i0 (.slice none 0 0) 1 24 Tryz.underlying45 hi0 hz0 hz1 hz2 rfl (by decide) D.ls D.ll.length (D.ll.map fun p => p.1) rfl (HI1.out.ls.own.alloc _) ⟨w2.heap.size, 0, none⟩ 1 1 [_] rfl rfl (cell_one_new _ _ _) ?c2 (by omega) ?c3 ?c4 ?c5 _ rfl ?c6)
  case c2 => intro v hv; simp at hv; subst hv; rfl
  case c3 => unfold maxLen; omega
  case c4 => omega
  case c5 => simp; omega
  intro g1 cap1 w3 hown1 hgr1 hat1 hlt1
  have HLA := HI1.out.listAdded D.rs _ _ HR1.out HR2.out hrn (.cells #[.slice (some ⟨w.heap.size + 1, 0, none⟩) D.rs.length D.rs.length] 44) w3 g1 cap1 hown1 hgr1 (by simpa using hat1)
  obtain ⟨hw1, hsz1, hd1, hlw1, hnext⟩ := HLA
  have c7' : w3.cell? ⟨b, 7, none⟩ = some D.ls := by rw [cell_of_row w3 b 7 _ _ _ hw1]; rfl
  have f7' : w3.frozen? ⟨b, 7, none⟩ = false := frozen_of_row w3 b 7 _ _ hw1
  obtain ⟨W1, hW1⟩ : ∃ W1, W1 = w3.setCell ⟨b, 7, none⟩ (.slice (some ⟨g1, 0, none⟩) (D.ll.length + 1) cap1) := ⟨_, rfl⟩
  have c8 : W1.cell? ⟨b, 8, none⟩ = some D.lw := by rw [hW1, cell_of_row _ b 8 _ _ _ hd1]; rfl
  go_upto_region 16 with fail
  rw [← hW1] at hsz1 hd1 hlw1 hnext ⊢
  have hbW : b < W1.heap.size := (Array.getElem?_eq_some_iff.1 hd1).1
  have HN : Hid (∀ (o2 : Obj) (w2' : World) (g2 cap2 : Nat), w2'.ownsRow base 44 1 (.slice (some ⟨g2, 0, none⟩) (D.ll.length + 1) cap2) (D.ll.length + 1) (D.ll.map (fun p => p.2.1) ++ [.slice (some ⟨w.heap.size + 2, 0, none⟩) D.rs.length D.rs.length]) →
      (W1.alloc o2).grownBy w2' D.lw.ownBlock → (D.lw.ownBlock = some g2 ∨ g2 = W1.heap.size + 1) →
      Good pin base b (c + 1) (w2'.setCell ⟨b, 8, none⟩ (.slice (some ⟨g2, 0, none⟩) (D.ll.length + 1) cap2)) ∧ Below base _ (w2'.setCell ⟨b, 8, none⟩ (.slice (some ⟨g2, 0, none⟩) (D.ll.length + 1) cap2)) ∧
      w2'.heap[b]? = some (.cells ((wcells D).setIfInBounds 7 (.slice (some ⟨g1, 0, none⟩) (D.ll.length + 1) cap1)) 48 (0, 0))) := hnext
  clear hnext hW1 hd1 hw1 hown1 hgr1 hat1 hlt1
  go_wp2_with (at_builtin; refine wpList_append_lies _ rfl (.tmp 69) (.tmp 71) 45 rfl base 44 i0 (.slice none 0 0) 1 24 Tryz.underlying45 hi0 hz0 hz1 hz2 rfl (by decide) D.lw D.ll.length (D.ll.map fun p => p.2.1) rfl (hlw1.alloc _) ⟨W1.heap.size, 0, none⟩ 1 1 [_] rfl rfl (cell_one_new _ _ _) ?d2 (by omega) ?d3 ?d4 ?d5 _ rfl ?d6)
  case d2 => intro v hv; simp at hv; subst hv; rfl
  case d3 => unfold maxLen; omega
  case d4 => omega
  case d5 => simp; omega
  intro g2 cap2 w4 hown2 hgr2 hat2 hlt2
  obtain ⟨G2, B2, hw2⟩ := HN.out _ w4 g2 cap2 hown2 hgr2 (by simpa using hat2)
  have c8' : w4.cell? ⟨b, 8, none⟩ = some D.lw := by rw [cell_of_row w4 b 8 _ _ _ hw2]; rfl
  have f8' : w4.frozen? ⟨b, 8, none⟩ = false := frozen_of_row w4 b 8 _ _ hw2
  have HF : Hid (Good pin base b (c + 1) (w4.setCell ⟨b, 8, none⟩ (.slice (some ⟨g2, 0, none⟩) (D.ll.length + 1) cap2)) ∧ Below base w (w4.setCell ⟨b, 8, none⟩ (.slice (some ⟨g2, 0, none⟩) (D.ll.length + 1) cap2))) := ⟨G2, (HB2.out.mono hbs).trans B2⟩
  clear G2 B2 hw2 hown2 hgr2 hat2
  go_wp2_with fail
  go_ret
  exact ⟨rfl, HF.out⟩
end Go.Proofs.YtenmjjpkbcogbaaGreatDoor
