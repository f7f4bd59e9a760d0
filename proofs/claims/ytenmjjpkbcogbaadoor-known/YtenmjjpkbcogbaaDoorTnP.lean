import Derived.Test.YtenmjjpkbcogbaaDoorTc
import Derived.Test.YtenmjjpkbcogbaaDoorTa

/- TnP -/
namespace Go.Proofs.YtenmjjpkbcogbaaDoor
open Go.RowKit

set_option maxRecDepth 100000 in
set_option maxHeartbeats 1000000 in
theorem split_a (w : World) (t : Nd) (path v : List UInt8) (s : Nat) (S : Nat → Prop) (u : Option Addr) (hk : t.kind = 1 ∨ t.kind = 2) (hn : Nibs path) (hl : path.length ≤ 80) (hv : v.length ≤ 160) (hF : Fine t) (hA : At w t S (.pointer u)) (T : Tabs w)
    (hs1 : s < t.path.length) (hs2 : s = path.length) (hq : Nibs t.path) (hql : t.path.length ≤ 80) :
    Calls Tryd.prog 58 #[.pointer u, .string (str path), .string (str v), .int .i64 (s : Int)] w (Made w S (splitP t path v s)) := by
  obtain ⟨b, kid, kids, hu, hs, B⟩ := hA.blk (by cases t <;> first | trivial | (rcases hk with h | h <;> cases h))
  cases hu
  have c2 : w.cell? ⟨b, 2, none⟩ = some (.string (str t.path)) := B.c2
  have c3 : w.cell? ⟨b, 3, none⟩ = some (.string (str t.value)) := B.c3
  have hlt := B.lt
  have hP80 : (str t.path).size ≤ 80 := by rw [str_size]; exact hql
  have hQ80 : (str path).size ≤ 80 := by rw [str_size]; exact hl
  have hP : s < (str t.path).size := by rw [str_size]; exact hs1
  have hPI : (s : Int) < ((str t.path).size : Int) := by omega
  have hP1 : s + 1 ≤ (str t.path).size := by omega
  have hP1I : (s : Int) + 1 ≤ ((str t.path).size : Int) := by omega
  have a1 := str_at t.path s hP
  have b1 := and15_nib _ (nibs_at hq s)
  have l1 := nibs_at hq s
  have HT : Hid (∀ W, Below w.heap.size w W → Calls Tryd.prog 65 #[.pointer (some ⟨b, 0, none⟩), .string ((str t.path).extract (s + 1) (str t.path).size)] W (Made W (fun x => S x ∧ x < w.heap.size) (tailP t (t.path.drop (s + 1))))) := fun W hW => by
    rw [str_drop]
    exact tail_calls W t _ _ _ hk (nibs_drop hq _) (by rw [List.length_drop]; omega) hF (hA.cut.below hW) (T.below hW)
  have hQI : ¬ (s : Int) < ((str path).size : Int) := by rw [str_size]; omega
  have hs0 : s ≤ (str path).size := by rw [str_size]; omega
  have hs81 : s ≤ 80 := by omega
  have r1 : IntKind.i64.wrap ((s : Int) + 1) = (s : Int) + 1 := by rw [IntKind.wrap_i64]; omega
  have r2 : ((s : Int) + 1).toNat = s + 1 := by omega
  have r3 : (0 : Int) ≤ (s : Int) + 1 := by omega
  have r4 : ¬ ((s : Int) + 1 < 0) := by omega
  have hs0I : (s : Int) ≤ ((str path).size : Int) := by omega
  have HO : Hid (splitO t path v s = v) := by show _ = _; unfold splitO; rw [if_neg (by omega)]
  have HSA : Hid (splitA t s = updK (fun _ => .nil) (t.path.getD s 0).toNat (tailP t (t.path.drop (s + 1)))) := by show _ = _; unfold splitA; rw [if_pos hs1]
  have HSK : Hid (splitK t path v s = splitA t s) := by show _ = _; unfold splitK; rw [if_neg (by omega)]
  have hFK := fine_splitK (s := s) hk hn hl hv hF hq hql
  have hFO := splitO_len (path := path) (s := s) hv hF
  have HB : Hid (∀ W u Ss, Kids W (splitK t path v s) (fun x => (S x ∨ w.heap.size ≤ x) ∧ x ≠ w.heap.size) u Ss → Below w.heap.size w W → Calls Tryd.prog 64 #[kidsV u, .string (str (splitO t path v s))] W (Made w S (mkBranch (splitK t path v s) (splitO t path v s)))) := fun W u Ss hK hW =>
    (newBranch_calls W _ _ _ u Ss hK ⟨.inl rfl, hFO, fun i hi => (hFK i).sane⟩ (codable_branch _ _ _ hFO fun i _ => hFK i) (T.below hW)).mono fun e w' h => by
      obtain ⟨u1, h1, h2, h3⟩ := h
      exact ⟨u1, h1, h2.mono fun x hx => hx.elim (fun h => h.1) (fun h => .inr (Nat.le_trans hW.size h)), hW.trans (h3.mono hW.size)⟩
  have HJ : Hid (∀ W u, At W (mkBranch (splitK t path v s) (splitO t path v s)) (fun x => S x ∨ w.heap.size ≤ x) (.pointer u) → Below w.heap.size w W → Calls Tryd.prog 66 #[.string ((str path).extract 0 s), .pointer u] W (Made w S (splitP t path v s))) := fun W u hK hW => by
    rw [str_take]
    refine (join_calls W (path.take s) (mkBranch (splitK t path v s) (splitO t path v s)) _ u (nibs_take hn s) (by show (path.take s).length + 0 ≤ 80; rw [List.length_take]; omega) trivial (fine_branch hFO fun i _ => hFK i) hK (T.below hW)).mono fun e w' h => ?_
    obtain ⟨u1, h1, h2, h3⟩ := h
    exact ⟨u1, h1, h2.mono fun x hx => hx.elim id (fun h => .inr (Nat.le_trans hW.size h)), hW.trans (h3.mono hW.size)⟩
  have harr : Arr (w.alloc (.cells #[.pointer none, .pointer none, .pointer none, .pointer none, .pointer none, .pointer none, .pointer none, .pointer none, .pointer none, .pointer none, .pointer none, .pointer none, .pointer none, .pointer none, .pointer none, .pointer none] 77)) w.heap.size (fun _ => none) := Arr.made w (fun _ => none)
  have hb0 : Below w.heap.size w (w.alloc (.cells #[.pointer none, .pointer none, .pointer none, .pointer none, .pointer none, .pointer none, .pointer none, .pointer none, .pointer none, .pointer none, .pointer none, .pointer none, .pointer none, .pointer none, .pointer none, .pointer none] 77)) := (Below.refl _ _).alloc (Nat.le_refl _) _
  obtain ⟨W0, hW0⟩ : ∃ W0, W0 = w.alloc (.cells #[.pointer none, .pointer none, .pointer none, .pointer none, .pointer none, .pointer none, .pointer none, .pointer none, .pointer none, .pointer none, .pointer none, .pointer none, .pointer none, .pointer none, .pointer none, .pointer none] 77) := ⟨_, rfl⟩
  have hz0 : W0.heap.size = w.heap.size + 1 := by rw [hW0]; simp
  rw [← hW0] at harr hb0
  have HZ : Hid (W0.heap.size = w.heap.size + 1) := hz0
  have HA0 : Hid (Arr W0 w.heap.size (fun _ => none)) := harr
  have HB0 : Hid (Below w.heap.size w W0) := hb0
  have HW0 : Hid (W0 = w.alloc (.cells #[.pointer none, .pointer none, .pointer none, .pointer none, .pointer none, .pointer none, .pointer none, .pointer none, .pointer none, .pointer none, .pointer none, .pointer none, .pointer none, .pointer none, .pointer none, .pointer none] 77)) := hW0
  clear B hFK hFO hF hA T hk hn hq hv harr hb0 hz0 hW0 hs1 hs2 hl hql
  generalize splitP t path v s = R at *
  generalize mkBranch (splitK t path v s) (splitO t path v s) = RB at *
  generalize hq0 : t.path.getD s 0 = q0 at *
  go_enter Tryd.func58, Tryd.ntmps58
  have d2 := (HB0.out.cell (p := ⟨b, 2, none⟩) hlt).trans c2
  go_upto_region 4 with fail
  rw [← HW0.out]
  go_cut [] (fun wx => ∃ x1, Arr wx w.heap.size (updU (fun _ => none) q0.toNat x1) ∧ At wx (tailP t (t.path.drop (s + 1))) (fun x => (S x ∨ w.heap.size ≤ x) ∧ x ≠ w.heap.size) (.pointer x1) ∧ Below w.heap.size w wx)
  case first =>
    go_region_with (go_at_call 65; refine (HT.out _ (by first | exact HB0.out | exact HB0.out.drew)).mono ?_; rintro e1 w1 ⟨x1, rfl, hA1, hB1⟩; have ca : w1.cell? ⟨w.heap.size, q0.toNat, none⟩ = some (.pointer none) := (hB1.cell (p := ⟨w.heap.size, q0.toNat, none⟩) (show w.heap.size < W0.heap.size by rw [HZ.out]; omega)).trans (HA0.out.cell _ l1); have fa : w1.frozen? ⟨w.heap.size, q0.toNat, none⟩ = false := (hB1.frozen (p := ⟨w.heap.size, q0.toNat, none⟩) (show w.heap.size < W0.heap.size by rw [HZ.out]; omega)).trans (HA0.out.free _); have cb : w1.cell? ⟨b, 2, none⟩ = some (.string (str t.path)) := (hB1.cell (p := ⟨b, 2, none⟩) (show b < W0.heap.size by rw [HZ.out]; omega)).trans d2; have HF1 : Hid (At w1 (tailP t (t.path.drop (s + 1))) (fun x => (S x ∨ w.heap.size ≤ x) ∧ x ≠ w.heap.size) (.pointer x1) ∧ Arr w1 w.heap.size (fun _ => none) ∧ Below w.heap.size w w1) := ⟨hA1.mono (fun x hx => hx.elim (fun h => ⟨.inl h.1, by omega⟩) (fun h => by have h2 : W0.heap.size ≤ x := h; rw [HZ.out] at h2; exact ⟨.inr (by omega), by omega⟩)), HA0.out.kept (hB1.block _ (show w.heap.size < W0.heap.size by rw [HZ.out]; omega)), HB0.out.drew.trans (hB1.mono HB0.out.size)⟩; clear hA1 hB1)
    all_goals
      go_wp2_with fail
      go_meet
      obtain ⟨g1, g2, g3⟩ := HF1.out
      exact ⟨x1, g2.set q0.toNat x1 l1, g1.kept (fun x hx _ => heap_setCell_other _ _ _ _ hx.2), g3.setCell (Nat.le_refl _) _⟩
  case rest =>
    obtain ⟨x1, hAr, hAt, hBel⟩ := hcut
    have hK1 := (Kids.put (Kids.none wc (fun x => (S x ∨ w.heap.size ≤ x) ∧ x ≠ w.heap.size)) (fun _ _ _ => rfl) q0.toNat _ x1 _ hAt (fun y hy => ⟨hy, fun _ _ _ h => h⟩)).cut
    rw [← HSA.out] at hK1
    have HAr : Hid (∃ U1 Ss1, Arr wc w.heap.size U1 ∧ Kids wc (splitA t s) (fun x => (S x ∨ w.heap.size ≤ x) ∧ x ≠ w.heap.size) U1 Ss1 ∧ ∀ i y, Ss1 i y → y < wc.heap.size) := ⟨_, _, hAr, hK1, fun i y hy => hy.2⟩
    have HBe : Hid (Below w.heap.size w wc) := hBel
    have hz : w.heap.size < wc.heap.size := hAr.lt
    clear hAr hAt hBel hK1 HA0 HB0 HW0 HZ d2
    obtain ⟨U2, Ss2, hAr2, hKa, _⟩ := HAr.out
    have hK2 : Kids wc (splitK t path v s) (fun x => (S x ∨ w.heap.size ≤ x) ∧ x ≠ w.heap.size) U2 Ss2 := by rw [HSK.out]; exact hKa
    have hBel2 : Below w.heap.size w wc := HBe.out
    clear hKa HAr HBe
    obtain ⟨k0, k1, k2, k3, k4, k5, k6, k7, k8, k9, k10, k11, k12, k13, k14, k15⟩ := hAr2.all
    have HBB : Hid (∀ W, Below w.heap.size w W → (∀ x, x < wc.heap.size → W.heap[x]? = wc.heap[x]?) → Calls Tryd.prog 64 #[kidsV U2, .string (str v)] W (Made w S RB)) := fun W hW hk => by
      have := HB.out W U2 Ss2 (hK2.kept fun x _ hl => hk x hl) hW
      rw [HO.out] at this; exact this
    have HBe2 : Hid (Below w.heap.size w wc) := hBel2
    unfold kidsV at HBB
    clear hAr2 hK2 hBel2 HB HSA HSK HO
    go_wp2_with fail
    go_region_with (first | (go_at_call 64; refine (HBB.out wc.drew HBe2.out.drew (fun x _ => rfl)).mono ?_; rintro e1 w1 ⟨ub, rfl, hAb, hBb⟩; have HJ1 : Hid (At w1 RB (fun x => S x ∨ w.heap.size ≤ x) (.pointer ub) ∧ Below w.heap.size w w1) := ⟨hAb, hBb⟩; clear hAb hBb) | (go_at_call 66; refine (HJ.out _ _ HJ1.out.1 HJ1.out.2).mono ?_; rintro e2 w2 ⟨uj, rfl, hAj⟩; have HF3 : Hid _ := hAj; clear hAj))
    all_goals
      go_wp2_with fail
      go_ret
      exact ⟨uj, rfl, HF3.out⟩

end Go.Proofs.YtenmjjpkbcogbaaDoor
