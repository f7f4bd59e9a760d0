import Derived.Test.YtenmjjpkbcogbaaDoorTc
import Derived.Test.YtenmjjpkbcogbaaDoorTa

/- TnQ -/
namespace Go.Proofs.YtenmjjpkbcogbaaDoor
open Go.RowKit

set_option maxRecDepth 100000 in
set_option maxHeartbeats 1000000 in
theorem split_c (w : World) (t : Nd) (path v : List UInt8) (s : Nat) (S : Nat → Prop) (u : Option Addr) (hk : t.kind = 1 ∨ t.kind = 2) (hn : Nibs path) (hl : path.length ≤ 80) (hv : v.length ≤ 160) (hF : Fine t) (hA : At w t S (.pointer u)) (T : Tabs w)
    (hs1 : s = t.path.length) (hs2 : s < path.length) (hq : Nibs t.path) (hql : t.path.length ≤ 80) :
    Calls Tryd.prog 58 #[.pointer u, .string (str path), .string (str v), .int .i64 (s : Int)] w (Made w S (splitP t path v s)) := by
  obtain ⟨b, kid, kids, hu, hs, B⟩ := hA.blk (by cases t <;> first | trivial | (rcases hk with h | h <;> cases h))
  cases hu
  have c2 : w.cell? ⟨b, 2, none⟩ = some (.string (str t.path)) := B.c2
  have c3 : w.cell? ⟨b, 3, none⟩ = some (.string (str t.value)) := B.c3
  have hlt := B.lt
  have hP80 : (str t.path).size ≤ 80 := by rw [str_size]; exact hql
  have hQ80 : (str path).size ≤ 80 := by rw [str_size]; exact hl
  have hPI : ¬ (s : Int) < ((str t.path).size : Int) := by rw [str_size]; omega
  have hQ : s < (str path).size := by rw [str_size]; exact hs2
  have hQI : (s : Int) < ((str path).size : Int) := by omega
  have hQ1 : s + 1 ≤ (str path).size := by omega
  have hQ1I : (s : Int) + 1 ≤ ((str path).size : Int) := by omega
  have a2 := str_at path s hQ
  have b2 := and15_nib _ (nibs_at hn s)
  have l2 := nibs_at hn s
  have HL : Hid (∀ W, Below w.heap.size w W → Calls Tryd.prog 54 #[.string ((str path).extract (s + 1) (str path).size), .string (str v)] W (Made W (fun _ => False) (mkLeaf (path.drop (s + 1)) v))) := fun W hW => by
    rw [str_drop]
    have hdl : (path.drop (s + 1)).length ≤ 80 := by rw [List.length_drop]; omega
    exact newLeaf_calls W _ _ ⟨.inl rfl, nibs_drop hn _, hdl, hv⟩ (codable_leaf _ _ _ hdl hv) (T.below hW)
  have hs0 : s ≤ (str path).size := by rw [str_size]; omega
  have hs81 : s ≤ 80 := by omega
  have r1 : IntKind.i64.wrap ((s : Int) + 1) = (s : Int) + 1 := by rw [IntKind.wrap_i64]; omega
  have r2 : ((s : Int) + 1).toNat = s + 1 := by omega
  have r3 : (0 : Int) ≤ (s : Int) + 1 := by omega
  have r4 : ¬ ((s : Int) + 1 < 0) := by omega
  have hs0I : (s : Int) ≤ ((str path).size : Int) := by omega
  have HO : Hid (splitO t path v s = t.value) := by show _ = _; unfold splitO; rw [if_pos hs2, if_neg (by omega)]
  have HSA : Hid (splitA t s = fun _ => .nil) := by show _ = _; unfold splitA; rw [if_neg (by omega)]
  have HSK : Hid (splitK t path v s = updK (splitA t s) (path.getD s 0).toNat (mkLeaf (path.drop (s + 1)) v)) := by show _ = _; unfold splitK; rw [if_pos hs2]
  have hFK := fine_splitK (s := s) hk hn hl hv hF hq hql
  have hFO := splitO_len (path := path) (s := s) hv hF
  have HB : Hid (∀ W u Ss, Kids W (splitK t path v s) (fun x => (S x ∨ w.heap.size ≤ x) ∧ x ≠ w.heap.size) u Ss → Below w.heap.size w W → Calls Tryd.prog 64 #[kidsV u, .string (str (splitO t path v s))] W (Made w S (mkBranch (splitK t path v s) (splitO t path v s)))) := fun W u Ss hK hW =>
    (newBranch_calls W _ _ _ u Ss hK ⟨.inl rfl, hFO, fun i hi => (hFK i).sane⟩ (codable_branch _ _ _ hFO fun i _ => hFK i) (T.below hW)).mono fun e w' h => by
      obtain ⟨u1, h1, h2, h3⟩ := h
      exact ⟨u1, h1, h2.mono fun x hx => hx.elim (fun h => h.1) (fun h => .inr (Nat.le_trans hW.size h)), hW.trans (h3.mono hW.size)⟩
  have HJ : Hid (∀ W u, At W (mkBranch (splitK t path v s) (splitO t path v s)) (fun x => S x ∨ w.heap.size ≤ x) (.pointer u) → Below w.heap.size w W → Calls Tryd.prog 66 #[.string ((str path).extract 0 s), .pointer u] W (Made w S (splitP t path v s))) := fun W u hK hW => by
    rw [str_take]
    refine (join_calls W (path.take s) (mkBranch (splitK t path v s) (splitO t path v s)) _ u (nibs_take hn s) (by show (path.take s).length + 0 ≤ 80; rw [List.length_take]; omega) trivial (fine_branch hFO fun i _ => hFK i) hK (T.below hW)).mono fun e w' h => ?_
    obtain ⟨u1, h1, h2, h3⟩ := h
    exact ⟨u1, h1, h2.mono fun x hx => hx.elim id (fun h => .inr (Nat.le_trans hW.size h)), hW.trans (h3.mono hW.size)⟩
  have harr : Arr (w.alloc (.cells #[.pointer none, .pointer none, .pointer none, .pointer none, .pointer none, .pointer none, .pointer none, .pointer none, .pointer none, .pointer none, .pointer none, .pointer none, .pointer none, .pointer none, .pointer none, .pointer none] 77)) w.heap.size (fun _ => none) := Arr.made w (fun _ => none)
  have hb0 : Below w.heap.size w (w.alloc (.cells #[.pointer none, .pointer none, .pointer none, .pointer none, .pointer none, .pointer none, .pointer none, .pointer none, .pointer none, .pointer none, .pointer none, .pointer none, .pointer none, .pointer none, .pointer none, .pointer none] 77)) := (Below.refl _ _).alloc (Nat.le_refl _) _
  obtain ⟨W0, hW0⟩ : ∃ W0, W0 = w.alloc (.cells #[.pointer none, .pointer none, .pointer none, .pointer none, .pointer none, .pointer none, .pointer none, .pointer none, .pointer none, .pointer none, .pointer none, .pointer none, .pointer none, .pointer none, .pointer none, .pointer none] 77) := ⟨_, rfl⟩
  have hz0 : W0.heap.size = w.heap.size + 1 := by rw [hW0]; simp
  rw [← hW0] at harr hb0
  have HZ : Hid (W0.heap.size = w.heap.size + 1) := hz0
  have HA0 : Hid (Arr W0 w.heap.size (fun _ => none)) := harr
  have HB0 : Hid (Below w.heap.size w W0) := hb0
  have HW0 : Hid (W0 = w.alloc (.cells #[.pointer none, .pointer none, .pointer none, .pointer none, .pointer none, .pointer none, .pointer none, .pointer none, .pointer none, .pointer none, .pointer none, .pointer none, .pointer none, .pointer none, .pointer none, .pointer none] 77)) := hW0
  clear B hFK hFO hF hA T hk hn hq hv harr hb0 hz0 hW0 hs1 hs2 hl hql
  generalize splitP t path v s = R at *
  generalize mkBranch (splitK t path v s) (splitO t path v s) = RB at *
  generalize hp0 : path.getD s 0 = p0 at *
  go_enter Tryd.func58, Tryd.ntmps58
  have HAr : Hid (∃ U1 Ss1, Arr W0 w.heap.size U1 ∧ Kids W0 (splitA t s) (fun x => (S x ∨ w.heap.size ≤ x) ∧ x ≠ w.heap.size) U1 Ss1 ∧ ∀ i y, Ss1 i y → y < W0.heap.size) := ⟨_, fun _ _ => False, HA0.out, by rw [HSA.out]; exact Kids.none _ _, fun _ _ h => False.elim h⟩
  have HBe : Hid (Below w.heap.size w W0) := HB0.out
  have hz : w.heap.size < W0.heap.size := HA0.out.lt
  obtain ⟨U1, Ss1, hAr, hKi, hSs⟩ := HAr.out
  have HA1 : Hid (Arr W0 w.heap.size U1) := hAr
  have HK1 : Hid (Kids W0 (splitA t s) (fun x => (S x ∨ w.heap.size ≤ x) ∧ x ≠ w.heap.size) U1 Ss1) := hKi
  have HS1 : Hid (∀ i y, Ss1 i y → y < W0.heap.size) := hSs
  clear hAr hKi hSs HAr
  go_upto_region 7 with fail
  rw [← HW0.out]
  go_cut [] (fun wx => ∃ U2 Ss2, Arr wx w.heap.size U2 ∧ Kids wx (splitK t path v s) (fun x => (S x ∨ w.heap.size ≤ x) ∧ x ≠ w.heap.size) U2 Ss2 ∧ Below w.heap.size w wx)
  case first =>
    go_region_with (go_at_call 54; refine (HL.out _ (by first | exact HBe.out | exact HBe.out.drew)).mono ?_; rintro e1 w1 ⟨x2, rfl, hA2, hB2⟩; have ca : w1.cell? ⟨w.heap.size, p0.toNat, none⟩ = some (.pointer (U1 p0.toNat)) := (hB2.cell (p := ⟨w.heap.size, p0.toNat, none⟩) hz).trans (HA1.out.cell _ l2); have fa : w1.frozen? ⟨w.heap.size, p0.toNat, none⟩ = false := (hB2.frozen (p := ⟨w.heap.size, p0.toNat, none⟩) hz).trans (HA1.out.free _); have HF2 : Hid (At w1 (mkLeaf (path.drop (s + 1)) v) (fun x => W0.heap.size ≤ x) (.pointer x2) ∧ Arr w1 w.heap.size U1 ∧ Kids w1 (splitA t s) (fun x => (S x ∨ w.heap.size ≤ x) ∧ x ≠ w.heap.size) U1 Ss1 ∧ Below w.heap.size w w1) := ⟨hA2.mono (fun x hx => hx.elim (fun h => h.elim) id), HA1.out.kept (hB2.block _ hz), ⟨fun i hi => (HK1.out.at_ i hi).kept (fun x hx hl => hB2.block x hl), HK1.out.sub, HK1.out.dis⟩, HBe.out.drew.trans (hB2.mono HBe.out.size)⟩; clear hA2 hB2)
    all_goals
      go_wp2_with fail
      go_meet
      obtain ⟨g1, g2, g3, g4⟩ := HF2.out
      refine ⟨updU U1 p0.toNat x2, updS Ss1 p0.toNat (fun x => W0.heap.size ≤ x), g2.set p0.toNat x2 l2, ?_, g4.setCell (Nat.le_refl _) _⟩
      rw [HSK.out]
      exact g3.put (fun x hx _ => heap_setCell_other _ _ _ _ hx.2) p0.toNat _ x2 _ (g1.kept fun x hx _ => heap_setCell_other _ _ _ _ (show x ≠ w.heap.size by omega)) (fun y hy => ⟨⟨.inr (by omega), by omega⟩, fun i _ _ h => by have := HS1.out i y h; omega⟩)
  case rest =>
    obtain ⟨U2, Ss2, hAr2, hK2, hBel2⟩ := hcut
    obtain ⟨k0, k1, k2, k3, k4, k5, k6, k7, k8, k9, k10, k11, k12, k13, k14, k15⟩ := hAr2.all
    have HBB : Hid (∀ W, Below w.heap.size w W → (∀ x, x < wc.heap.size → W.heap[x]? = wc.heap[x]?) → Calls Tryd.prog 64 #[kidsV U2, .string (str t.value)] W (Made w S RB)) := fun W hW hk => by
      have := HB.out W U2 Ss2 (hK2.kept fun x _ hl => hk x hl) hW
      rw [HO.out] at this; exact this
    have HBe2 : Hid (Below w.heap.size w wc) := hBel2
    unfold kidsV at HBB
    clear hAr2 hK2 hBel2 HB HSA HSK HO
    go_wp2_with fail
    go_region_with (first | (go_at_call 64; refine (HBB.out wc.drew HBe2.out.drew (fun x _ => rfl)).mono ?_; rintro e1 w1 ⟨ub, rfl, hAb, hBb⟩; have HJ1 : Hid (At w1 RB (fun x => S x ∨ w.heap.size ≤ x) (.pointer ub) ∧ Below w.heap.size w w1) := ⟨hAb, hBb⟩; clear hAb hBb) | (go_at_call 66; refine (HJ.out _ _ HJ1.out.1 HJ1.out.2).mono ?_; rintro e2 w2 ⟨uj, rfl, hAj⟩; have HF3 : Hid _ := hAj; clear hAj))
    all_goals
      go_wp2_with fail
      go_ret
      exact ⟨uj, rfl, HF3.out⟩

end Go.Proofs.YtenmjjpkbcogbaaDoor
