import Derived.Test.YtenmjjpkbcogbaaDoorTd

/- TnU -/
namespace Go.Proofs.YtenmjjpkbcogbaaDoor
open Go.RowKit

set_option maxRecDepth 100000 in
set_option maxHeartbeats 400000 in
theorem bw_in (h x : List UInt8) (ks : Nat → Nd) (c : UInt8) (r : List UInt8) (ih : WithSaid (ks c.toNat)) (w : World) (S : Nat → Prop) (u : Option Addr) (v : List UInt8) (hA : At w (.branch h x ks) S (.pointer u)) (hF : Fine (.branch h x ks)) (ho : Opened (ks c.toNat) r) (hn : Nibs (c :: r)) (hl : (c :: r).length ≤ 80) (hv : v.length ≤ 160) (T : Tabs w) :
    Calls Tryd.prog 55 #[.pointer u, .string (str (c :: r)), .string (str v)] w (Made w S (mkBranch (updK ks c.toNat (withP (ks c.toNat) r v)) x)) := by
  obtain ⟨b, U, Ss, hu, hs, B, hK⟩ := hA.kids
  cases hu
  have hc : c.toNat < 16 := hn c (List.mem_cons_self ..)
  have hnr : Nibs r := fun y hy => hn y (List.mem_cons_of_mem _ hy)
  have hlr : r.length ≤ 79 := by simp at hl; omega
  have hKc := hK.cut
  have c3 : w.cell? ⟨b, 3, none⟩ = some (.string (str x)) := B.c3
  have hlt := B.lt
  have HW : Hid (∀ W, Below w.heap.size w W → Calls Tryd.prog 43 #[.pointer (U c.toNat), .string (str r), .string (str v)] W (Made W (fun x => Ss c.toNat x ∧ x < w.heap.size) (withP (ks c.toNat) r v))) := fun W hW =>
    ih W _ _ r v ((hKc.at_ c.toNat hc).below hW) (hF.2.2 _ hc) ho hnr (by omega) hv (T.below hW)
  have hFk : ∀ i, i < 16 → Fine (updK ks c.toNat (withP (ks c.toNat) r v) i) := fun i hi => by
    unfold updK
    split
    · exact fine_with (hF.2.2 _ hc) ho hnr (by omega) hv
    · exact hF.2.2 i hi
  have HB : Hid (∀ W U2 Ss2, Kids W (updK ks c.toNat (withP (ks c.toNat) r v)) (fun x => S x ∨ w.heap.size ≤ x) U2 Ss2 → Below w.heap.size w W → Calls Tryd.prog 64 #[kidsV U2, .string (str x)] W (Made w S (mkBranch (updK ks c.toNat (withP (ks c.toNat) r v)) x))) := fun W U2 Ss2 hK2 hW =>
    (newBranch_calls W x _ _ U2 Ss2 hK2 ⟨.inl rfl, hF.2.1, fun i hi => (hFk i hi).sane⟩ (codable_branch _ _ _ hF.2.1 hFk) (T.below hW)).mono fun e w' h => by
      obtain ⟨u1, e1, e2, e3⟩ := h
      exact ⟨u1, e1, e2.mono fun x hx => hx.elim id (fun h => .inr (Nat.le_trans hW.size h)), hW.trans (e3.mono hW.size)⟩
  obtain ⟨k0, k1, k2, k3, k4, k5, k6, k7, k8, k9, k10, k11, k12, k13, k14, k15⟩ := B.all
  have hck : w.cell? ⟨b, 5 + c.toNat, none⟩ = some (.pointer (U c.toNat)) := B.ck _ hc
  obtain ⟨R0, hR⟩ : ∃ R, R = str (c :: r) := ⟨_, rfl⟩
  have hsz : R0.size = r.length + 1 := by rw [hR, str_size]; rfl
  have hp : 0 < R0.size := by omega
  have h0 : R0[0]'hp = c := by subst hR; rfl
  have hx : R0.extract 1 R0.size = str r := by
    subst hR
    apply Go.WideShapes.bytes_inj
    rw [Lib.extract_data, str_list, str_list]
    exact List.take_of_length_le (by rw [hsz]; simp)
  have he : R0.toList.isEmpty = false := by rw [hR, str_eq_nil]; simp
  have hp1 : (0 : Int) < (R0.size : Int) := by omega
  have hp2 : 1 ≤ R0.size := hp
  have ha := and15_nib c hc
  have hcI : (c.toNat : Int) < 16 := by omega
  rw [← hx] at HW
  rw [← hR]
  have HKc : Hid (Kids w ks (fun x => S x ∧ x ≠ b) U (fun i x => Ss i x ∧ x < w.heap.size)) := hKc
  clear B hK hF hv T hA hR hsz hx hn hl hlr ho ih hnr hFk hKc
  generalize mkBranch (updK ks c.toNat (withP (ks c.toNat) r v)) x = R at *
  generalize str v = V at *
  obtain ⟨W0, hW0⟩ : ∃ W0, W0 = w.alloc (.cells #[.pointer (U 0), .pointer (U 1), .pointer (U 2), .pointer (U 3), .pointer (U 4), .pointer (U 5), .pointer (U 6), .pointer (U 7), .pointer (U 8), .pointer (U 9), .pointer (U 10), .pointer (U 11), .pointer (U 12), .pointer (U 13), .pointer (U 14), .pointer (U 15)] 77) := ⟨_, rfl⟩
  have harr : Arr W0 w.heap.size U := by rw [hW0]; exact Arr.made w U
  have hz0 : W0.heap.size = w.heap.size + 1 := by rw [hW0]; simp
  have hb0 : Below w.heap.size w W0 := by rw [hW0]; exact (Below.refl _ _).alloc (Nat.le_refl _) _
  have HZ : Hid (W0.heap.size = w.heap.size + 1) := hz0
  have HA0 : Hid (Arr W0 w.heap.size U) := harr
  have HB0 : Hid (Below w.heap.size w W0) := hb0
  have HW0 : Hid (W0 = w.alloc (.cells #[.pointer (U 0), .pointer (U 1), .pointer (U 2), .pointer (U 3), .pointer (U 4), .pointer (U 5), .pointer (U 6), .pointer (U 7), .pointer (U 8), .pointer (U 9), .pointer (U 10), .pointer (U 11), .pointer (U 12), .pointer (U 13), .pointer (U 14), .pointer (U 15)] 77)) := hW0
  have dck := (hb0.cell (p := ⟨b, 5 + c.toNat, none⟩) hlt).trans hck
  clear harr hz0 hb0 hW0
  go_enter Tryd.func55, Tryd.ntmps55
  go_upto_region 5 with fail
  rw [← HW0.out]
  clear k0 k1 k2 k3 k4 k5 k6 k7 k8 k9 k10 k11 k12 k13 k14 k15 hck
  go_cut [] (fun wx => ∃ U2 Ss2, Arr wx w.heap.size U2 ∧ Kids wx (updK ks c.toNat (withP (ks c.toNat) r v)) (fun x => (S x ∨ w.heap.size ≤ x) ∧ x ≠ w.heap.size) U2 Ss2 ∧ Below w.heap.size w wx)
  case first =>
    go_region_with (go_at_call 43; refine (HW.out _ (by first | exact HB0.out | exact HB0.out.drew)).mono ?_; rintro e1 w1 ⟨x2, rfl, hA2, hB2⟩; have ca : w1.cell? ⟨w.heap.size, c.toNat, none⟩ = some (.pointer (U c.toNat)) := (hB2.cell (p := ⟨w.heap.size, c.toNat, none⟩) (show w.heap.size < W0.heap.size by rw [HZ.out]; omega)).trans (HA0.out.cell _ hc); have fa : w1.frozen? ⟨w.heap.size, c.toNat, none⟩ = false := (hB2.frozen (p := ⟨w.heap.size, c.toNat, none⟩) (show w.heap.size < W0.heap.size by rw [HZ.out]; omega)).trans (HA0.out.free _); have HF2 : Hid (At w1 (withP (ks c.toNat) r v) (fun x => (Ss c.toNat x ∧ x < w.heap.size) ∨ W0.heap.size ≤ x) (.pointer x2) ∧ Arr w1 w.heap.size U ∧ Below w.heap.size w w1) := ⟨hA2, HA0.out.kept (hB2.block _ (show w.heap.size < W0.heap.size by rw [HZ.out]; omega)), HB0.out.drew.trans (hB2.mono HB0.out.size)⟩; clear hA2 hB2)
    all_goals
      go_wp2_with fail
      go_meet
      obtain ⟨g1, g2, g4⟩ := HF2.out
      have hz := HZ.out
      have hK1 : Kids w1 ks (fun x => (S x ∨ w.heap.size ≤ x) ∧ x ≠ w.heap.size) U (fun i x => Ss i x ∧ x < w.heap.size) := ⟨fun i hi => (HKc.out.at_ i hi).kept fun x hx hl => g4.block x hl, fun i x hi hx => ⟨.inl (HKc.out.sub i x hi hx).1, by omega⟩, HKc.out.dis⟩
      refine ⟨updU U c.toNat x2, _, g2.set c.toNat x2 hc, hK1.put (fun x hx _ => heap_setCell_other _ _ _ _ hx.2) c.toNat _ x2 _ (g1.kept fun x hx _ => heap_setCell_other _ _ _ _ (show x ≠ w.heap.size by omega)) (fun y hy => ?_), g4.setCell (Nat.le_refl _) _⟩
      rcases hy with hy | hy
      · exact ⟨⟨.inl (HKc.out.sub _ y hc hy).1, by omega⟩, fun i hi hne h => hne (HKc.out.dis i c.toNat y hi hc h hy)⟩
      · exact ⟨⟨.inr (by omega), by omega⟩, fun i hi hne h => by have := h.2; omega⟩
  case rest =>
    obtain ⟨U2, Ss2, hAr2, hK2, hBel2⟩ := hcut
    obtain ⟨k0, k1, k2, k3, k4, k5, k6, k7, k8, k9, k10, k11, k12, k13, k14, k15⟩ := hAr2.all
    have d3 := (hBel2.cell (p := ⟨b, 3, none⟩) hlt).trans c3
    have HBB : Hid (∀ W, (∀ x, W.heap[x]? = wc.heap[x]?) → Below w.heap.size w W → Calls Tryd.prog 64 #[kidsV U2, .string (str x)] W (Made w S R)) := fun W hk hW =>
      HB.out W U2 Ss2 ((hK2.kept fun y _ _ => hk y).mono fun y hy => hy.1) hW
    have HBe2 : Hid (Below w.heap.size w wc) := hBel2
    unfold kidsV at HBB
    clear hAr2 hK2 hBel2 HB HW HKc HA0 HB0 HW0 HZ dck c3
    go_wp2_with fail
    go_region_with (go_at_call 64; refine (HBB.out wc.drew (fun _ => rfl) HBe2.out.drew).mono ?_; rintro e1 w1 ⟨u1, rfl, hA1⟩; have HF3 : Hid _ := hA1; clear hA1)
    all_goals
      go_wp2_with fail
      go_ret
      exact ⟨u1, rfl, HF3.out⟩

theorem bw_calls (h x : List UInt8) (ks : Nat → Nd) (ih : ∀ i, i < 16 → WithSaid (ks i)) (w : World) (S : Nat → Prop) (u : Option Addr) (p v : List UInt8) (hA : At w (.branch h x ks) S (.pointer u)) (hF : Fine (.branch h x ks)) (ho : Opened (.branch h x ks) p) (hn : Nibs p) (hl : p.length ≤ 80) (hv : v.length ≤ 160) (T : Tabs w) :
    Calls Tryd.prog 55 #[.pointer u, .string (str p), .string (str v)] w (Made w S (withP (.branch h x ks) p v)) := by
  cases p with
  | nil => exact bw_end h x ks w S u v hA hF hv T
  | cons c r => exact bw_in h x ks c r (ih _ (hn c (List.mem_cons_self ..))) w S u v hA hF ho hn hl hv T
end Go.Proofs.YtenmjjpkbcogbaaDoor
