import Derived.Test.YtenmjjpkbcogbaaDoorTa
import Derived.Test.YtenmjjpkbcogbaaDoorZd

/- TnE -/
namespace Go.Proofs.YtenmjjpkbcogbaaDoor
open Go.RowKit

/-- The sizes of a tree's parts are those of a map's. -/
def Sane : Nd → Prop
  | .nil => True
  | .unread h => h.length = 32
  | .leaf h p v => (h = [] ∨ h.length = 32) ∧ Nibs p ∧ p.length ≤ 80 ∧ v.length ≤ 160
  | .ext h p k => (h = [] ∨ h.length = 32) ∧ Nibs p ∧ p.length ≤ 80 ∧ Sane k
  | .branch h v ks => (h = [] ∨ h.length = 32) ∧ v.length ≤ 160 ∧ ∀ i, i < 16 → Sane (ks i)

def ItemOut (d : Nat) (w : World) (x : Tree) (e : Ending) (w' : World) : Prop :=
  ∃ l t a m c, e = .returned (.agg #[.bool l, .string t, .slice a m c]) ∧ ItemIs d w' (fun b => w.heap.size ≤ b) [.bool l, .string t, .slice a m c] x ∧ Below w.heap.size w w'
def ItemSaid (t : Nd) : Prop := ∀ (w : World) (S : Nat → Prop) (p : Value) (d : Nat), At w t S p → Sane t → t.read → flatU d t.item = true → Calls Tryd.prog 59 #[p] w (ItemOut d w t.item)
def RefSaid (t : Nd) : Prop := ∀ (w : World) (S : Nat → Prop) (p : Value) (d : Nat), At w t S p → Sane t → flatU d t.ref = true → Calls Tryd.prog 67 #[p] w (ItemOut d w t.ref)

theorem ref_none (w : World) (d : Nat) : Calls Tryd.prog 67 #[.pointer none] w (ItemOut d w (textT [])) := by
  go_enter Tryd.func67, Tryd.ntmps67
  go_wp2_with fail
  exact bodyPost_ret (v := .agg #[.bool false, .string ⟨#[]⟩, .slice none 0 0]) (by simp [results, Tryd.results67, go_sem]) rfl ⟨false, ⟨#[]⟩, none, 0, 0, rfl, item_text d _ _ ⟨#[]⟩ _ (by decide), (Below.refl _ _).alloc (Nat.le_refl _) _⟩

theorem ref_hash (w : World) (b : Nat) (t : Nd) (kid : Value) (kids : Nat → Value) (d : Nat) (B : Blk w b t kid kids) (hh : t.hash ≠ []) (hl : t.hash.length ≤ 4096) : Calls Tryd.prog 67 #[.pointer (some ⟨b, 0, none⟩)] w (ItemOut d w (textT t.hash)) := by
  have c1 := B.c1
  have hlt := B.lt
  have he : (str t.hash).toList.isEmpty = false := by rw [str_eq_nil]; simp [hh]
  have HI : Hid (∀ W S, ItemIs d W S [.bool false, .string (str t.hash), .slice none 0 0] (textT t.hash)) := fun W S => by
    have := item_text d W S (str t.hash) (.slice none 0 0) (by rw [str_size]; omega)
    rw [str_list] at this; exact this
  clear B hh
  generalize str t.hash = H at *
  generalize textT t.hash = X at *
  go_enter Tryd.func67, Tryd.ntmps67
  go_wp2_with fail
  exact bodyPost_ret (v := .agg #[.bool false, .string H, .slice none 0 0]) (by simp [results, Tryd.results67, go_sem]) rfl ⟨false, H, none, 0, 0, rfl, HI.out _ _, (Below.refl _ _).alloc (Nat.le_refl _) _⟩

theorem ref_item (w : World) (b : Nat) (t : Nd) (kid : Value) (kids : Nat → Value) (d : Nat) (x : Tree) (B : Blk w b t kid kids) (hh : t.hash = [])
    (hi : ∀ W, Below w.heap.size w W → Calls Tryd.prog 59 #[.pointer (some ⟨b, 0, none⟩)] W (ItemOut d W x)) : Calls Tryd.prog 67 #[.pointer (some ⟨b, 0, none⟩)] w (ItemOut d w x) := by
  have c1 := B.c1
  have hlt := B.lt
  have he : (str t.hash).toList.isEmpty = true := by rw [str_eq_nil]; simp [hh]
  have HI : Hid (Calls Tryd.prog 59 #[.pointer (some ⟨b, 0, none⟩)] (w.alloc (.cells #[.bool false, .string ⟨#[]⟩, .slice none 0 0] 47)) (ItemOut d (w.alloc (.cells #[.bool false, .string ⟨#[]⟩, .slice none 0 0] 47)) x)) := hi _ ((Below.refl _ _).alloc (Nat.le_refl _) _)
  clear B hh hi
  generalize str t.hash = H at *
  go_enter Tryd.func67, Tryd.ntmps67
  go_wp2_with fail
  refine HI.out.mono ?_
  rintro e w1 ⟨l, t1, a, m, c, rfl, hit, hb⟩
  obtain ⟨k0, k1, k2, f0, f1, f2⟩ := res3 hb
  have HB1 : Hid (Below w.heap.size w w1) := ((Below.refl w.heap.size w).alloc (Nat.le_refl _) _).trans (hb.mono (by simp))
  have HIT : Hid (∀ W : World, (∀ q, q ≠ w.heap.size → W.heap[q]? = w1.heap[q]?) → ItemIs d W (fun q => w.heap.size ≤ q) [.bool l, .string t1, .slice a m c] x) := fun W hW =>
    ItemIs.move (fun q hq _ => ⟨by have : w.heap.size + 1 ≤ q := by simpa using hq
                                   omega, hW q (by have : w.heap.size + 1 ≤ q := by simpa using hq
                                                   omega)⟩) d _ _ hit
  clear hit hb HI
  go_wp2_with fail
  exact bodyPost_ret (v := .agg #[.bool l, .string t1, .slice a m c]) (by simp [results, Tryd.results67, go_sem, k0, k1, k2]) rfl ⟨l, t1, a, m, c, rfl, HIT.out _ (fun q hq => by simp [heap_setCell_other, hq]), below_set3 HB1.out _ _ _⟩

theorem ref_of (t : Nd) (ih : ItemSaid t) : RefSaid t := by
  intro w S p d hA hS hf
  cases t with
  | nil => cases hA; exact ref_none w d
  | unread h =>
    obtain ⟨b, rfl, _, B⟩ := hA
    have hh : h ≠ [] := fun e => by subst e; cases hS
    have e : (Nd.unread h).ref = textT h := by unfold Nd.ref refT; exact if_neg hh
    rw [e]
    exact ref_hash w b _ _ _ d B hh (by show h.length ≤ 4096; rw [show h.length = 32 from hS]; omega)
  | leaf h q v =>
    obtain ⟨b, rfl, hs, B⟩ := hA
    by_cases hh : h = []
    · have e : (Nd.leaf h q v).ref = (Nd.leaf h q v).item := by unfold Nd.ref refT; exact if_pos hh
      rw [e] at hf ⊢
      exact ref_item w b _ _ _ d _ B hh fun W hW => ih W S _ d (At.below (t := .leaf h q v) ⟨b, rfl, hs, B⟩ hW) hS trivial hf
    · have e : (Nd.leaf h q v).ref = textT h := by unfold Nd.ref refT; exact if_neg hh
      rw [e]
      exact ref_hash w b _ _ _ d B hh (by rcases hS.1 with h1 | h1; exact absurd h1 hh; show h.length ≤ 4096; omega)
  | ext h q k =>
    obtain ⟨b, kp, S1, rfl, hs, B, hr⟩ := hA
    by_cases hh : h = []
    · have e : (Nd.ext h q k).ref = (Nd.ext h q k).item := by unfold Nd.ref refT; exact if_pos hh
      rw [e] at hf ⊢
      exact ref_item w b _ _ _ d _ B hh fun W hW => ih W S _ d (At.below (t := .ext h q k) ⟨b, kp, S1, rfl, hs, B, hr⟩ hW) hS trivial hf
    · have e : (Nd.ext h q k).ref = textT h := by unfold Nd.ref refT; exact if_neg hh
      rw [e]
      exact ref_hash w b _ _ _ d B hh (by rcases hS.1 with h1 | h1; exact absurd h1 hh; show h.length ≤ 4096; omega)
  | branch h v ks =>
    obtain ⟨b, kps, Ss, rfl, hs, B, hr⟩ := hA
    by_cases hh : h = []
    · have e : (Nd.branch h v ks).ref = (Nd.branch h v ks).item := by unfold Nd.ref refT; exact if_pos hh
      rw [e] at hf ⊢
      exact ref_item w b _ _ _ d _ B hh fun W hW => ih W S _ d (At.below (t := .branch h v ks) ⟨b, kps, Ss, rfl, hs, B, hr⟩ hW) hS trivial hf
    · have e : (Nd.branch h v ks).ref = textT h := by unfold Nd.ref refT; exact if_neg hh
      rw [e]
      exact ref_hash w b _ _ _ d B hh (by rcases hS.1 with h1 | h1; exact absurd h1 hh; show h.length ≤ 4096; omega)
end Go.Proofs.YtenmjjpkbcogbaaDoor

/- TnF -/
namespace Go.Proofs.YtenmjjpkbcogbaaDoor
open Go.RowKit

theorem alloc_at (W : World) (o : Obj) (g : Nat) (h : g = W.heap.size) : (W.alloc o).heap[g]? = some o := by subst h; exact heap_alloc_new _ _
/-- A list of two items. -/
theorem pair_item (e : Nat) (W : World) (S : Nat → Prop) (g : Nat) (a0 a1 a2 b0 b1 b2 : Value) (T : TypeId) (fr : Nat × Nat) (x y : Tree) (t : ByteArray)
    (hg : W.heap[g]? = some (.cells #[a0, a1, a2, b0, b1, b2] T fr)) (hs : S g) (hx : ItemIs e W S [a0, a1, a2] x) (hy : ItemIs e W S [b0, b1, b2] y) :
    ItemIs (e + 1) W S [.bool true, .string t, .slice (some ⟨g, 0, none⟩) 2 2] (listT [x, y]) := by
  refine item_list e W S t _ [x, y] [a0, a1, a2, b0, b1, b2] ⟨rfl, .inr ⟨g, 0, 2, rfl, hs, fun j hj => ?_⟩⟩ (by simp) fun i hi => ?_
  · rw [Nat.zero_add, cell_of_row W g j _ _ _ hg, List.getElem?_toArray]
  · match i, hi with
    | 0, _ => exact hx
    | 1, _ => exact hy
theorem flat_pair (d : Nat) (x y : Tree) (h : flatU d (listT [x, y]) = true) : ∃ e, d = e + 1 ∧ flatU e x = true ∧ flatU e y = true := by
  cases d with
  | zero => rw [flat_zero] at h; cases h
  | succ e =>
    rw [flat_list] at h
    simp at h
    exact ⟨e, rfl, h.1, h.2⟩
theorem item_text' (d : Nat) (w : World) (S : Nat → Prop) (l : List UInt8) (k : Value) (h : l.length ≤ 8192) : ItemIs d w S [.bool false, .string (str l), k] (textT l) := by
  have := item_text d w S (str l) k (by rw [str_size]; omega)
  rw [str_list] at this; exact this

set_option maxRecDepth 100000 in
set_option maxHeartbeats 400000 in
theorem item_leaf (h q v : List UInt8) : ItemSaid (.leaf h q v) := by
  intro w S p d hA hS _ hf
  obtain ⟨b, rfl, hs, B⟩ := hA
  obtain ⟨_, hn, hq, hv⟩ := hS
  have c0 : w.cell? ⟨b, 0, none⟩ = some (.int .i64 1) := B.c0
  have c2 : w.cell? ⟨b, 2, none⟩ = some (.string (str q)) := B.c2
  have c3 : w.cell? ⟨b, 3, none⟩ = some (.string (str v)) := B.c3
  have hlt := B.lt
  have HP : Hid (∀ W : World, Calls Tryd.prog 27 #[.string (str q), .bool true] W fun e w' => e = .returned (.tuple #[.string (str (packU q true)), .int .i64 0]) ∧ Below W.heap.size W w') := fun W => by
    have := pack_calls (str q) true (by rw [str_size]; omega) (by rw [str_list]; exact hn) W
    rw [str_list] at this; exact this
  obtain ⟨e, rfl, _, _⟩ := flat_pair d _ _ hf
  have HX : Hid (∀ (W : World) (g : Nat) (S : Nat → Prop) (fr : Nat × Nat), W.heap[g]? = some (.cells #[.bool false, .string (str (packU q true)), .slice none 0 0, .bool false, .string (str v), .slice none 0 0] 47 fr) → S g →
      ItemIs (e + 1) W S [.bool true, .string ⟨#[]⟩, .slice (some ⟨g, 0, none⟩) 2 2] (Nd.leaf h q v).item) := fun W g S fr hg hs =>
    pair_item e W S g _ _ _ _ _ _ _ fr _ _ _ hg hs (item_text' e W S _ _ (by rw [packU_length]; omega)) (item_text' e W S _ _ (by omega))
  clear B hn hf
  unfold ptr
  generalize (Nd.leaf h q v).item = X at *
  generalize hQ : str q = Q at *
  generalize hVV : str v = V at *
  generalize hPK : str (packU q true) = PK at *
  go_enter Tryd.func59, Tryd.ntmps59
  have HB0 : Hid (Below w.heap.size w (w.alloc (.cells #[.bool false, .string ⟨#[]⟩, .slice none 0 0] 47))) := (Below.refl _ _).alloc (Nat.le_refl _) _
  go_upto_region 9 with fail
  go_cut [5] (fun u wx => u = .string PK ∧ Below (w.alloc (.cells #[.bool false, .string ⟨#[]⟩, .slice none 0 0] 47)).heap.size (w.alloc (.cells #[.bool false, .string ⟨#[]⟩, .slice none 0 0] 47)) wx)
  case first =>
    go_region_with (go_at_call 27; refine (HP.out _).mono ?_; rintro e1 w1 ⟨rfl, B1⟩)
    all_goals (have HB1 : Hid _ := B1; clear B1; go_wp2_with fail; go_meet; exact ⟨rfl, by first | exact HB1.out | exact HB1.out.drew | exact (Below.refl _ _).drew.trans HB1.out⟩)
  case rest =>
    obtain ⟨rfl, B1⟩ := hcut
    obtain ⟨k0, k1, k2, f0, f1, f2⟩ := res3 B1
    have HB1 : Hid (Below w.heap.size w wc) := HB0.out.trans (B1.mono (by simp))
    have d0 := (HB1.out.cell (p := ⟨b, 0, none⟩) hlt).trans c0
    have d3 := (HB1.out.cell (p := ⟨b, 3, none⟩) hlt).trans c3
    have hz : w.heap.size < wc.heap.size := by have := B1.size; simp at this; omega
    have hlt2 : b < wc.heap.size := by omega
    clear B1
    go_wp2_with fail
    refine bodyPost_ret (v := .agg #[.bool true, .string ⟨#[]⟩, .slice (some ⟨wc.heap.size + 1, 0, none⟩) 2 2]) (by simp [results, Tryd.results59, go_sem, k0, k1, k2, hz]) rfl ⟨true, ⟨#[]⟩, _, _, _, rfl, HX.out _ _ _ (0, 0) ?_ ?_, ?_⟩
    · exact alloc_at _ _ _ (by simp)
    · show w.heap.size ≤ wc.heap.size + 1; omega
    · exact (below_set3_alloc HB1.out hz _ _ _ _).alloc (by simp; omega) _
end Go.Proofs.YtenmjjpkbcogbaaDoor

/- TnG -/
namespace Go.Proofs.YtenmjjpkbcogbaaDoor
open Go.RowKit

set_option maxRecDepth 100000 in
set_option maxHeartbeats 400000 in
theorem item_ext (h q : List UInt8) (k : Nd) (ih : RefSaid k) : ItemSaid (.ext h q k) := by
  intro w S p d hA hS _ hf
  obtain ⟨b, kp, S1, rfl, hs, B, hsub, hK⟩ := hA
  obtain ⟨_, hn, hq, hSk⟩ := hS
  have c0 : w.cell? ⟨b, 0, none⟩ = some (.int .i64 2) := B.c0
  have c2 : w.cell? ⟨b, 2, none⟩ = some (.string (str q)) := B.c2
  have c3 : w.cell? ⟨b, 3, none⟩ = some (.string ⟨#[]⟩) := B.c3
  obtain ⟨u, rfl⟩ := hK.ptr
  have c4 : w.cell? ⟨b, 4, none⟩ = some (.pointer u) := B.c4
  have hlt := B.lt
  have HP : Hid (∀ W : World, Calls Tryd.prog 27 #[.string (str q), .bool false] W fun e w' => e = .returned (.tuple #[.string (str (packU q false)), .int .i64 0]) ∧ Below W.heap.size W w') := fun W => by
    have := pack_calls (str q) false (by rw [str_size]; omega) (by rw [str_list]; exact hn) W
    rw [str_list] at this; exact this
  obtain ⟨e, rfl, _, hfk⟩ := flat_pair d _ _ hf
  have HK : Hid (∀ W, Below w.heap.size w W → Calls Tryd.prog 67 #[.pointer u] W (ItemOut e W k.ref)) := fun W hW => ih W S1 _ e (hK.below hW) hSk hfk
  have HX : Hid (∀ (W : World) (g : Nat) (S : Nat → Prop) (fr : Nat × Nat) (b0 b1 b2 : Value), W.heap[g]? = some (.cells #[.bool false, .string (str (packU q false)), .slice none 0 0, b0, b1, b2] 47 fr) → S g → ItemIs e W S [b0, b1, b2] k.ref →
      ItemIs (e + 1) W S [.bool true, .string ⟨#[]⟩, .slice (some ⟨g, 0, none⟩) 2 2] (Nd.ext h q k).item) := fun W g S fr b0 b1 b2 hg hs hk =>
    pair_item e W S g _ _ _ _ _ _ _ fr _ _ _ hg hs (item_text' e W S _ _ (by rw [packU_length]; omega)) hk
  clear B hn hf hfk hK hsub hSk
  unfold ptr
  generalize (Nd.ext h q k).item = X at *
  generalize k.ref = Y at *
  generalize hQ : str q = Q at *
  generalize hPK : str (packU q false) = PK at *
  go_enter Tryd.func59, Tryd.ntmps59
  have HB0 : Hid (Below w.heap.size w (w.alloc (.cells #[.bool false, .string ⟨#[]⟩, .slice none 0 0] 47))) := (Below.refl _ _).alloc (Nat.le_refl _) _
  go_upto_region 9 with fail
  go_cut [5] (fun u wx => u = .string PK ∧ Below (w.alloc (.cells #[.bool false, .string ⟨#[]⟩, .slice none 0 0] 47)).heap.size (w.alloc (.cells #[.bool false, .string ⟨#[]⟩, .slice none 0 0] 47)) wx)
  case first =>
    go_region_with (go_at_call 27; refine (HP.out _).mono ?_; rintro e1 w1 ⟨rfl, B1⟩)
    all_goals (have HB1 : Hid _ := B1; clear B1; go_wp2_with fail; go_meet; exact ⟨rfl, by first | exact HB1.out | exact HB1.out.drew | exact (Below.refl _ _).drew.trans HB1.out⟩)
  case rest =>
    obtain ⟨rfl, B1⟩ := hcut
    obtain ⟨k0, k1, k2, f0, f1, f2⟩ := res3 B1
    have HB1 : Hid (Below w.heap.size w wc) := HB0.out.trans (B1.mono (by simp))
    have d0 := (HB1.out.cell (p := ⟨b, 0, none⟩) hlt).trans c0
    have d3 := (HB1.out.cell (p := ⟨b, 3, none⟩) hlt).trans c3
    have d4 := (HB1.out.cell (p := ⟨b, 4, none⟩) hlt).trans c4
    have hz : w.heap.size < wc.heap.size := by have := B1.size; simp at this; omega
    have hlt2 : b < wc.heap.size := by omega
    clear B1
    go_wp2_with fail
    refine (HK.out _ (HB1.out.alloc (by omega) _)).mono ?_
    rintro e2 w2 ⟨l, t1, a, m, c, rfl, hit, hb2⟩
    obtain ⟨q0, q1, q2, g0, g1, g2, _⟩ := res4 hz k0 k1 k2 f0 f1 f2 hb2
    obtain ⟨r0, r1, r2, s0, s1, s2⟩ := res3 hb2
    have HB2 : Hid (Below w.heap.size w w2) := (HB1.out.alloc (by omega) _).trans (hb2.mono (by simp; omega))
    have hz2 : wc.heap.size < w2.heap.size := by have := hb2.size; simp at this; omega
    have hz3 : w.heap.size < w2.heap.size := by omega
    have hne : wc.heap.size ≠ w.heap.size := by omega
    have hne2 : w.heap.size ≠ wc.heap.size := by omega
    have HIT : Hid (∀ W : World, (∀ q, wc.heap.size < q → q < w2.heap.size → W.heap[q]? = w2.heap[q]?) → ItemIs e W (fun q => w.heap.size ≤ q) [.bool l, .string t1, .slice a m c] Y) := fun W hW =>
      ItemIs.move (fun q hq hlt => ⟨by have : wc.heap.size + 1 ≤ q := by simpa using hq
                                       omega, hW q (by have : wc.heap.size + 1 ≤ q := by simpa using hq
                                                       omega) hlt⟩) e _ _ hit
    clear hit hb2 HK k0 k1 k2 f0 f1 f2
    go_wp2_with fail
    refine bodyPost_ret (v := .agg #[.bool true, .string ⟨#[]⟩, .slice (some ⟨w2.heap.size, 0, none⟩) 2 2]) (by simp [results, Tryd.results59, go_sem, q0, q1, q2, hz3]) rfl ⟨true, ⟨#[]⟩, _, _, _, rfl, HX.out _ _ _ (0, 0) (.bool l) (.string t1) (.slice a m c) ?_ ?_ ?_, ?_⟩
    · exact alloc_at _ _ _ (by simp)
    · show w.heap.size ≤ w2.heap.size; omega
    · refine HIT.out _ fun x hx hl => ?_
      rw [Below.heap_alloc _ _ _ (by simpa using hl)]
      have e1 : x ≠ w.heap.size := by omega
      have e2 : x ≠ wc.heap.size := by omega
      simp [heap_setCell_other, e1, e2]
    · exact (below_set3 (((HB2.out.setCell (show w.heap.size ≤ wc.heap.size by omega) _).setCell (show w.heap.size ≤ wc.heap.size by omega) _).setCell (show w.heap.size ≤ wc.heap.size by omega) _) _ _ _).alloc (by simp; omega) _
end Go.Proofs.YtenmjjpkbcogbaaDoor

/- TnH -/
namespace Go.Proofs.YtenmjjpkbcogbaaDoor
open Go.RowKit

theorem make_items (w : World) : (Instr.makeSlice 45 (.int .i64 0) (.int .i64 17)).run Tryd.prog w = .ok (.slice (some ⟨w.heap.size, 0, none⟩) 0 17) (w.alloc (.cells (madeCells #[.bool false, .string ⟨#[]⟩, .slice none 0 0] 51) 47)) := by
  obtain ⟨i0, hi, hz0, hz1, hz2⟩ := info_parts info25
  have := run_make (P := Tryd.prog) w 45 47 i0 _ Tryd.underlying45 hi hz0 .i64 .i64 0 17 (by omega) (by omega) (by rw [hz2]; omega) (by omega)
  rw [hz1] at this
  exact this
theorem own_items (w : World) (base : Nat) (hb : base ≤ w.heap.size) : (w.alloc (.cells (madeCells #[.bool false, .string ⟨#[]⟩, .slice none 0 0] 51) 47)).ownsRow base 47 3 (.slice (some ⟨w.heap.size, 0, none⟩) 0 17) 0 [] :=
  ⟨rfl, .inr ⟨w.heap.size, 17, _, rfl, hb, heap_alloc_new _ _, by omega, by unfold maxLen; omega, by rw [size_madeCells], by simp⟩⟩

theorem branch_kids (v : List UInt8) (ks : Nat → Nd) : ((List.range 16).map (fun i => refT (ks i) (ks i).item) ++ [textT v]).length = 17 := by simp
def kidT (v : List UInt8) (ks : Nat → Nd) (i : Nat) : Tree := if i < 16 then (ks i).ref else textT v
theorem kidT_at (v : List UInt8) (ks : Nat → Nd) (i : Nat) (h : i < 17) : ((List.range 16).map (fun i => refT (ks i) (ks i).item) ++ [textT v]).getD i (textT []) = kidT v ks i := by
  unfold kidT
  by_cases h16 : i < 16
  · rw [if_pos h16, List.getD_eq_getElem?_getD, List.getElem?_append_left (by simpa using h16), List.getElem?_map, List.getElem?_range h16]; rfl
  · obtain rfl : i = 16 := by omega
    rw [if_neg h16, List.getD_eq_getElem?_getD, List.getElem?_append_right (by simp)]; rfl
theorem flat_branch (d : Nat) (v : List UInt8) (ks : Nat → Nd) (h : flatU d (listT ((List.range 16).map (fun i => refT (ks i) (ks i).item) ++ [textT v])) = true) : ∃ e, d = e + 1 ∧ ∀ i, i < 16 → flatU e (ks i).ref = true := by
  cases d with
  | zero => rw [flat_zero] at h; cases h
  | succ e =>
    rw [flat_list] at h
    simp only [Bool.and_eq_true, List.all_eq_true] at h
    exact ⟨e, rfl, fun i hi => h.2 _ (List.mem_append.2 (.inl (List.mem_map.2 ⟨i, List.mem_range.2 hi, rfl⟩)))⟩

/-- Items in a row, and one more. -/
theorem items_push {base e i gb cap g2 : Nat} {w1 w2 : World} {xs : List Value} {T : Nat → Tree} {a b c : Value} {o : Obj}
    (HO : w1.ownsRow base 47 3 (.slice (some ⟨gb, 0, none⟩) i cap) i xs)
    (hit : ∀ j, j < i → ItemIs e w1 (fun q => base ≤ q ∧ gb ≠ q) ((xs.drop (3 * j)).take 3) (T j))
    (hx : ItemIs e w1 (fun q => base ≤ q ∧ gb ≠ q) [a, b, c] (T i))
    (hgrow : World.grownBy (w1.alloc o) w2 (Value.ownBlock (.slice (some ⟨gb, 0, none⟩) i cap)))
    (hat : Value.ownBlock (.slice (some ⟨gb, 0, none⟩) i cap) = some g2 ∨ (w1.alloc o).heap.size ≤ g2) :
    ∀ j, j < i + 1 → ItemIs e w2 (fun q => base ≤ q ∧ g2 ≠ q) (((xs ++ [a, b, c]).drop (3 * j)).take 3) (T j) := by
  have hgr : ∀ q, q < w1.heap.size → gb ≠ q → w2.heap[q]? = w1.heap[q]? := fun q hq hne => by
    rw [← Below.heap_alloc w1 o q hq]; exact hgrow.block q (by simp; omega) (fun h => hne (by simpa [Value.ownBlock] using h.symm))
  have hg2 : ∀ q, q < w1.heap.size → gb ≠ q → g2 ≠ q := fun q hq hne h => by
    rcases hat with h2 | h2
    · exact hne ((by simpa [Value.ownBlock] using h2 : gb = g2).trans h)
    · simp at h2; omega
  have mv : ∀ cs x, ItemIs e w1 (fun q => base ≤ q ∧ gb ≠ q) cs x → ItemIs e w2 (fun q => base ≤ q ∧ g2 ≠ q) cs x := fun cs x h =>
    ItemIs.move (fun q hq hlt => ⟨⟨hq.1, hg2 q hlt hq.2⟩, hgr q hlt hq.2⟩) e cs x h
  intro j hj
  have hxl : xs.length = 3 * i := by have := HO.1; omega
  by_cases hji : j < i
  · have e1 : ((xs ++ [a, b, c]).drop (3 * j)).take 3 = (xs.drop (3 * j)).take 3 := by
      rw [List.drop_append_of_le_length (by omega), List.take_append_of_le_length (by rw [List.length_drop]; omega)]
    rw [e1]; exact mv _ _ (hit j hji)
  · obtain rfl : j = i := by omega
    have e1 : ((xs ++ [a, b, c]).drop (3 * j)).take 3 = [a, b, c] := by rw [← hxl, List.drop_left]; rfl
    rw [e1]; exact mv _ _ hx

set_option maxRecDepth 100000 in
set_option maxHeartbeats 400000 in
theorem item_branch (h v : List UInt8) (ks : Nat → Nd) (ih : ∀ i, i < 16 → RefSaid (ks i)) : ItemSaid (.branch h v ks) := by
  intro w S p d hA hS _ hf
  obtain ⟨b, kps, Ss, rfl, hs, B, hsub, hdis, hK⟩ := hA
  obtain ⟨_, hv, hSk⟩ := hS
  have c0 : w.cell? ⟨b, 0, none⟩ = some (.int .i64 3) := B.c0
  have c3 : w.cell? ⟨b, 3, none⟩ = some (.string (str v)) := B.c3
  have HC : Hid (∀ i, i < 16 → ∃ u, kps i = .pointer u ∧ w.cell? ⟨b, 5 + i, none⟩ = some (.pointer u)) := fun i hi => by
    obtain ⟨u, hu⟩ := (hK i hi).ptr
    exact ⟨u, hu, by rw [B.ck i hi, hu]⟩
  have hlt := B.lt
  obtain ⟨e, rfl, hfk⟩ := flat_branch d v ks hf
  have HK : Hid (∀ W i u, i < 16 → kps i = .pointer u → Below w.heap.size w W → Calls Tryd.prog 67 #[.pointer u] W (ItemOut e W (kidT v ks i))) := fun W i u hi hu hW => by
    have := ih i hi W (Ss i) _ e ((hK i hi).below hW) (hSk i hi) (hfk i hi)
    rw [hu] at this
    unfold kidT; rw [if_pos hi]; exact this
  have hmk := make_items
  obtain ⟨i0, hi0, hz0, hz1, hz2⟩ := info_parts info25
  clear B hf hfk hK hsub hSk ih hdis
  unfold ptr
  go_enter Tryd.func59, Tryd.ntmps59
  go_upto_region 3 with fail
  obtain ⟨W1, hW1⟩ : ∃ W1, W1 = w.alloc (.cells #[.bool false, .string ⟨#[]⟩, .slice none 0 0] 47) := ⟨_, rfl⟩
  have hb1 : Below w.heap.size w W1 := by rw [hW1]; exact (Below.refl _ _).alloc (Nat.le_refl _) _
  have hsz1 : W1.heap.size = w.heap.size + 1 := by rw [hW1]; simp
  have HS1 : Hid (W1.heap.size = w.heap.size + 1) := hsz1
  have HB1 : Hid (Below w.heap.size w W1) := hb1
  have HR : Hid (W1.heap[w.heap.size]? = some (.cells #[.bool false, .string ⟨#[]⟩, .slice none 0 0] 47 (0, 0))) := by show _ = _; rw [hW1]; exact heap_alloc_new _ _
  have hown := own_items W1 W1.heap.size (Nat.le_refl _)
  have hbel : Below W1.heap.size W1 (W1.alloc (.cells (madeCells #[.bool false, .string ⟨#[]⟩, .slice none 0 0] 51) 47)) := (Below.refl _ _).alloc (Nat.le_refl _) _
  rw [← hW1]
  generalize hW2 : W1.alloc (.cells (madeCells #[.bool false, .string ⟨#[]⟩, .slice none 0 0] 51) 47) = W2 at *
  rw [← hsz1]
  generalize hG1 : W1.heap.size = g1 at hown ⊢
  have HO2 : Hid (W2.ownsRow W1.heap.size 47 3 (.slice (some ⟨g1, 0, none⟩) 0 17) 0 []) := by rw [hG1]; exact hown
  have HB2 : Hid (Below W1.heap.size W1 W2) := hbel
  clear hown hbel hb1 hsz1 hW1 hW2 hG1 hmk
  go_wp2_with fail
  go_loopg [3, 4] 16 (fun g sl r wr => ∃ (i gb cap : Nat) (xs : List Value), g = 16 - i ∧ i ≤ 16 ∧ sl = .slice (some ⟨gb, 0, none⟩) i cap ∧ r = .int .i64 (i : Int) ∧ wr.ownsRow W1.heap.size 47 3 (.slice (some ⟨gb, 0, none⟩) i cap) i xs ∧
    Hid (∀ j, j < i → ItemIs e wr (fun q => W1.heap.size ≤ q ∧ gb ≠ q) ((xs.drop (3 * j)).take 3) (kidT v ks j)) ∧ Below W1.heap.size W1 wr)
  case atStart => exact ⟨0, g1, 17, [], rfl, by omega, rfl, rfl, HO2.out, fun j hj => by omega, HB2.out⟩
  case round =>
    obtain ⟨i, gb, cap, xs, hg, hi, rfl, rfl, hown, hit, hbel⟩ := hrel
    have HG : Hid (gk = 16 - i) := hg
    have HO : Hid (wr.ownsRow W1.heap.size 47 3 (.slice (some ⟨gb, 0, none⟩) i cap) i xs) := hown
    have HB : Hid (Below W1.heap.size W1 wr) := hbel
    have HBw : Hid (Below w.heap.size w wr) := HB1.out.trans (hbel.mono HB1.out.size)
    clear hg hown hbel HO2 HB2
    by_cases h16 : i < 16
    · obtain ⟨u, hu, hck⟩ := HC.out i h16
      have hI : (i : Int) < 16 := by omega
      have dk := (HBw.out.cell (p := ⟨b, 5 + i, none⟩) hlt).trans hck
      clear hck
      go_wp2_with fail
      refine (HK.out _ i u h16 hu HBw.out).mono ?_
      rintro e1 w1 ⟨l, t1, a, m, c, rfl, hkid, hb2⟩
      have hgl : gb < wr.heap.size := (HO.out.lt gb rfl).2
      have HO1 : Hid (w1.ownsRow W1.heap.size 47 3 (.slice (some ⟨gb, 0, none⟩) i cap) i xs) := own_below HO.out hb2
      have HIT1 : Hid (∀ j, j < i → ItemIs e w1 (fun q => W1.heap.size ≤ q ∧ gb ≠ q) ((xs.drop (3 * j)).take 3) (kidT v ks j)) := fun j hj => (hit.out j hj).below hb2
      have HX1 : Hid (ItemIs e w1 (fun q => W1.heap.size ≤ q ∧ gb ≠ q) [.bool l, .string t1, .slice a m c] (kidT v ks i)) := ItemIs.move (fun q hq _ => ⟨⟨Nat.le_trans HB.out.size hq, by omega⟩, rfl⟩) e _ _ hkid
      have HB3 : Hid (Below W1.heap.size W1 w1) := HB.out.trans (hb2.mono HB.out.size)
      clear hkid hb2 hgl hit HO HB HBw dk
      go_wp2_with (at_builtin; refine wpList_append_lies _ rfl (.tmp 18) (.tmp 26) 45 rfl W1.heap.size 47 i0 _ 3 48 Tryd.underlying45 hi0 hz0 hz1 hz2 rfl (by decide) (.slice (some ⟨gb, 0, none⟩) i cap) i xs rfl (HO1.out.alloc _) ⟨w1.heap.size, 0, none⟩ 1 1 [.bool l, .string t1, .slice a m c] rfl rfl ?c1 ?c2 (by omega) ?c3 ?c4 ?c5 _ rfl ?c6)
      case c1 => exact own_three w1 _ _ _ rfl
      case c2 => intro v hv; simp at hv; rcases hv with rfl | rfl | rfl <;> rfl
      case c3 => unfold maxLen; omega
      case c4 => omega
      case c5 => have := HB3.out.size; simp; omega
      intro g2 cap2 w2 hown2 hgrow2 hat2 hlt2
      have HI2 : Hid (∀ j, j < i + 1 → ItemIs e w2 (fun q => W1.heap.size ≤ q ∧ g2 ≠ q) (((xs ++ [Value.bool l, Value.string t1, Value.slice a m c]).drop (3 * j)).take 3) (kidT v ks j)) := items_push HO1.out HIT1.out HX1.out hgrow2 (hat2.imp id (fun h => by rw [h]; simp))
      have HO2 : Hid (w2.ownsRow W1.heap.size 47 3 (.slice (some ⟨g2, 0, none⟩) (i + 1) cap2) (i + 1) (xs ++ [.bool l, .string t1, .slice a m c])) := hown2
      have HB2 : Hid (Below W1.heap.size W1 w2) := (HB3.out.alloc HB3.out.size _).grown hgrow2 (by have := HB3.out.size; simp; omega) (fun k hk => (HO1.out.lt k hk).1)
      clear hown2 hgrow2 hat2 hlt2 HO1 HIT1 HX1 HB3
      go_wp2_with fail
      go_roundg (16 - (i + 1))
      case measure => have := HG.out; omega
      case rel => exact ⟨i + 1, g2, cap2, _, rfl, by omega, rfl, by go_num, HO2.out, HI2.out, HB2.out⟩
    · obtain rfl : i = 16 := by omega
      have hI : ¬ ((16 : Nat) : Int) < 16 := by omega
      have d3 := (HBw.out.cell (p := ⟨b, 3, none⟩) hlt).trans c3
      have hgl : gb < wr.heap.size := (HO.out.lt gb rfl).2
      have hblt : b < wr.heap.size := Nat.lt_of_lt_of_le hlt HBw.out.size
      have HX1 : Hid (ItemIs e wr (fun q => W1.heap.size ≤ q ∧ gb ≠ q) [.bool false, .string (str v), .slice none 0 0] (kidT v ks 16)) := item_text' e _ _ v _ (by omega)
      clear hgl hv
      go_wp2_with (at_builtin; refine wpList_append_lies _ rfl (.tmp 28) (.tmp 34) 45 rfl W1.heap.size 47 i0 _ 3 48 Tryd.underlying45 hi0 hz0 hz1 hz2 rfl (by decide) (.slice (some ⟨gb, 0, none⟩) 16 cap) 16 xs rfl (HO.out.alloc _) ⟨wr.heap.size, 0, none⟩ 1 1 [.bool false, .string (str v), .slice none 0 0] rfl rfl ?e1 ?e2 (by omega) ?e3 ?e4 ?e5 _ rfl ?e6)
      case e2 => exact ⟨rfl, rfl, rfl⟩
      case e3 => unfold maxLen; omega
      case e5 => have := HB.out.size; simp; omega
      intro g2 cap2 w2 hown2 hgrow2 hat2 hlt2
      have HI2 : Hid (∀ j, j < 17 → ItemIs e w2 (fun q => W1.heap.size ≤ q ∧ g2 ≠ q) (((xs ++ [Value.bool false, Value.string (str v), Value.slice none 0 0]).drop (3 * j)).take 3) (kidT v ks j)) := items_push HO.out hit.out HX1.out hgrow2 (hat2.imp id (fun h => by rw [h]; simp))
      have HO2 : Hid (w2.ownsRow W1.heap.size 47 3 (.slice (some ⟨g2, 0, none⟩) 17 cap2) 17 (xs ++ [.bool false, .string (str v), .slice none 0 0])) := hown2
      have hb2 : Below W1.heap.size W1 w2 := (HB.out.alloc HB.out.size _).grown hgrow2 (by have := HB.out.size; simp; omega) (fun k hk => (HO.out.lt k hk).1)
      have hr2 : w2.heap[w.heap.size]? = some (.cells #[.bool false, .string ⟨#[]⟩, .slice none 0 0] 47 (0, 0)) := (hb2.block _ (by rw [HS1.out]; omega)).trans HR.out
      have q0 : w2.cell? ⟨w.heap.size, 0, none⟩ = some (.bool false) := by rw [cell_of_row w2 _ 0 _ _ _ hr2]; rfl
      have q1 : w2.cell? ⟨w.heap.size, 1, none⟩ = some (.string ⟨#[]⟩) := by rw [cell_of_row w2 _ 1 _ _ _ hr2]; rfl
      have q2 : w2.cell? ⟨w.heap.size, 2, none⟩ = some (.slice none 0 0) := by rw [cell_of_row w2 _ 2 _ _ _ hr2]; rfl
      have fz : ∀ o, w2.frozen? ⟨w.heap.size, o, none⟩ = false := fun o => by simp [World.frozen?, hr2]
      have f0 := fz 0
      have f1 := fz 1
      have f2 := fz 2
      have HB2 : Hid (Below W1.heap.size W1 w2) := hb2
      clear hown2 hgrow2 hat2 hlt2 HX1 HB hit HO hb2 hr2 fz
      go_wp2_with fail
      refine bodyPost_ret (v := .agg #[.bool true, .string ⟨#[]⟩, .slice (some ⟨g2, 0, none⟩) 17 cap2]) (by simp [results, Tryd.results59, go_sem, q0, q1, q2]) rfl ⟨true, ⟨#[]⟩, _, _, _, rfl, ?_, ?_⟩
      · have hW : ∀ W : World, (∀ q, q ≠ w.heap.size → W.heap[q]? = w2.heap[q]?) → ItemIs (e + 1) W (fun q => w.heap.size ≤ q) [.bool true, .string ⟨#[]⟩, .slice (some ⟨g2, 0, none⟩) 17 cap2] (Nd.branch h v ks).item := fun W hW => by
          have hne : ∀ q, W1.heap.size ≤ q → w.heap.size ≤ q ∧ q ≠ w.heap.size := fun q hq => by rw [HS1.out] at hq; omega
          refine item_list e W _ ⟨#[]⟩ _ _ _ (by rw [branch_kids]; exact (own_row HO2.out).move fun q hq _ => ⟨(hne q hq).1, hW q (hne q hq).2⟩) (by rw [branch_kids]; decide) fun j hj => ?_
          rw [branch_kids] at hj
          rw [kidT_at v ks j hj]
          exact ItemIs.move (fun q hq _ => ⟨(hne q hq.1).1, hW q (hne q hq.1).2⟩) e _ _ (HI2.out j hj)
        exact hW _ fun q hq => by simp [heap_setCell_other, hq]
      · exact below_set3 (HB1.out.trans (HB2.out.mono HB1.out.size)) _ _ _
end Go.Proofs.YtenmjjpkbcogbaaDoor

/- TnI -/
namespace Go.Proofs.YtenmjjpkbcogbaaDoor
open Go.RowKit

theorem item_all : ∀ t : Nd, ItemSaid t := by
  intro t
  induction t with
  | nil => intro w S p d _ _ h; exact h.elim
  | unread h => intro w S p d _ _ h; exact h.elim
  | leaf h q v => exact item_leaf h q v
  | ext h q k ih => exact item_ext h q k (ref_of k ih)
  | branch h v ks ih => exact item_branch h v ks fun i _ => ref_of (ks i) (ih i)

/-- A node whose code Encode tells. -/
def Codable (t : Nd) : Prop := flatU 6 t.item = true ∧ t.code.length ≤ 4096
theorem enc_ok {t : Nd} (h : Codable t) : encOut t.item = str t.code := by
  unfold encOut
  rw [if_pos h.1, outC_data _ (by unfold fitsC; exact decide_eq_true h.2)]; rfl

theorem code_calls (w : World) (t : Nd) (S : Nat → Prop) (p : Value) (hA : At w t S p) (hS : Sane t) (hr : t.read) (hc : Codable t) :
    Calls Tryd.prog 45 #[p] w fun e w' => e = .returned (.string (str t.code)) ∧ Below w.heap.size w w' := by
  have HI : Hid (Calls Tryd.prog 59 #[p] w (ItemOut 6 w t.item)) := item_all t w S p 6 hA hS hr hc.1
  have HE : Hid (∀ (W : World) (S : Nat → Prop) (l : Bool) (s : ByteArray) (a : Option Addr) (m c : Nat), ItemIs 6 W S [.bool l, .string s, .slice a m c] t.item → Calls Tryd.prog 26 #[.agg #[.bool l, .string s, .slice a m c]] W fun e w' => e = .returned (.tuple #[.string (str t.code), .int .i64 (encErr t.item)]) ∧ Below W.heap.size W w') := fun W S l s a m c h => by
    have := encode_calls W S _ _ _ _ h
    rw [enc_ok hc] at this; exact this
  obtain ⟨b, kid, kids, rfl, _, _⟩ := hA.blk (by cases t <;> first | exact hr.elim | trivial)
  unfold ptr at *
  clear hA hS hr hc
  generalize encErr t.item = E at *
  generalize str t.code = C at *
  generalize t.item = X at *
  go_enter Tryd.func45, Tryd.ntmps45
  go_wp2_with fail
  refine HI.out.mono ?_
  rintro e w1 ⟨l, s, a, m, c, rfl, hit, hb⟩
  have HIT := HE.out w1 _ l s a m c hit
  have HIT2 : Hid (Calls Tryd.prog 26 #[.agg #[.bool l, .string s, .slice a m c]] w1 fun e w' => e = .returned (.tuple #[.string C, .int .i64 E]) ∧ Below w1.heap.size w1 w') := HIT
  have HB : Hid (Below w.heap.size w w1) := hb
  clear hit hb HIT HE HI
  go_wp2_with fail
  refine HIT2.out.mono ?_
  rintro e w2 ⟨rfl, hb2⟩
  have HB2 : Hid (Below w.heap.size w w2) := HB.out.trans (hb2.mono HB.out.size)
  clear hb2 HIT2
  go_wp2_with fail
  go_ret
  exact ⟨rfl, HB2.out⟩

theorem ncells_hash (k : Int) (h p v h' : ByteArray) (kid : Value) (kids : Nat → Value) : (ncells k h p v kid kids).setIfInBounds 1 (.string h') = ncells k h' p v kid kids := rfl

theorem kind_mk (t : Nd) : t.mk.kind = t.kind := by cases t <;> rfl
theorem path_mk (t : Nd) : t.mk.path = t.path := by cases t <;> rfl
theorem value_mk (t : Nd) : t.mk.value = t.value := by cases t <;> rfl
theorem hash_mk (t : Nd) (h : t.read) : t.mk.hash = hashOf t.code := by cases t <;> first | exact h.elim | rfl

set_option maxRecDepth 100000 in
set_option maxHeartbeats 400000 in
theorem hashed_calls (w : World) (t : Nd) (S : Nat → Prop) (b : Nat) (kid : Value) (kids : Nat → Value) (hA : At w t S (ptr b)) (B : Blk w b t kid kids) (hS : Sane t) (hr : t.read) (hh : t.hash = []) (hc : Codable t) (T : Tabs w) :
    Calls Tryd.prog 63 #[ptr b] w fun e w' => e = .returned (ptr b) ∧ Blk w' b t.mk kid kids ∧ Kept b w w' := by
  have HC : Hid (Calls Tryd.prog 45 #[ptr b] w fun e w' => e = .returned (.string (str t.code)) ∧ Below w.heap.size w w') := code_calls w t S _ hA hS hr hc
  have HS : Hid (∀ W, Below w.heap.size w W → Calls Tryd.prog 14 #[.string (str t.code)] W fun e w' => e = .returned (.string (str (hashL t.code))) ∧ Below W.heap.size W w') := fun W hW => by
    have := sum_calls (str t.code) (by rw [str_size]; unfold maxLen; have := hc.2; omega) W (T.below hW)
    rw [str_hashL]; exact this
  have hk := kind_mk t
  have hp := path_mk t
  have hv := value_mk t
  have hm := hash_mk t hr
  have hsz : (str t.code).size ≤ 4096 := by rw [str_size]; exact hc.2
  have hlen : (str t.code).size = t.code.length := str_size _
  have HB : Hid (∀ W, W.heap[b]? = w.heap[b]? → hashOf t.code = [] → Blk W b t.mk kid kids) := fun W hW h0 => by
    unfold Blk; rw [hk, hp, hv, hm, h0, ← hh]; exact hW.trans B
  have HB2 : Hid (∀ W : World, W.heap[b]? = w.heap[b]? → hashOf t.code = hashL t.code → Blk (W.setCell ⟨b, 1, none⟩ (.string (str (hashL t.code)))) b t.mk kid kids) := fun W hW h0 => by
    unfold Blk; rw [hk, hp, hv, hm, h0, heap_setCell_same W b 1 _ _ _ (hW.trans B), ncells_hash]
  have c1 : w.cell? ⟨b, 1, none⟩ = some (.string (str t.hash)) := B.c1
  have hfz : w.frozen? ⟨b, 1, none⟩ = false := by simp [World.frozen?, show w.heap[b]? = _ from B]
  have hlt := B.lt
  have HOF : Hid (32 ≤ t.code.length → hashOf t.code = hashL t.code) := fun h => if_pos h
  have HOF2 : Hid (¬ 32 ≤ t.code.length → hashOf t.code = []) := fun h => if_neg h
  unfold ptr at *
  clear hA hS hr hc T B hk hp hv hm
  rw [← hlen] at HOF HOF2
  clear hlen
  generalize str t.code = C at *
  generalize hashOf t.code = HO at *
  generalize hashL t.code = HL at *
  by_cases h32 : 32 ≤ C.size
  · have h32I : (32 : Int) ≤ (C.size : Int) := by omega
    go_enter Tryd.func63, Tryd.ntmps63
    go_wp2_with fail
    refine HC.out.mono ?_
    rintro e w1 ⟨rfl, hb⟩
    have HSS := HS.out w1 hb
    have HSS2 : Hid (Calls Tryd.prog 14 #[.string C] w1 fun e w' => e = .returned (.string (str HL)) ∧ Below w1.heap.size w1 w') := HSS
    have HBB : Hid (Below w.heap.size w w1) := hb
    clear hb HSS HS HC
    go_wp2_with fail
    refine HSS2.out.mono ?_
    rintro e w2 ⟨rfl, hb2⟩
    have hb3 : Below w.heap.size w w2 := HBB.out.trans (hb2.mono HBB.out.size)
    have d1 := (hb3.cell (p := ⟨b, 1, none⟩) hlt).trans c1
    have e1 := (hb3.frozen (p := ⟨b, 1, none⟩) hlt).trans hfz
    have HB3 : Hid (Below w.heap.size w w2) := hb3
    clear hb2 hb3
    go_wp2_with fail
    go_ret
    exact ⟨rfl, HB2.out _ (HB3.out.block b hlt) (HOF.out h32), (Kept.of_below HB3.out b).set 1 _⟩
  · have h32I : ¬ (32 : Int) ≤ (C.size : Int) := by omega
    go_enter Tryd.func63, Tryd.ntmps63
    go_wp2_with fail
    refine HC.out.mono ?_
    rintro e w1 ⟨rfl, hb⟩
    have HBB : Hid (Below w.heap.size w w1) := hb
    clear hb HS HC
    go_wp2_with fail
    go_ret
    exact ⟨rfl, HB.out _ (HBB.out.block b hlt) (HOF2.out h32), Kept.of_below HBB.out b⟩
end Go.Proofs.YtenmjjpkbcogbaaDoor
