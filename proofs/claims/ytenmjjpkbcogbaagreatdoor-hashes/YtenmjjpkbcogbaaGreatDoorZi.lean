import Derived.Test.YtenmjjpkbcogbaaGreatDoorZh
import Derived.Test.YtenmjjpkbcogbaaGreatDoorZd

/- MaS -/
namespace Go.Proofs.YtenmjjpkbcogbaaGreatDoor
open Go.RowKit

theorem Good.tabs {pin : List (Nat × Obj)} {base b c : Nat} {w : World} (h : Good pin base b c w) : Tabs w := let ⟨_, _, I⟩ := h; I.tabs

theorem pure_text (pin : List (Nat × Obj)) (base b c : Nat) (x y z : Int) (s t : ByteArray) (w : World) (G : Good pin base b c w) (hc : c < 2147483648) (hs : s.size ≤ 2147483648) :
    Calls Tryz.prog 19 #[.pointer (some ⟨b, 0, none⟩), opV 50 x y z s t] w fun e w' => Stepped pin base b (c + 1) w (.bool true) e w' := by
  have G0 := G.below (bx_below w 50 x y z s t)
  have HH : Hid (Calls Tryz.prog 24 #[.string s] (bx w 50 x y z s t) fun e w' => e = .returned (.tuple #[.string (hashF s), .bool true]) ∧ Below (bx w 50 x y z s t).heap.size (bx w 50 x y z s t) w') := hashes_calls s hs _ G0.tabs
  have HW : Hid (∀ W, Below w.heap.size w W → Calls Tryz.prog 25 #[.pointer (some ⟨b, 0, none⟩), .string (hashF s)] W fun e w' => e = .returned (.tuple #[]) ∧ Good pin base b (c + 1) w' ∧ Below base W w') := fun W hW => mword_calls pin base b c _ W (G.below hW) (by omega)
  have HB0 : Hid (Below w.heap.size w (bx w 50 x y z s t)) := bx_below w 50 x y z s t
  have hbs := G.base
  generalize hashF s = h at *
  clear G G0 hc hs
  unfold bx at HH HB0
  unfold opV
  go_enter Tryz.func19, Tryz.ntmps19
  go_wp2_with fail
  refine HH.out.mono ?_
  rintro e w1 ⟨rfl, B1⟩
  have HB1 : Hid (Below w.heap.size w w1) := HB0.out.trans (B1.mono HB0.out.size)
  clear B1
  go_wp2_with fail
  refine (HW.out _ HB1.out).mono ?_
  rintro e w2 ⟨rfl, G2, B2⟩
  have HF : Hid (Good pin base b (c + 1) w2 ∧ Below base w w2) := ⟨G2, (HB1.out.mono hbs).trans B2⟩
  clear G2 B2
  go_wp2_with fail
  go_ret
  exact ⟨rfl, HF.out⟩

theorem pure_unpack (pin : List (Nat × Obj)) (base b c : Nat) (x y z : Int) (s t : ByteArray) (w : World) (G : Good pin base b c w) (hs : s.size ≤ 2147483648) :
    Calls Tryz.prog 19 #[.pointer (some ⟨b, 0, none⟩), opV 56 x y z s t] w fun e w' => Stepped pin base b (c + 1) w (.bool true) e w' := by
  have HU : Hid (Calls Tryz.prog 30 #[.string s] (bx w 56 x y z s t) fun e w' => e = .returned (.bool true) ∧ Below (bx w 56 x y z s t).heap.size (bx w 56 x y z s t) w') := unpacks_calls s (by unfold maxLen; omega) _
  have HB0 : Hid (Below w.heap.size w (bx w 56 x y z s t)) := bx_below w 56 x y z s t
  have HG : Hid (∀ W, Below w.heap.size w W → Good pin base b (c + 1) W ∧ Below base w W) := fun W hW => ⟨(G.below hW).more (by omega), hW.mono G.base⟩
  clear G hs
  unfold bx at HU HB0
  unfold opV
  go_enter Tryz.func19, Tryz.ntmps19
  go_wp2_with fail
  refine HU.out.mono ?_
  rintro e w1 ⟨rfl, B1⟩
  have HB1 : Hid (Below w.heap.size w w1) := HB0.out.trans (B1.mono HB0.out.size)
  clear B1
  go_wp2_with fail
  go_ret
  exact ⟨rfl, HG.out _ HB1.out⟩

theorem pure_pack (pin : List (Nat × Obj)) (base b c : Nat) (x y z : Int) (s t : ByteArray) (w : World) (G : Good pin base b c w) (hs : s.size ≤ 2147483648) :
    Calls Tryz.prog 19 #[.pointer (some ⟨b, 0, none⟩), opV 55 x y z s t] w fun e w' => Stepped pin base b (c + 1) w (.bool true) e w' := by
  have HU : Hid (∀ q, Calls Tryz.prog 29 #[.string s, .bool q] (bx w 55 x y z s t) fun e w' => e = .returned (.bool true) ∧ Below (bx w 55 x y z s t).heap.size (bx w 55 x y z s t) w') := fun q => packs_calls s q (by unfold maxLen; omega) _
  have HB0 : Hid (Below w.heap.size w (bx w 55 x y z s t)) := bx_below w 55 x y z s t
  have HG : Hid (∀ W, Below w.heap.size w W → Good pin base b (c + 1) W ∧ Below base w W) := fun W hW => ⟨(G.below hW).more (by omega), hW.mono G.base⟩
  clear G hs
  unfold bx at HU HB0
  unfold opV
  go_enter Tryz.func19, Tryz.ntmps19
  go_wp2_with fail
  refine (HU.out _).mono ?_
  rintro e w1 ⟨rfl, B1⟩
  have HB1 : Hid (Below w.heap.size w w1) := HB0.out.trans (B1.mono HB0.out.size)
  clear B1
  go_wp2_with fail
  go_ret
  exact ⟨rfl, HG.out _ HB1.out⟩

def opO (k x y z : Int) (s t : ByteArray) : Obj := .cells #[.int .i64 k, .int .i64 x, .int .i64 y, .int .i64 z, .string s, .string t] 38 (0, 0)
/-- The step's own copy is read. -/
theorem op_cells {w : World} {q : Nat} {k x y z : Int} {s t : ByteArray} (h : w.heap[q]? = some (opO k x y z s t)) :
    w.cell? ⟨q, 0, none⟩ = some (.int .i64 k) ∧ w.cell? ⟨q, 1, none⟩ = some (.int .i64 x) ∧ w.cell? ⟨q, 2, none⟩ = some (.int .i64 y) ∧ w.cell? ⟨q, 3, none⟩ = some (.int .i64 z) ∧ w.cell? ⟨q, 4, none⟩ = some (.string s) ∧ w.cell? ⟨q, 5, none⟩ = some (.string t) := by
  refine ⟨?_, ?_, ?_, ?_, ?_, ?_⟩ <;> (rw [cell_of_row w q _ _ _ _ h]; rfl)
theorem bx_new (w : World) (k x y z : Int) (s t : ByteArray) : (bx w k x y z s t).heap[w.heap.size]? = some (opO k x y z s t) := heap_alloc_new w _
theorem bx_size (w : World) (k x y z : Int) (s t : ByteArray) : (bx w k x y z s t).heap.size = w.heap.size + 1 := by unfold bx; simp
def cutL (l : Nat → Nat) (n : Nat) : Nat → Nat := fun k => if k < n then l k else 0
theorem cutL_old {l : Nat → Nat} {n k : Nat} (h : k < n) : cutL l n k = l k := by simp [cutL, h]
theorem cutL_new {l : Nat → Nat} {n k : Nat} (h : n ≤ k) : cutL l n k = 0 := by simp [cutL, Nat.not_lt.2 h]

theorem pure_join (pin : List (Nat × Obj)) (base b c : Nat) (x y z : Int) (s t : ByteArray) (w : World) (G : Good pin base b c w) (hc : c < 2147483647) (hx : Rng x) (hy : Rng y) (hz : Rng z) :
    Calls Tryz.prog 19 #[.pointer (some ⟨b, 0, none⟩), opV 54 x y z s t] w fun e w' => Stepped pin base b (c + 1) w (.bool true) e w' := by
  have HJ : Hid (Calls Tryz.prog 27 #[.pointer (some ⟨b, 0, none⟩), .int .i64 x] (bx w 54 x y z s t) fun e w' => e = .returned (.tuple #[]) ∧ Good pin base b (c + 1) w' ∧ Below base (bx w 54 x y z s t) w' ∧ w'.heap[w.heap.size]? = (bx w 54 x y z s t).heap[w.heap.size]?) := by
    obtain ⟨l, D, I⟩ := G
    exact mjoin_calls pin base b c x _ _ D ((I.relab (cutL l w.heap.size) fun k hk => cutL_old hk).below (bx_below w 54 x y z s t)) (by omega) hx w.heap.size (by rw [bx_size]; omega) (cutL_new (Nat.le_refl _))
  have HV : Hid (∀ W, Good pin base b (c + 1) W → Calls Tryz.prog 31 #[.pointer (some ⟨b, 0, none⟩), opV 54 x y z s t] W fun e w' => e = .returned (.bool true) ∧ Below W.heap.size W w') := fun W hW => verify_calls pin base b (c + 1) 54 x y z s t W hW (by omega) hy hz (by decide) (by decide) (by decide)
  have HB0 : Hid (Below base w (bx w 54 x y z s t)) := (bx_below w 54 x y z s t).mono G.base
  have HO : Hid ((bx w 54 x y z s t).heap[w.heap.size]? = some (opO 54 x y z s t)) := bx_new _ _ _ _ _ _ _
  clear G hx hy hz hc
  unfold bx at HJ HB0 HO
  unfold opV at HV ⊢
  go_enter Tryz.func19, Tryz.ntmps19
  go_wp2_with fail
  refine HJ.out.mono ?_
  rintro e w1 ⟨rfl, G1, B1, hq⟩
  obtain ⟨p0, p1, p2, p3, p4, p5⟩ := op_cells (hq.trans HO.out)
  have HG1 : Hid (Good pin base b (c + 1) w1) := G1
  have HB1 : Hid (Below base w w1) := HB0.out.trans B1
  clear G1 B1 hq
  go_wp2_with fail
  refine (HV.out _ HG1.out).mono ?_
  rintro e w2 ⟨rfl, B2⟩
  have HF : Hid (Good pin base b (c + 1) w2 ∧ Below base w w2) := ⟨HG1.out.below B2, HB1.out.trans (B2.mono HG1.out.base)⟩
  clear B2
  go_wp2_with fail
  go_ret
  exact ⟨rfl, HF.out⟩

set_option maxRecDepth 100000 in
set_option maxHeartbeats 1000000 in
theorem pure_item (pin : List (Nat × Obj)) (base b c : Nat) (x y z : Int) (s t : ByteArray) (w : World) (G : Good pin base b c w) (hc : c < 2147483647) (hs : s.size ≤ 2147483648) (hy : Rng y) (hz : Rng z) :
    Calls Tryz.prog 19 #[.pointer (some ⟨b, 0, none⟩), opV 53 x y z s t] w fun e w' => Stepped pin base b (c + 1) w (.bool true) e w' := by
  have HV : Hid (∀ W, Good pin base b (c + 1) W → Calls Tryz.prog 31 #[.pointer (some ⟨b, 0, none⟩), opV 53 x y z s t] W fun e w' => e = .returned (.bool true) ∧ Below W.heap.size W w') := fun W hW => verify_calls pin base b (c + 1) 53 x y z s t W hW (by omega) hy hz (by decide) (by decide) (by decide)
  obtain ⟨l, D, I⟩ := G
  have hbs := I.bs
  have hblt := I.lt
  have hni := I.nit
  have I0 := (I.relab (cutL l w.heap.size) fun k hk => cutL_old hk).below (bx_below w 53 x y z s t)
  obtain ⟨W, hW⟩ : ∃ W, W = bx w 53 x y z s t := ⟨_, rfl⟩
  have HB0 : Hid (Below w.heap.size w W) := by rw [hW]; exact bx_below w 53 x y z s t
  have ho : W.heap[w.heap.size]? = some (opO 53 x y z s t) := by rw [hW]; exact bx_new _ _ _ _ _ _ _
  have hsW : W.heap.size = w.heap.size + 1 := by rw [hW]; exact bx_size _ _ _ _ _ _ _
  rw [← hW] at I0
  have hq0 : cutL l w.heap.size w.heap.size = 0 := cutL_new (Nat.le_refl _)
  generalize cutL l w.heap.size = l0 at *
  have c12 := I0.cell 12 _ (show (wcells D)[12]? = some D.items from rfl)
  have hbW : b < W.heap.size := I0.lt
  have hbsW : base ≤ W.heap.size := I0.bs
  obtain ⟨i0, hi0, hz0, hz1, hz2⟩ := info_parts info56'
  have c12a : (W.alloc (.cells #[.bool false, .string s, .slice none 0 0] 56)).cell? ⟨b, 12, none⟩ = some D.items := by
    rw [World.cell?_of_block (w := W) (Below.heap_alloc _ _ _ hbW)]; exact c12
  have HOW : Hid (W.ownsRow base 56 3 D.items D.its.length (itCells D.its)) := I0.items.own
  have HADD : Hid (∀ g5 cap5 w5, w5.ownsRow base 56 3 (.slice (some ⟨g5, 0, none⟩) (D.its.length + 1) cap5) (D.its.length + 1) (itCells D.its ++ [.bool false, .string s, .slice none 0 0]) → (W.drew.alloc (.cells #[.bool false, .string s, .slice none 0 0] 56)).grownBy w5 D.items.ownBlock →
      (D.items.ownBlock = some g5 ∨ g5 = (W.drew.alloc (.cells #[.bool false, .string s, .slice none 0 0] 56)).heap.size) →
      Hid (Good pin base b (c + 1) (w5.setCell ⟨b, 12, none⟩ (.slice (some ⟨g5, 0, none⟩) (D.its.length + 1) cap5)) ∧ Below base w (w5.setCell ⟨b, 12, none⟩ (.slice (some ⟨g5, 0, none⟩) (D.its.length + 1) cap5)) ∧ (w5.setCell ⟨b, 12, none⟩ (.slice (some ⟨g5, 0, none⟩) (D.its.length + 1) cap5)).heap[w.heap.size]? = some (opO 53 x y z s t)) ∧ w5.cell? ⟨b, 12, none⟩ = some D.items ∧ w5.frozen? ⟨b, 12, none⟩ = false) := by
    intro g5 cap5 w5 ho5 hg5 ha5
    have hA : Below W.heap.size W (W.drew.alloc (.cells #[.bool false, .string s, .slice none 0 0] 56)) := (Below.refl _ _).drew.alloc (Nat.le_refl _) _
    have J := I0.below hA
    have htk : D.its.take D.its.length = D.its := List.take_length
    have hR : Row base l0 7 (W.drew.alloc (.cells #[.bool false, .string s, .slice none 0 0] 56)) 56 3 D.items D.its.length (itCells (D.its.take D.its.length)) := by rw [htk]; exact J.items
    obtain ⟨G1, B2, hwd, hkq⟩ := J.itemPut _ _ _ _ 0 (item_text 0 _ _ s (.slice none 0 0) (by omega)) rfl D.its.length (Nat.le_refl _) _ hR g5 cap5 w5 (by rw [htk]; exact ho5) hg5 ha5
    refine ⟨⟨G1, (HB0.out.mono hbs).trans ((hA.mono hbsW).trans B2), ?_⟩, by rw [cell_of_row w5 b 12 _ _ _ hwd]; rfl, frozen_of_row w5 b 12 _ _ hwd⟩
    rw [hkq w.heap.size (by have := hA.size; omega) hq0, hA.block _ (by omega)]; exact ho
  obtain ⟨p0, p1, p2, p3, p4, p5⟩ := op_cells ho
  have q4 : (W.alloc (.cells #[.bool false, .string s, .slice none 0 0] 56)).cell? ⟨w.heap.size, 4, none⟩ = some (.string s) := by
    rw [World.cell?_of_block (w := W) (Below.heap_alloc _ _ _ (by show w.heap.size < W.heap.size; omega))]; exact p4
  clear I I0 ho hq0 hy hz
  unfold bx at hW
  unfold opV at HV ⊢
  go_enter Tryz.func19, Tryz.ntmps19
  go_upto_region 12 with fail
  rw [← hW]
  clear hW
  go_region_law (refine step_append_lies _ rfl (.tmp 52) (.tmp 56) 46 rfl base 56 i0 (.agg #[.bool false, .string ⟨#[]⟩, .slice none 0 0]) 3 48 Tryz.underlying46 hi0 hz0 hz1 hz2 rfl (by decide) D.items D.its.length (itCells D.its) (by simp [Act.eval]) (HOW.out.drew.alloc _) ⟨W.heap.size, 0, none⟩ 1 1 [.bool false, .string s, .slice none 0 0] (by simp [Act.eval]) rfl (three_at _ _ _ _ _ rfl) (by intro u hu; simp at hu; rcases hu with rfl | rfl | rfl <;> rfl) (by omega) (by unfold maxLen; omega) (by omega) (by simp; omega) _ rfl ?_; intro g5 cap5 w5 hown5 hgr5 hat5 hlt5; obtain ⟨HF5, e3, g3⟩ := HADD.out g5 cap5 w5 hown5 hgr5 (by simpa using hat5); clear hown5 hgr5 hat5 hlt5)
  all_goals
    obtain ⟨W6, hW6⟩ : ∃ W6, W6 = w5.setCell ⟨b, 12, none⟩ (.slice (some ⟨g5, 0, none⟩) (D.its.length + 1) cap5) := ⟨_, rfl⟩
    obtain ⟨G6, B6, ho6⟩ := HF5.out
    rw [← hW6] at G6 B6 ho6
    have HG6 : Hid (Good pin base b (c + 1) W6 ∧ Below base w W6) := ⟨G6, B6⟩
    obtain ⟨r0, r1, r2, r3, r4, r5⟩ := op_cells ho6
    clear G6 B6 ho6 HF5
    go_upto_region 25 with fail
    rw [← hW6]
    clear hW6
    go_wp2_with fail
    refine (HV.out _ HG6.out.1).mono ?_
    rintro e w7 ⟨rfl, B7⟩
    have HF : Hid (Good pin base b (c + 1) w7 ∧ Below base w w7) := ⟨HG6.out.1.below B7, HG6.out.2.trans (B7.mono HG6.out.1.base)⟩
    clear B7
    go_wp2_with fail
    go_ret
    exact ⟨rfl, HF.out⟩
end Go.Proofs.YtenmjjpkbcogbaaGreatDoor

/- MaT -/
namespace Go.Proofs.YtenmjjpkbcogbaaGreatDoor
open Go.RowKit

set_option maxRecDepth 100000 in
set_option maxHeartbeats 1000000 in
theorem pure_decode (pin : List (Nat × Obj)) (base b c : Nat) (x y z : Int) (s t : ByteArray) (w : World) (G : Good pin base b c w) (hc : c < 2147483647) (hs : s.size ≤ 2147483648) :
    Calls Tryz.prog 19 #[.pointer (some ⟨b, 0, none⟩), opV 51 x y z s t] w fun e w' => Stepped pin base b (c + 1) w (.bool true) e w' := by
  have HDC : Hid (Calls Tryz.prog 26 #[.string s] (bx w 51 x y z s t) fun e w' => (∃ rl rt ra rm rk, e = .returned (.tuple #[.agg #[.bool rl, .string rt, .slice ra rm rk], .bool true]) ∧ ItemIs 6 w' (fun q => (bx w 51 x y z s t).heap.size ≤ q) [.bool rl, .string rt, .slice ra rm rk] (decT s.data.toList)) ∧ Below (bx w 51 x y z s t).heap.size (bx w 51 x y z s t) w') := decodes_calls _ s (by unfold maxLen; omega)
  obtain ⟨l, D, I⟩ := G
  have hbs := I.bs
  have hblt := I.lt
  have hni := I.nit
  have HB0 : Hid (Below w.heap.size w (bx w 51 x y z s t)) := bx_below w 51 x y z s t
  have HS0 : Hid ((bx w 51 x y z s t).heap.size = w.heap.size + 1) := bx_size _ _ _ _ _ _ _
  have HI : Hid (∀ W, Below w.heap.size w W → Inv pin base b c (cutL l w.heap.size) D W) := fun W hW => (I.relab (cutL l w.heap.size) fun k hk => cutL_old hk).below hW
  have HC0 : Hid (∀ k, w.heap.size ≤ k → cutL l w.heap.size k = 0) := fun k hk => cutL_new hk
  generalize cutL l w.heap.size = l0 at *
  obtain ⟨i0, hi0, hz0, hz1, hz2⟩ := info_parts info56'
  clear I hs
  unfold bx at HDC HB0 HS0
  unfold opV
  go_enter Tryz.func19, Tryz.ntmps19
  go_wp2_with fail
  refine HDC.out.mono ?_
  rintro e w1 ⟨⟨ql, qt, qa, qm, qk, rfl, hit⟩, B1⟩
  have B1w : Below w.heap.size w w1 := HB0.out.trans (B1.mono HB0.out.size)
  have B2w : Below w.heap.size w (w1.alloc (.cells #[.bool ql, .string qt, .slice qa qm qk] 56)) := B1w.alloc B1w.size _
  have hit2 : ItemIs 6 (w1.alloc (.cells #[.bool ql, .string qt, .slice qa qm qk] 56)) (fun q => l0 q = 0) [.bool ql, .string qt, .slice qa qm qk] (decT s.data.toList) :=
    ItemIs.move (w := w1) (fun q hq hlt => ⟨HC0.out q (by have := HS0.out; omega), Below.heap_alloc _ _ _ hlt⟩) 6 _ _ hit
  have hloc : (w1.alloc (.cells #[.bool ql, .string qt, .slice qa qm qk] 56)).heap[w1.heap.size]? = some (.cells #[.bool ql, .string qt, .slice qa qm qk] 56 (0, 0)) := heap_alloc_new w1 _
  have hszl : w1.heap.size < (w1.alloc (.cells #[.bool ql, .string qt, .slice qa qm qk] 56)).heap.size := by simp
  obtain ⟨W, hW⟩ : ∃ W, W = w1.alloc (.cells #[.bool ql, .string qt, .slice qa qm qk] 56) := ⟨_, rfl⟩
  rw [← hW] at B2w hit2 hloc hszl
  have I0 := HI.out W B2w
  have c12 := I0.cell 12 _ (show (wcells D)[12]? = some D.items from rfl)
  have hbW : b < W.heap.size := I0.lt
  have hbsW : base ≤ W.heap.size := I0.bs
  have c12a : (W.alloc (.cells #[.bool ql, .string qt, .slice qa qm qk] 56)).cell? ⟨b, 12, none⟩ = some D.items := by
    rw [World.cell?_of_block (w := W) (Below.heap_alloc _ _ _ hbW)]; exact c12
  have L0 : W.cell? ⟨w1.heap.size, 0, none⟩ = some (.bool ql) := by rw [cell_of_row _ _ 0 _ _ _ hloc]; rfl
  have L1 : W.cell? ⟨w1.heap.size, 1, none⟩ = some (.string qt) := by rw [cell_of_row _ _ 1 _ _ _ hloc]; rfl
  have L2 : W.cell? ⟨w1.heap.size, 2, none⟩ = some (.slice qa qm qk) := by rw [cell_of_row _ _ 2 _ _ _ hloc]; rfl
  have HOW : Hid (W.ownsRow base 56 3 D.items D.its.length (itCells D.its)) := I0.items.own
  have HADD : Hid (∀ g5 cap5 w5, w5.ownsRow base 56 3 (.slice (some ⟨g5, 0, none⟩) (D.its.length + 1) cap5) (D.its.length + 1) (itCells D.its ++ [.bool ql, .string qt, .slice qa qm qk]) → (W.drew.alloc (.cells #[.bool ql, .string qt, .slice qa qm qk] 56)).grownBy w5 D.items.ownBlock →
      (D.items.ownBlock = some g5 ∨ g5 = (W.drew.alloc (.cells #[.bool ql, .string qt, .slice qa qm qk] 56)).heap.size) →
      Hid (Good pin base b (c + 1) (w5.setCell ⟨b, 12, none⟩ (.slice (some ⟨g5, 0, none⟩) (D.its.length + 1) cap5)) ∧ Below base w (w5.setCell ⟨b, 12, none⟩ (.slice (some ⟨g5, 0, none⟩) (D.its.length + 1) cap5))) ∧ w5.cell? ⟨b, 12, none⟩ = some D.items ∧ w5.frozen? ⟨b, 12, none⟩ = false) := by
    intro g5 cap5 w5 ho5 hg5 ha5
    have hA : Below W.heap.size W (W.drew.alloc (.cells #[.bool ql, .string qt, .slice qa qm qk] 56)) := (Below.refl _ _).drew.alloc (Nat.le_refl _) _
    have J := I0.below hA
    have htk : D.its.take D.its.length = D.its := List.take_length
    have hR : Row base l0 7 (W.drew.alloc (.cells #[.bool ql, .string qt, .slice qa qm qk] 56)) 56 3 D.items D.its.length (itCells (D.its.take D.its.length)) := by rw [htk]; exact J.items
    obtain ⟨G1, B2, hwd, _⟩ := J.itemPut _ _ _ _ 6 (hit2.below hA) rfl D.its.length (Nat.le_refl _) _ hR g5 cap5 w5 (by rw [htk]; exact ho5) hg5 ha5
    exact ⟨⟨G1, (B2w.mono hbs).trans ((hA.mono hbsW).trans B2)⟩, by rw [cell_of_row w5 b 12 _ _ _ hwd]; rfl, frozen_of_row w5 b 12 _ _ hwd⟩
  clear I0 hit hit2 B1 B1w hloc B2w HDC HI HC0
  go_upto_region 8 with fail
  rw [← hW]
  clear hW
  go_region_law (refine step_append_lies _ rfl (.tmp 38) (.tmp 40) 46 rfl base 56 i0 (.agg #[.bool false, .string ⟨#[]⟩, .slice none 0 0]) 3 48 Tryz.underlying46 hi0 hz0 hz1 hz2 rfl (by decide) D.items D.its.length (itCells D.its) (by simp [Act.eval]) (HOW.out.drew.alloc _) ⟨W.heap.size, 0, none⟩ 1 1 [.bool ql, .string qt, .slice qa qm qk] (by simp [Act.eval]) rfl (three_at _ _ _ _ _ rfl) (by intro u hu; simp at hu; rcases hu with rfl | rfl | rfl <;> rfl) (by omega) (by unfold maxLen; omega) (by omega) (by simp; omega) _ rfl ?_; intro g5 cap5 w5 hown5 hgr5 hat5 hlt5; obtain ⟨HF5, e3, g3⟩ := HADD.out g5 cap5 w5 hown5 hgr5 (by simpa using hat5); clear hown5 hgr5 hat5 hlt5)
  all_goals
    go_wp2_with fail
    go_ret
    exact ⟨rfl, HF5.out⟩

set_option maxRecDepth 100000 in
set_option maxHeartbeats 1000000 in
theorem pure_encode (pin : List (Nat × Obj)) (base b c : Nat) (x y z : Int) (s t : ByteArray) (w : World) (G : Good pin base b c w) (hc : c < 2147483647) (hy : Rng y) (hz : Rng z) :
    Calls Tryz.prog 19 #[.pointer (some ⟨b, 0, none⟩), opV 52 x y z s t] w fun e w' => Stepped pin base b (c + 1) w (.bool true) e w' := by
  have HV : Hid (∀ W, Below w.heap.size w W → Calls Tryz.prog 31 #[.pointer (some ⟨b, 0, none⟩), opV 52 x y z s t] W fun e w' => e = .returned (.bool true) ∧ Below W.heap.size W w') := fun W hW => verify_calls pin base b c 52 x y z s t W (G.below hW) (by omega) hy hz (by decide) (by decide) (by decide)
  have HWD : Hid (∀ u W, Below w.heap.size w W → Calls Tryz.prog 25 #[.pointer (some ⟨b, 0, none⟩), .string u] W fun e w' => e = .returned (.tuple #[]) ∧ Good pin base b (c + 1) w' ∧ Below base W w') := fun u W hW => mword_calls pin base b c u W (G.below hW) (by omega)
  have HGG : Hid (∀ W, Below w.heap.size w W → Good pin base b (c + 1) W ∧ Below base w W) := fun W hW => ⟨(G.below hW).more (by omega), hW.mono G.base⟩
  obtain ⟨l, D, I⟩ := G
  have hbs := I.bs
  have hblt := I.lt
  have hni := I.nit
  have HB0 : Hid (Below w.heap.size w (bx w 52 x y z s t)) := bx_below w 52 x y z s t
  obtain ⟨a12, k12, h12, hcap, _, f12⟩ := own_form I.items.own
  have c12 := I.cell 12 _ (show (wcells D)[12]? = some D.items from rfl)
  rw [h12] at c12
  by_cases h0 : D.its.length = 0
  · rw [h0] at c12
    clear I
    unfold bx at HB0
    unfold opV at HV ⊢
    go_enter Tryz.func19, Tryz.ntmps19
    go_wp2_with fail
    refine (HV.out _ HB0.out).mono ?_
    rintro e w1 ⟨rfl, B1⟩
    have HB1 : Hid (Below w.heap.size w w1) := HB0.out.trans (B1.mono HB0.out.size)
    clear B1
    go_wp2_with fail
    go_ret
    exact ⟨rfl, HGG.out _ HB1.out⟩
  · obtain ⟨M, hM⟩ : ∃ M, D.its.length = M + 1 := ⟨D.its.length - 1, by omega⟩
    rcases f12 with ⟨_, h, _⟩ | ⟨gi, rfl⟩
    · omega
    have hp : D.its[M]? = some (D.its[M]'(by omega)) := List.getElem?_eq_getElem (by omega)
    have hit := (I.itm _ (List.getElem_mem (show M < D.its.length by omega))).1
    have hgi := (I.items.own.lt gi (by rw [h12]; rfl)).2
    have hcl : ∀ j v, [(D.its[M]'(by omega)).1, (D.its[M]'(by omega)).2.1, (D.its[M]'(by omega)).2.2.1][j]? = some v → w.cell? ⟨gi, M * 3 + j, none⟩ = some v := fun j v hv => by
      refine own_cell I.items.own (by rw [h12]; rfl) (M * 3 + j) v ?_
      rw [← itCells_get _ _ _ hp, List.getElem?_take] at hv
      split at hv
      · rw [List.getElem?_drop, Nat.mul_comm 3 M] at hv; exact hv
      · cases hv
    generalize D.its[M]'(by omega) = p at *
    obtain ⟨v0, v1, v2, tr⟩ := p
    have q0 := hcl 0 v0 rfl
    have q1 := hcl 1 v1 rfl
    have q2 := hcl 2 v2 rfl
    have HE : Hid (∀ W, Below w.heap.size w W → Calls Tryz.prog 28 #[.agg #[v0, v1, v2]] W fun e w' => e = .returned (.tuple #[.string (encOut tr), .bool true]) ∧ Below W.heap.size W w') := fun W hW => encodes_calls D.d W _ v0 v1 v2 tr (hit.below hW)
    generalize encOut tr = eo at *
    generalize D.its.length = N at *
    have hMb : N ≤ 2147483648 := by omega
    have hN1 : (N : Int) - 1 = (M : Int) := by omega
    have hN2 : (M : Int) < (N : Int) := by omega
    have hN3 : (0 : Int) < (N : Int) := by omega
    have hwM : IntKind.i64.wrap (M : Int) = (M : Int) := by rw [IntKind.wrap_i64]; omega
    clear I hit hcl hp h12 hcap hM h0
    rw [Nat.add_zero] at q0
    unfold bx at HB0
    unfold opV
    go_enter Tryz.func19, Tryz.ntmps19
    go_upto_region 18 with fail
    obtain ⟨W, hW⟩ : ∃ W, W = w.alloc (.cells #[.int .i64 52, .int .i64 x, .int .i64 y, .int .i64 z, .string s, .string t] 38) := ⟨_, rfl⟩
    rw [← hW] at HB0 ⊢
    have d12 := cell_below HB0.out c12
    have r0 := cell_below HB0.out q0
    have r1 := cell_below HB0.out q1
    have r2 := cell_below HB0.out q2
    clear hW c12 q0 q1 q2
    go_cut [11, 12] (fun u v wx => u = .string eo ∧ v = .bool true ∧ Below W.heap.size W wx)
    case first =>
      go_region_with (go_at_call 28; refine (HE.out _ (by first | exact HB0.out | exact HB0.out.drew | exact HB0.out.drew.drew)).mono ?_; rintro e1 w1 ⟨rfl, B1⟩)
      all_goals (have HB1 : Hid _ := B1; clear B1; go_wp2_with fail; go_meet; exact ⟨rfl, rfl, by first | exact HB1.out | exact HB1.out.drew | exact (Below.refl _ _).drew.trans HB1.out⟩)
    case rest =>
      obtain ⟨rfl, rfl, B1⟩ := hcut
      have HB1 : Hid (Below w.heap.size w wc) := HB0.out.trans (B1.mono HB0.out.size)
      clear B1
      go_wp2_with fail
      refine (HWD.out _ _ HB1.out).mono ?_
      rintro e w2 ⟨rfl, G2, B2⟩
      have HF : Hid (Good pin base b (c + 1) w2 ∧ Below base w w2) := ⟨G2, (HB1.out.mono hbs).trans B2⟩
      clear G2 B2
      go_wp2_with fail
      go_ret
      exact ⟨rfl, HF.out⟩
end Go.Proofs.YtenmjjpkbcogbaaGreatDoor

/- MaU -/
namespace Go.Proofs.YtenmjjpkbcogbaaGreatDoor
open Go.RowKit

theorem drive_owner (pin : List (Nat × Obj)) (base b c c' : Nat) (k x y z : Int) (s t : ByteArray) (w : World) (G : Good pin base b c w)
    (h : ∀ W, Good pin base b c W → Calls Tryz.prog 32 #[.pointer (some ⟨b, 0, none⟩), opV k x y z s t] W fun e w' => Stepped pin base b c' W (.bool true) e w') :
    Calls Tryz.prog 20 #[.pointer (some ⟨b, 0, none⟩), opV k x y z s t] w fun e w' => Stepped pin base b c' w (.bool true) e w' := by
  have HO : Hid (Calls Tryz.prog 32 #[.pointer (some ⟨b, 0, none⟩), opV k x y z s t] (bx w k x y z s t) fun e w' => Stepped pin base b c' (bx w k x y z s t) (.bool true) e w') := h _ (G.below (bx_below w k x y z s t))
  have HB0 : Hid (Below base w (bx w k x y z s t)) := (bx_below w k x y z s t).mono G.base
  clear G h
  unfold bx at HO HB0
  unfold opV at HO ⊢
  go_enter Tryz.func20, Tryz.ntmps20
  go_wp2_with fail
  refine HO.out.mono ?_
  rintro e w1 ⟨rfl, G1, B1⟩
  have HF : Hid (Good pin base b c' w1 ∧ Below base w w1) := ⟨G1, HB0.out.trans B1⟩
  clear G1 B1
  go_wp2_with fail
  go_ret
  exact ⟨rfl, HF.out⟩

set_option maxRecDepth 100000 in
theorem drive_hashed (pin : List (Nat × Obj)) (base b c c' : Nat) (k x y z : Int) (s t : ByteArray) (w : World) (G : Good pin base b c w) (hk : 36 ≤ k) (hk2 : k ≤ 40)
    (h : ∀ W, Good pin base b c W → Calls Tryz.prog 36 #[.pointer (some ⟨b, 0, none⟩), opV k x y z s t] W fun e w' => Stepped pin base b c' W (.bool true) e w') :
    Calls Tryz.prog 20 #[.pointer (some ⟨b, 0, none⟩), opV k x y z s t] w fun e w' => Stepped pin base b c' w (.bool true) e w' := by
  have HO : Hid (Calls Tryz.prog 32 #[.pointer (some ⟨b, 0, none⟩), opV k x y z s t] (bx w k x y z s t) fun e w' => e = .returned (.bool false) ∧ Below (bx w k x y z s t).heap.size (bx w k x y z s t) w') :=
    owner_other b k x y z s t _ (by omega) (by omega) (by omega) (by omega) (by omega) (by omega) (by omega) (by omega)
  have HH : Hid (∀ W, Below w.heap.size w W → Calls Tryz.prog 36 #[.pointer (some ⟨b, 0, none⟩), opV k x y z s t] W fun e w' => Stepped pin base b c' W (.bool true) e w') := fun W hW => h W (G.below hW)
  have HB0 : Hid (Below w.heap.size w (bx w k x y z s t)) := bx_below w k x y z s t
  have HN : Hid ((bx w k x y z s t).heap[w.heap.size]? = some (opO k x y z s t)) := bx_new _ _ _ _ _ _ _
  have HS : Hid ((bx w k x y z s t).heap.size = w.heap.size + 1) := bx_size _ _ _ _ _ _ _
  have hbs := G.base
  clear G h
  unfold bx at HO HB0 HN HS
  unfold opV at HO HH ⊢
  have hcases : k = 36 ∨ k = 37 ∨ k = 38 ∨ k = 39 ∨ k = 40 := by omega
  clear hk hk2
  rcases hcases with rfl | rfl | rfl | rfl | rfl
  all_goals
    go_enter Tryz.func20, Tryz.ntmps20
    go_wp2_with fail
    refine HO.out.mono ?_
    rintro e w1 ⟨rfl, B1⟩
    obtain ⟨p0, p1, p2, p3, p4, p5⟩ := op_cells ((B1.block w.heap.size (by have := HS.out; omega)).trans HN.out)
    have HB1 : Hid (Below w.heap.size w w1) := HB0.out.trans (B1.mono HB0.out.size)
    clear B1
    go_wp2_with fail
    refine (HH.out _ HB1.out).mono ?_
    rintro e w2 ⟨rfl, G2, B2⟩
    have HF : Hid (Good pin base b c' w2 ∧ Below base w w2) := ⟨G2, (HB1.out.mono hbs).trans B2⟩
    clear G2 B2
    go_wp2_with fail
    go_ret
    exact ⟨rfl, HF.out⟩

/-- The kinds of the first part. -/
def kinds1 : List Int := [29, 22, 30, 31, 32, 33, 34, 35, 36, 37, 38, 39, 40, 50, 51, 52, 53, 54, 55, 56]

theorem drive_calls (pin : List (Nat × Obj)) (base b c : Nat) (k x y z : Int) (s t : ByteArray) (w : World) (G : Good pin base b c w) (hc : c < 2147483647) (hs : s.size ≤ 2147483648) (hx : Rng x) (hy : Rng y) (hz : Rng z)
    (hk : k ∈ kinds1) (h50 : k < 50) :
    Calls Tryz.prog 20 #[.pointer (some ⟨b, 0, none⟩), opV k x y z s t] w fun e w' => Stepped pin base b (c + 1 + s.size) w (.bool true) e w' := by
  have up : ∀ {e : Ending} {w w' : World}, Stepped pin base b (c + 1) w (.bool true) e w' → Stepped pin base b (c + 1 + s.size) w (.bool true) e w' := fun h => ⟨h.1, h.2.1.more (by omega), h.2.2⟩
  have hash : ∀ k, (k = 37 ∨ k = 38 ∨ k = 39 ∨ k = 40) → ∀ W, Good pin base b c W → Calls Tryz.prog 36 #[.pointer (some ⟨b, 0, none⟩), opV k x y z s t] W fun e w' => Stepped pin base b (c + 1 + s.size) W (.bool true) e w' := by
    intro k hk W hW
    obtain ⟨l, D, I⟩ := hW
    by_cases h0 : D.hs.length = 0
    · exact (hashed_none pin base b c k x y z s t W l D I h0 (by omega)).mono fun e w' h => up h
    · rcases hk with rfl | rfl | rfl | rfl
      · exact hashed_take pin base b c x y z s t W l D I (by omega) h0 hx hs
      · exact (hashed_sum pin base b c x y z s t W l D I (by omega) h0 hx).mono fun e w' h => up h
      · exact (hashed_anew pin base b c x y z s t W l D I (by omega) h0 hx).mono fun e w' h => up h
      · exact (hashed_twin pin base b c x y z s t W l D I (by omega) h0 hx).mono fun e w' h => up h
  simp only [kinds1, List.mem_cons, List.not_mem_nil, or_false] at hk
  rcases hk with rfl | rfl | rfl | rfl | rfl | rfl | rfl | rfl | rfl | rfl | rfl | rfl | rfl | rfl | rfl | rfl | rfl | rfl | rfl | rfl
  · exact drive_owner pin base b c _ _ x y z s t w G fun W hW => (owner_word pin base b c x y z s t W hW (by omega)).mono fun e w' h => up h
  · exact drive_owner pin base b c _ _ x y z s t w G fun W hW => (owner_value pin base b c x y z s t W hW).mono fun e w' h => up h
  · exact drive_owner pin base b c _ _ x y z s t w G fun W hW => (owner_add pin base b c x y z s t W hW (by omega) hz).mono fun e w' h => up h
  · exact drive_owner pin base b c _ _ x y z s t w G fun W hW => (owner_clear pin base b c x y z s t W hW).mono fun e w' h => up h
  · exact drive_owner pin base b c _ _ x y z s t w G fun W hW => (owner_list pin base b c x y z s t W hW (by omega)).mono fun e w' h => up h
  · exact drive_owner pin base b c _ _ x y z s t w G fun W hW => (owner_nil pin base b c x y z s t W hW (by omega)).mono fun e w' h => up h
  · exact drive_owner pin base b c _ _ x y z s t w G fun W hW => (owner_cell pin base b c x y z s t W hW (by omega) hx hy hz).mono fun e w' h => up h
  · exact drive_owner pin base b c _ _ x y z s t w G fun W hW => (owner_part pin base b c x y z s t W hW hx hy hz).mono fun e w' h => up h
  · exact drive_hashed pin base b c _ _ x y z s t w G (by decide) (by decide) fun W hW => (hashed_new pin base b c x y z s t W hW (by omega)).mono fun e w' h => up h
  · exact drive_hashed pin base b c _ _ x y z s t w G (by decide) (by decide) fun W hW => hash 37 (by simp) W hW
  · exact drive_hashed pin base b c _ _ x y z s t w G (by decide) (by decide) fun W hW => hash 38 (by simp) W hW
  · exact drive_hashed pin base b c _ _ x y z s t w G (by decide) (by decide) fun W hW => hash 39 (by simp) W hW
  · exact drive_hashed pin base b c _ _ x y z s t w G (by decide) (by decide) fun W hW => hash 40 (by simp) W hW
  all_goals exact absurd h50 (by decide)

theorem pure_calls (pin : List (Nat × Obj)) (base b c : Nat) (k x y z : Int) (s t : ByteArray) (w : World) (G : Good pin base b c w) (hc : c < 2147483646) (hs : s.size ≤ 2147483648) (hx : Rng x) (hy : Rng y) (hz : Rng z)
    (hk : k ∈ kinds1) (h50 : 50 ≤ k) :
    Calls Tryz.prog 19 #[.pointer (some ⟨b, 0, none⟩), opV k x y z s t] w fun e w' => Stepped pin base b (c + 1 + s.size) w (.bool true) e w' := by
  have up : ∀ {e : Ending} {w w' : World}, Stepped pin base b (c + 1) w (.bool true) e w' → Stepped pin base b (c + 1 + s.size) w (.bool true) e w' := fun h => ⟨h.1, h.2.1.more (by omega), h.2.2⟩
  simp only [kinds1, List.mem_cons, List.not_mem_nil, or_false] at hk
  rcases hk with rfl | rfl | rfl | rfl | rfl | rfl | rfl | rfl | rfl | rfl | rfl | rfl | rfl | rfl | rfl | rfl | rfl | rfl | rfl | rfl
  iterate 13 exact absurd h50 (by decide)
  · exact (pure_text pin base b c x y z s t w G (by omega) hs).mono fun e w' h => up h
  · exact (pure_decode pin base b c x y z s t w G (by omega) hs).mono fun e w' h => up h
  · exact (pure_encode pin base b c x y z s t w G (by omega) hy hz).mono fun e w' h => up h
  · exact (pure_item pin base b c x y z s t w G (by omega) hs hy hz).mono fun e w' h => up h
  · exact (pure_join pin base b c x y z s t w G (by omega) hx hy hz).mono fun e w' h => up h
  · exact (pure_pack pin base b c x y z s t w G hs).mono fun e w' h => up h
  · exact (pure_unpack pin base b c x y z s t w G hs).mono fun e w' h => up h

theorem above_in (k : Int) (hk : k ∈ kinds1) (w : World) : Calls Tryz.prog 18 #[.int .i64 k, .int .i64 1] w fun e w' => e = .returned (.bool false) ∧ w' = w := by
  simp only [kinds1, List.mem_cons, List.not_mem_nil, or_false] at hk
  rcases hk with rfl | rfl | rfl | rfl | rfl | rfl | rfl | rfl | rfl | rfl | rfl | rfl | rfl | rfl | rfl | rfl | rfl | rfl | rfl | rfl
  all_goals
    go_enter Tryz.func18, Tryz.ntmps18
    go_wp2
    go_ret
    exact ⟨rfl, rfl⟩
end Go.Proofs.YtenmjjpkbcogbaaGreatDoor

/- MaX -/
namespace Go.Proofs.YtenmjjpkbcogbaaGreatDoor
open Go.RowKit

set_option maxRecDepth 100000 in
set_option maxHeartbeats 4000000 in
theorem above_out (k : Int) (hk : k ∉ kinds1) (w : World) : Calls Tryz.prog 18 #[.int .i64 k, .int .i64 1] w fun e w' => e = .returned (.bool true) ∧ w' = w := by
  simp only [kinds1, List.mem_cons, List.not_mem_nil, or_false, not_or] at hk
  obtain ⟨h1, h2, h3, h4, h5, h6, h7, h8, h9, h10, h11, h12, h13, h14, h15, h16, h17, h18, h19, h20⟩ := hk
  by_cases g1 : k = 1
  · subst g1; go_enter Tryz.func18, Tryz.ntmps18; go_wp2; go_ret; exact ⟨rfl, rfl⟩
  by_cases g2 : k = 2
  · subst g2; go_enter Tryz.func18, Tryz.ntmps18; go_wp2; go_ret; exact ⟨rfl, rfl⟩
  by_cases g3 : k = 3
  · subst g3; go_enter Tryz.func18, Tryz.ntmps18; go_wp2; go_ret; exact ⟨rfl, rfl⟩
  by_cases g4 : k = 4
  · subst g4; go_enter Tryz.func18, Tryz.ntmps18; go_wp2; go_ret; exact ⟨rfl, rfl⟩
  by_cases g5 : k = 5
  · subst g5; go_enter Tryz.func18, Tryz.ntmps18; go_wp2; go_ret; exact ⟨rfl, rfl⟩
  by_cases g6 : k = 6
  · subst g6; go_enter Tryz.func18, Tryz.ntmps18; go_wp2; go_ret; exact ⟨rfl, rfl⟩
  by_cases g7 : k = 7
  · subst g7; go_enter Tryz.func18, Tryz.ntmps18; go_wp2; go_ret; exact ⟨rfl, rfl⟩
  by_cases g8 : k = 8
  · subst g8; go_enter Tryz.func18, Tryz.ntmps18; go_wp2; go_ret; exact ⟨rfl, rfl⟩
  by_cases g9 : k = 9
  · subst g9; go_enter Tryz.func18, Tryz.ntmps18; go_wp2; go_ret; exact ⟨rfl, rfl⟩
  by_cases g10 : k = 10
  · subst g10; go_enter Tryz.func18, Tryz.ntmps18; go_wp2; go_ret; exact ⟨rfl, rfl⟩
  by_cases g11 : k = 11
  · subst g11; go_enter Tryz.func18, Tryz.ntmps18; go_wp2; go_ret; exact ⟨rfl, rfl⟩
  by_cases g12 : k = 12
  · subst g12; go_enter Tryz.func18, Tryz.ntmps18; go_wp2; go_ret; exact ⟨rfl, rfl⟩
  by_cases g13 : k = 41
  · subst g13; go_enter Tryz.func18, Tryz.ntmps18; go_wp2; go_ret; exact ⟨rfl, rfl⟩
  by_cases g14 : k = 13
  · subst g14; go_enter Tryz.func18, Tryz.ntmps18; go_wp2; go_ret; exact ⟨rfl, rfl⟩
  by_cases g15 : k = 57
  · subst g15; go_enter Tryz.func18, Tryz.ntmps18; go_wp2; go_ret; exact ⟨rfl, rfl⟩
  go_enter Tryz.func18, Tryz.ntmps18
  go_wp2
  go_ret
  exact ⟨rfl, rfl⟩
end Go.Proofs.YtenmjjpkbcogbaaGreatDoor
