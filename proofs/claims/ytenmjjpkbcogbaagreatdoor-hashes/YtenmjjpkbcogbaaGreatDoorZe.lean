import Derived.Laws.AppendOwn
import Derived.Deep.AppendLies
import Derived.Below
import Derived.Test.YtenmjjpkbcogbaaGreatDoorZa
import Derived.Test.YtenmjjpkbcogbaaGreatDoorZb
import Derived.Lib.ConvBytes
import Derived.Lib.FrozenHead
import Derived.Test.YtenmjjpkbcogbaaGreatDoorZd

/- MaA -/
namespace Go.Proofs.YtenmjjpkbcogbaaGreatDoor
open Go.RowKit

/-- From w to w' only blocks whose label T has were written; labels stay. -/
structure Moved (T : Nat → Prop) (l l' : Nat → Nat) (w w' : World) : Prop where
  size : w.heap.size ≤ w'.heap.size
  lab : ∀ k, k < w.heap.size → l' k = l k
  blk : ∀ k, k < w.heap.size → ¬ T (l k) → w'.heap[k]? = w.heap[k]?

theorem Moved.mono {T T' : Nat → Prop} {l l' : Nat → Nat} {w w' : World} (m : Moved T l l' w w') (h : ∀ x, T x → T' x) : Moved T' l l' w w' :=
  ⟨m.size, m.lab, fun k hk hn => m.blk k hk fun ht => hn (h _ ht)⟩
theorem Moved.trans {T : Nat → Prop} {l l' l'' : Nat → Nat} {w w' w'' : World} (m : Moved T l l' w w') (m' : Moved T l' l'' w' w'') : Moved T l l'' w w'' :=
  ⟨Nat.le_trans m.size m'.size, fun k hk => (m'.lab k (Nat.lt_of_lt_of_le hk m.size)).trans (m.lab k hk),
    fun k hk hn => (m'.blk k (Nat.lt_of_lt_of_le hk m.size) (by rw [m.lab k hk]; exact hn)).trans (m.blk k hk hn)⟩
theorem Moved.below {w w' : World} (l : Nat → Nat) (h : Below w.heap.size w w') : Moved (fun _ => False) l l w w' :=
  ⟨h.size, fun _ _ => rfl, fun k hk _ => h.block k hk⟩

/-- A label for one new block, none for the others that are new. -/
def newLab (l : Nat → Nat) (size g L : Nat) : Nat → Nat := fun k => if k < size then l k else if k = g then L else 0
theorem newLab_old {l : Nat → Nat} {size g L k : Nat} (h : k < size) : newLab l size g L k = l k := by simp [newLab, h]
theorem newLab_new {l : Nat → Nat} {size g L : Nat} (h : size ≤ g) : newLab l size g L g = L := by simp [newLab, Nat.not_lt.2 h]

/-- A slice owns its row, under a label. -/
structure Row (base : Nat) (l : Nat → Nat) (L : Nat) (w : World) (e : TypeId) (sz : Nat) (v : Value) (n : Nat) (xs : List Value) : Prop where
  own : w.ownsRow base e sz v n xs
  lab : ∀ g, v.ownBlock = some g → l g = L

theorem own_kept {w w' : World} {base : Nat} {e : TypeId} {sz : Nat} {v : Value} {n : Nat} {xs : List Value} (h : w.ownsRow base e sz v n xs)
    (hk : ∀ g, v.ownBlock = some g → w'.heap[g]? = w.heap[g]?) : w'.ownsRow base e sz v n xs := by
  refine ⟨h.1, ?_⟩
  rcases h.2 with hn | ⟨g, cap, cur, rfl, hb, hg, rest⟩
  · exact .inl hn
  · exact .inr ⟨g, cap, cur, rfl, hb, by rw [hk g rfl]; exact hg, rest⟩

theorem Row.move {T : Nat → Prop} {l l' : Nat → Nat} {w w' : World} {base L : Nat} {e : TypeId} {sz : Nat} {v : Value} {n : Nat} {xs : List Value}
    (h : Row base l L w e sz v n xs) (m : Moved T l l' w w') (hL : ¬ T L) : Row base l' L w' e sz v n xs :=
  ⟨own_kept h.own fun g hg => m.blk g (h.own.lt g hg).2 (by rw [h.lab g hg]; exact hL), fun g hg => (m.lab g (h.own.lt g hg).2).trans (h.lab g hg)⟩

theorem Row.nil (base : Nat) (l : Nat → Nat) (L : Nat) (w : World) (e : TypeId) (sz : Nat) : Row base l L w e sz (.slice none 0 0) 0 [] :=
  ⟨World.ownsRow_nil w base e sz, fun g hg => by simp [Value.ownBlock] at hg⟩

/-- Behind an append to a row: what moved, and the row. -/
theorem Row.appended {l : Nat → Nat} {w w' : World} {base L : Nat} {e : TypeId} {sz : Nat} {v : Value} {n m g cap : Nat} {xs ys : List Value}
    (h : Row base l L w e sz v n xs) (o : w'.ownsRow base e sz (.slice (some ⟨g, 0, none⟩) (n + m) cap) (n + m) ys) (gr : w.grownBy w' v.ownBlock) (hg : v.ownBlock = some g ∨ g = w.heap.size) :
    Moved (fun x => x = L) l (newLab l w.heap.size g L) w w' ∧ Row base (newLab l w.heap.size g L) L w' e sz (.slice (some ⟨g, 0, none⟩) (n + m) cap) (n + m) ys := by
  refine ⟨⟨gr.size, fun k hk => newLab_old hk, fun k hk hn => gr.block k hk fun he => hn (h.lab k he.symm)⟩, ⟨o, fun g' hg' => ?_⟩⟩
  have : g' = g := by simpa [Value.ownBlock] using hg'.symm
  subst this
  rcases hg with hg | hg
  · rw [newLab_old (h.own.lt g' hg).2]; exact h.lab g' hg
  · exact newLab_new (by omega)

theorem grown_below {w w' : World} {base : Nat} {row : Option Nat} (h : w.grownBy w' row) (hr : ∀ g, row = some g → base ≤ g) (hb : base ≤ w.heap.size) : Below base w w' :=
  ⟨h.os, h.tape, h.output, h.size, fun k hk => h.block k (by omega) fun he => by have := hr k he.symm; omega⟩

/-- The cells of a row. -/
theorem own_cell {w : World} {base : Nat} {e : TypeId} {sz : Nat} {v : Value} {n : Nat} {xs : List Value} (h : w.ownsRow base e sz v n xs) {g : Nat} (hg : v.ownBlock = some g) (j : Nat) (u : Value) (hu : xs[j]? = some u) : w.cell? ⟨g, j, none⟩ = some u := by
  have hadd : (⟨g, 0, none⟩ : Addr).add j = ⟨g, j, none⟩ := by unfold Addr.add; split <;> simp_all
  rw [← hadd]; exact h.cells hg j u hu
theorem own_free {w : World} {base : Nat} {e : TypeId} {sz : Nat} {v : Value} {n : Nat} {xs : List Value} (h : w.ownsRow base e sz v n xs) {g : Nat} (hg : v.ownBlock = some g) (j : Nat) : w.frozen? ⟨g, j, none⟩ = false := by
  rcases h.2 with ⟨rfl, _⟩ | ⟨g', cap, cur, rfl, hb, hgg, _⟩
  · simp [Value.ownBlock] at hg
  · simp [Value.ownBlock] at hg
    subst hg
    exact frozen_of_row w g' j _ _ hgg

/-- A cell of a row is set. -/
theorem own_set {w : World} {base : Nat} {e : TypeId} {sz : Nat} {v : Value} {n : Nat} {xs : List Value} (h : w.ownsRow base e sz v n xs) {g : Nat} (hg : v.ownBlock = some g) (j : Nat) (u : Value) :
    (w.setCell ⟨g, j, none⟩ u).ownsRow base e sz v n (xs.set j u) := by
  refine ⟨by rw [List.length_set]; exact h.1, ?_⟩
  rcases h.2 with ⟨rfl, _⟩ | ⟨g', cap, cur, rfl, hb, hgg, hn, hm, hs, ht⟩
  · simp [Value.ownBlock] at hg
  · simp [Value.ownBlock] at hg
    subst hg
    refine .inr ⟨g', cap, cur.setIfInBounds j u, rfl, hb, ?_, hn, hm, by simpa using hs, ?_⟩
    · rw [setCell_eq_setRow w g' j cur e (0, 0) u hgg]; exact setRow_heap w g' cur _ e _ hgg
    · rw [Array.toList_setIfInBounds, List.take_set, ht]

theorem own_form {w : World} {base : Nat} {e : TypeId} {sz : Nat} {v : Value} {n : Nat} {xs : List Value} (h : w.ownsRow base e sz v n xs) :
    ∃ a cap, v = .slice a n cap ∧ n ≤ cap ∧ cap ≤ maxLen ∧ (a = none ∧ n = 0 ∧ cap = 0 ∨ ∃ g, a = some ⟨g, 0, none⟩) := by
  rcases h.2 with ⟨rfl, rfl⟩ | ⟨g, cap, cur, rfl, hb, hg, hn, hm, _⟩
  · exact ⟨none, 0, rfl, Nat.le_refl _, Nat.zero_le _, .inl ⟨rfl, rfl, rfl⟩⟩
  · exact ⟨_, cap, rfl, hn, hm, .inr ⟨g, rfl⟩⟩
end Go.Proofs.YtenmjjpkbcogbaaGreatDoor

/- Cb -/
namespace Go.Proofs.YtenmjjpkbcogbaaGreatDoor
open Go.RowKit

theorem below_base {base : Nat} {w w' : World} (h : Below w.heap.size w w') (hb : base ≤ w.heap.size) : Below base w w' := h.mono hb

theorem cell_below {w W : World} (h : Below w.heap.size w W) {a : Addr} {v : Value} (hc : w.cell? a = some v) : W.cell? a = some v :=
  (World.cell?_of_block (h.block a.block (World.block_lt_of_cell? w _ hc))).trans hc
theorem frozen_below {w W : World} (h : Below w.heap.size w W) {a : Addr} (hlt : a.block < w.heap.size) (hc : w.frozen? a = false) : W.frozen? a = false :=
  (World.frozen?_of_block (h.block a.block hlt)).trans hc
theorem info9 : (Tryz.prog.info? 9).map (fun i => (i.zero, i.size, i.bytes)) = some (some (.string ⟨#[]⟩), 1, 16) := by kernel_rfl
theorem three_at (w : World) (x y z : Value) (t : TypeId) {n : Nat} (hn : n = w.heap.size) : ∀ j u, [x, y, z][j]? = some u → (w.alloc (.cells #[x, y, z] t)).cell? ((⟨n, 0, none⟩ : Addr).add j) = some u := by
  subst hn
  intro j u hu
  have hadd : (⟨w.heap.size, 0, none⟩ : Addr).add j = ⟨w.heap.size, j, none⟩ := by unfold Addr.add; split <;> simp_all
  rw [hadd, cell_of_row _ _ j _ _ _ (heap_alloc_new w _)]
  show ([x, y, z].toArray)[j]? = some u
  rw [List.getElem?_toArray]; exact hu
theorem own_prefix {w : World} {base : Nat} {e : TypeId} {sz : Nat} {g n cap k : Nat} {xs : List Value} (h : w.ownsRow base e sz (.slice (some ⟨g, 0, none⟩) n cap) n xs) (hk : k ≤ n) : w.ownsRow base e sz (.slice (some ⟨g, 0, none⟩) k cap) k (xs.take (k * sz)) := by
  have hl := h.1
  have hle : k * sz ≤ n * sz := Nat.mul_le_mul_right _ hk
  refine ⟨by rw [List.length_take]; omega, ?_⟩
  rcases h.2 with ⟨h0, _⟩ | ⟨g', cap', cur, e1, hb, hg, hn, hm, hs, ht⟩
  · cases h0
  · cases e1
    refine .inr ⟨g, cap, cur, rfl, hb, hg, by omega, hm, hs, ?_⟩
    rw [← ht, List.take_take]
    congr 1
    omega

end Go.Proofs.YtenmjjpkbcogbaaGreatDoor

/- PadA -/
namespace Go.Proofs.YtenmjjpkbcogbaaGreatDoor
open Go.RowKit

/-- A row of one-cell elements whose frozen range lies beyond its cells. -/
def BRow (w : World) (base : Nat) (e : TypeId) (g cap n : Nat) (xs : List Value) : Prop :=
  ∃ cur fz, base ≤ g ∧ w.heap[g]? = some (.cells cur e fz) ∧ (fz = (0, 0) ∨ cur.size ≤ fz.1) ∧ n ≤ cap ∧ cap ≤ maxLen ∧ cur.size = cap ∧ cur.toList.take n = xs

theorem BRow.cell {w : World} {base : Nat} {e : TypeId} {g cap n : Nat} {xs : List Value} (h : BRow w base e g cap n xs) : ∀ j u, xs[j]? = some u → w.cell? ((⟨g, 0, none⟩ : Addr).add j) = some u := by
  obtain ⟨cur, fz, _, hg, _, hn, _, hc, ht⟩ := h
  intro j u hu
  have hadd : (⟨g, 0, none⟩ : Addr).add j = ⟨g, j, none⟩ := by unfold Addr.add; split <;> simp_all
  rw [hadd, cell_of_row w g j cur e fz hg]
  rw [← ht, List.getElem?_take] at hu
  split at hu
  · simpa using hu
  · cases hu

theorem BRow.free {w : World} {base : Nat} {e : TypeId} {g cap n : Nat} {xs : List Value} (h : BRow w base e g cap n xs) (j : Nat) (hj : j < cap) : w.frozen? ⟨g, j, none⟩ = false := by
  obtain ⟨cur, fz, _, hg, hf, hn, _, hc, ht⟩ := h
  obtain ⟨lo, hi⟩ := fz
  simp only [World.frozen?, hg, Bool.and_eq_false_iff, decide_eq_false_iff_not]
  rcases hf with hf | hf
  · cases hf; right; omega
  · left; simp only at hf; omega

theorem BRow.len {w : World} {base : Nat} {e : TypeId} {g cap n : Nat} {xs : List Value} (h : BRow w base e g cap n xs) : xs.length = n := by
  obtain ⟨cur, fz, _, hg, hf, hn, _, hc, ht⟩ := h
  rw [← ht, List.length_take, Array.length_toList]; omega

theorem BRow.lt {w : World} {base : Nat} {e : TypeId} {g cap n : Nat} {xs : List Value} (h : BRow w base e g cap n xs) : base ≤ g ∧ g < w.heap.size := by
  obtain ⟨cur, fz, hb, hg, _⟩ := h
  exact ⟨hb, (Array.getElem?_eq_some_iff.1 hg).1⟩

section
variable {P : Program} (w : World)

theorem run_append_brow (base : Nat) (t ty e : TypeId) (i : TypeInfo) (z : Value) (bytes : Nat) (ht : P.underlying t = some (.slice e)) (hi : P.info? e = some i) (hz : i.zero = some z)
    (hsize : i.size = 1) (hby : i.bytes = bytes) (hzs : z.cells.size = 1)
    (g cap n : Nat) (xs : List Value) (hown : BRow w base e g cap n xs)
    (B : Nat) (c : Nat) (u : Value) (hu : w.cell? ⟨B, 0, none⟩ = some u) (h1 : u.oneCell' = true)
    (h63 : n + 1 ≤ maxLen) (hbytes : (n + 1) * bytes ≤ 140737488355328) (hbase : base ≤ w.heap.size) :
    ∃ g' cap' w', (Builtin.append_ #[t, t] ty #[.slice (some ⟨g, 0, none⟩) n cap, .slice (some ⟨B, 0, none⟩) 1 c]).run P w = .ok (.slice (some ⟨g', 0, none⟩) (n + 1) cap') w' ∧ BRow w' base e g' cap' (n + 1) (xs ++ [u]) ∧ w.grownBy w' (some g) := by
  have hxl := hown.len
  have hnews : ∀ j v, [u][j]? = some v → w.cell? ((⟨B, 0, none⟩ : Addr).add j) = some v := by
    have hadd0 : (⟨B, 0, none⟩ : Addr).add 0 = ⟨B, 0, none⟩ := by unfold Addr.add; split <;> simp_all
    intro j v hv
    cases j with
    | zero => simp at hv; subst hv; rw [hadd0]; exact hu
    | succ j => simp at hv
  have hcells := hown.cell
  have hfree := hown.free
  have hsmall : n + 1 ≤ 9223372036854775807 := by simp only [maxLen] at h63; omega
  obtain ⟨cur, fz, hb, hg, hf, hn, hcm, hcs, htake⟩ := hown
  by_cases hroom : n + 1 ≤ cap
  · have hfc := run_firstCells_some (P := P) w i.size 1 ⟨B, 0, none⟩ 1 c [u] (by simp [hsize]) hnews
    have hadd : (⟨g, n, none⟩ : Addr).add 0 = ⟨g, n, none⟩ := by unfold Addr.add; split <;> simp_all
    have hcell : w.cell? ⟨g, n, none⟩ = some (cur[n]'(by omega)) := by
      rw [cell_of_row w g n cur e fz hg]; exact Array.getElem?_eq_getElem (by omega)
    have hst : (storeCells ⟨g, n, none⟩ [u] 0).run P w = .ok () (w.setRow g (cur.setIfInBounds n u)) := by
      have hs1 : (store ((⟨g, n, none⟩ : Addr).add 0) u).run P w = .ok () (w.setRow g (cur.setIfInBounds n u)) := by
        rw [hadd, run_store P w _ u _ h1, hcell]
        simp [hfree n (by omega), setCell_eq_setRow w g n cur e fz u hg]
      simp only [storeCells, Sem.run_bind, hs1, Result.andThen_ok, Sem.run_pure]
    refine ⟨g, cap, w.setRow g (cur.setIfInBounds n u), ?_, ?_, ?_⟩
    · simp [Builtin.append_, run_underlying ht, sizeOf, typeInfo, hi, hsize, Builtin.lenOf, hroom, Addr.add_lit]
      simp [hsize] at hfc
      simp [hfc, hst]
    · refine ⟨_, fz, hb, setRow_heap w g cur _ e _ hg, by simpa using hf, hroom, hcm, by simp [hcs], ?_⟩
      rw [Array.toList_setIfInBounds, List.take_add_one]
      have e1 : (cur.toList.set n u)[n]? = some u := by
        rw [List.getElem?_set_self]; simp; omega
      rw [e1, List.take_set_of_le (by omega), htake]; rfl
    · exact ⟨rfl, rfl, rfl, by simp, fun k _ hk => setRow_other w g k _ (fun e => hk (by simp [e]))⟩
  · have hr := run_append_grow (P := P) w t ty e i z ht hi hz ⟨g, 0, none⟩ n cap xs (by rw [hsize]; omega) hcells ⟨B, 0, none⟩ 1 c [u] (by simp [hsize]) hnews (by omega) (by omega) (growslice_fits (by omega) (by rw [hby]; exact hbytes))
    have hge := grownCap_ge w (n + 1) cap e
    have hcm2 : grownCap w (n + 1) cap e ≤ maxLen := grownCap_le_maxLen w (n + 1) cap e h63
    refine ⟨_, _, _, hr, ⟨_, (0, 0), hbase, heap_alloc_new w.drew _, .inl rfl, hge, hcm2, ?_, ?_⟩, ⟨rfl, rfl, rfl, by simp, fun k hk _ => by first | exact heap_alloc_old w.drew _ k hk | exact heap_alloc_old w.drew _ hk⟩⟩
    · simp only [Array.size_append, List.size_toArray, size_zeroCells, hzs, hxl]
      simp; omega
    · simp only [Array.toList_append, List.append_assoc]
      have hlen : (xs ++ [u]).length = n + 1 := by simp [hxl]
      rw [← List.append_assoc, ← hlen]
      exact List.take_left

theorem wpList_append_brow {ops : Array Oper} {rest : List Oper} {o : Oper} {a : Act} {Q : Exit → Act → World → Prop} (hgd : o.guard = none) (s x : Operand) (t : TypeId)
    (ho : o.op = .call { callee := .builtin .append, args := #[s, x], argTypes := #[t, t] })
    (base : Nat) (e : TypeId) (i : TypeInfo) (z : Value) (bytes : Nat) (ht : P.underlying t = some (.slice e)) (hi : P.info? e = some i) (hz : i.zero = some z)
    (hsize : i.size = 1) (hby : i.bytes = bytes) (hzs : z.cells.size = 1)
    (g cap n : Nat) (xs : List Value) (hs : a.eval s = .slice (some ⟨g, 0, none⟩) n cap) (hown : BRow w base e g cap n xs)
    (B : Nat) (c : Nat) (u : Value) (hx : a.eval x = .slice (some ⟨B, 0, none⟩) 1 c) (hu : w.cell? ⟨B, 0, none⟩ = some u) (h1 : u.oneCell' = true)
    (h63 : n + 1 ≤ maxLen) (hbytes : (n + 1) * bytes ≤ 140737488355328) (hbase : base ≤ w.heap.size)
    (h : ∀ g' cap' w', BRow w' base e g' cap' (n + 1) (xs ++ [u]) → w.grownBy w' (some g) → wpList P ops Q rest (a.put o.dst (.slice (some ⟨g', 0, none⟩) (n + 1) cap')) w') : wpList P ops Q (o :: rest) a w := by
  refine wpList_plain hgd fun K hK => ?_
  obtain ⟨g', cap', w', hr, h2, h3⟩ := run_append_brow (P := P) w base t o.type e i z bytes ht hi hz hsize hby hzs g cap n xs hown B c u hu h1 h63 hbytes hbase
  unfold Oper.wp execOp
  simp only [ho, resolve, invoke, builtin, Sem.run_bind, Sem.run_pure, Result.andThen_ok, List.map_toArray, List.map_cons, List.map_nil, hs, hx, hr]
  exact hK _ _ (h g' cap' w' h2 h3)
end
end Go.Proofs.YtenmjjpkbcogbaaGreatDoor

/- LhA -/
namespace Go.Proofs.YtenmjjpkbcogbaaGreatDoor
open Go.RowKit

/-- n numbers of kind q lie in block b, of their own -/
def icells (q : IntKind) (n : Nat) (f : Nat → Int) : Array Value := ((List.range n).map (fun i => Value.int q (f i))).toArray
structure IRow (w : World) (b : Nat) (q : IntKind) (T : TypeId) (n : Nat) (f : Nat → Int) : Prop where
  block : w.heap[b]? = some (.cells (icells q n f) T (0, 0))

theorem icells_size (q : IntKind) (n : Nat) (f : Nat → Int) : (icells q n f).size = n := by simp [icells]
theorem icells_at (q : IntKind) (n : Nat) (f : Nat → Int) (j : Nat) (h : j < n) : (icells q n f)[j]? = some (.int q (f j)) := by
  unfold icells
  rw [List.getElem?_toArray]
  simp [h]
theorem icells_set (q : IntKind) (n : Nat) (f : Nat → Int) (i : Nat) (v : Int) : (icells q n f).setIfInBounds i (.int q v) = icells q n (setF f i v) := by
  apply Array.ext_getElem?
  intro j
  rw [Array.getElem?_setIfInBounds]
  by_cases hij : i = j
  · subst hij
    rw [if_pos rfl]
    by_cases h : i < n
    · rw [if_pos (by rw [icells_size]; exact h), icells_at _ _ _ _ h]; simp [setF]
    · rw [if_neg (by rw [icells_size]; exact h), Array.getElem?_eq_none (by rw [icells_size]; omega)]
  · rw [if_neg hij]
    by_cases hj : j < n
    · rw [icells_at _ _ _ _ hj, icells_at _ _ _ _ hj]; simp [setF, Ne.symm hij]
    · rw [Array.getElem?_eq_none (by rw [icells_size]; omega), Array.getElem?_eq_none (by rw [icells_size]; omega)]
theorem icells_congr (q : IntKind) (n : Nat) {f g : Nat → Int} (h : ∀ j, j < n → f j = g j) : icells q n f = icells q n g := by
  apply Array.ext_getElem?
  intro j
  by_cases hj : j < n
  · rw [icells_at _ _ _ _ hj, icells_at _ _ _ _ hj, h j hj]
  · rw [Array.getElem?_eq_none (by rw [icells_size]; omega), Array.getElem?_eq_none (by rw [icells_size]; omega)]

namespace IRow
variable {w : World} {b : Nat} {q : IntKind} {T : TypeId} {n : Nat} {f : Nat → Int}
theorem at_ (h : IRow w b q T n f) (j : Nat) (hj : j < n) : w.cell? ⟨b, j, none⟩ = some (.int q (f j)) := by
  rw [cell_of_row w b j _ _ _ h.block, icells_at _ _ _ _ hj]
theorem free (h : IRow w b q T n f) (j : Nat) : w.frozen? ⟨b, j, none⟩ = false := frozen_of_row w b j _ _ h.block
theorem lt (h : IRow w b q T n f) : b < w.heap.size := by
  have := h.block
  rcases Nat.lt_or_ge b w.heap.size with h1 | h1
  · exact h1
  · rw [Array.getElem?_eq_none h1] at this; cases this
theorem set (h : IRow w b q T n f) (i : Nat) (v : Int) : IRow (w.setCell ⟨b, i, none⟩ (.int q v)) b q T n (setF f i v) :=
  ⟨by rw [heap_setCell_same w b i _ _ _ h.block, icells_set]⟩
theorem drew (h : IRow w b q T n f) : IRow w.drew b q T n f := ⟨h.block⟩
theorem drewN (h : IRow w b q T n f) (k : Nat) : IRow (w.drewN k) b q T n f := ⟨h.block⟩
theorem congr (h : IRow w b q T n f) {g : Nat → Int} (e : ∀ j, j < n → f j = g j) : IRow w b q T n g := ⟨by rw [← icells_congr q n e]; exact h.block⟩
theorem below {w' : World} (h : IRow w b q T n f) (k : Below w.heap.size w w') : IRow w' b q T n f := ⟨by rw [k.block b h.lt]; exact h.block⟩
theorem other {w' : World} (h : IRow w b q T n f) (k : w'.heap[b]? = w.heap[b]?) : IRow w' b q T n f := ⟨by rw [k]; exact h.block⟩
theorem alloc (h : IRow w b q T n f) (o : Obj) : IRow (w.alloc o) b q T n f := ⟨by rw [Below.heap_alloc w o b h.lt]; exact h.block⟩
theorem setOther (h : IRow w b q T n f) (a : Addr) (v : Value) (hne : b ≠ a.block) : IRow (w.setCell a v) b q T n f := ⟨by rw [Below.heap_setCell w a v b hne]; exact h.block⟩
end IRow

theorem made_icells (q : IntKind) (n : Nat) : madeCells #[.int q 0] n = icells q n (fun _ => 0) := by
  apply Array.ext_getElem?
  intro j
  by_cases hj : j < n
  · rw [icells_at _ _ _ _ hj]
    have hs : j < (madeCells #[Value.int q 0] n).size := by rw [size_madeCells]; simpa using hj
    rw [Array.getElem?_eq_getElem hs]
    congr 1
    simp [madeCells, Nat.mod_one]
  · rw [Array.getElem?_eq_none (by rw [size_madeCells]; omega), Array.getElem?_eq_none (by rw [icells_size]; omega)]
theorem irow_made (w : World) (q : IntKind) (T : TypeId) (n : Nat) : IRow (w.alloc (.cells (madeCells #[.int q 0] n) T)) w.heap.size q T n (fun _ => 0) :=
  ⟨by rw [made_icells]; exact heap_alloc_new _ _⟩

theorem info3 : (Tryz.prog.info? 3).map (fun i => (i.zero, i.size, i.bytes)) = some (some (.int .i64 0), 1, 8) := by kernel_rfl
theorem info112 : (Tryz.prog.info? 182).map (fun i => (i.zero, i.size, i.bytes)) = some (some (.int .u64 0), 1, 8) := by kernel_rfl
theorem make_ints (n : Nat) (hn : n ≤ 200) (w : World) :
    (Instr.makeSlice 24 (.int .i64 n) (.int .i64 n)).run Tryz.prog w = .ok (.slice (some ⟨w.heap.size, 0, none⟩) n n) (w.alloc (.cells (madeCells #[.int .i64 0] n) 3)) := by
  obtain ⟨i0, hi, hz0, hz1, hz2⟩ := info_parts info3
  have := run_make (P := Tryz.prog) w 24 3 i0 (.int .i64 0) Tryz.underlying24 hi hz0 .i64 .i64 n n (by omega) (by omega) (by rw [hz2]; omega) (by omega)
  rw [hz1, Nat.mul_one] at this
  exact this
theorem make_words (n : Nat) (hn : n ≤ 200) (w : World) :
    (Instr.makeSlice 181 (.int .i64 n) (.int .i64 n)).run Tryz.prog w = .ok (.slice (some ⟨w.heap.size, 0, none⟩) n n) (w.alloc (.cells (madeCells #[.int .u64 0] n) 182)) := by
  obtain ⟨i0, hi, hz0, hz1, hz2⟩ := info_parts info112
  have := run_make (P := Tryz.prog) w 181 182 i0 (.int .u64 0) Tryz.underlying181 hi hz0 .i64 .i64 n n (by omega) (by omega) (by rw [hz2]; omega) (by omega)
  rw [hz1, Nat.mul_one] at this
  exact this

theorem at_calls (x y : Nat) (hx : x < 100) (hy : y < 100) (w : World) :
    Calls Tryz.prog 271 #[.int .i64 x, .int .i64 y] w fun e w' => e = .returned (.int .i64 ((x % 5 + 5 * (y % 5) : Nat) : Int)) ∧ w' = w := by
  go_enter Tryz.func271, Tryz.ntmps271
  go_wp2
  go_ret
  exact ⟨by simp, rfl⟩

theorem rot_doc (a : Int) (n : Nat) (hn : n < 64) (ha : 0 ≤ a ∧ a < 18446744073709551616) : rot a n = bits .or .u64 (IntKind.u64.wrap (a * 2 ^ n)) (a / 2 ^ (64 - n)) := by
  unfold rot
  by_cases h0 : n = 0
  · subst h0
    obtain ⟨m, rfl⟩ : ∃ m : Nat, a = (m : Int) := ⟨a.toNat, by omega⟩
    have e1 : IntKind.u64.wrap ((m : Int) * 2 ^ 0) = (m : Int) := by rw [IntKind.wrap_u64]; omega
    have e2 : (m : Int) / 2 ^ ((64 - 0) % 64) = (m : Int) := by simp
    have e3 : (m : Int) / 2 ^ (64 - 0) = ((0 : Nat) : Int) := by
      show (m : Int) / 18446744073709551616 = 0
      omega
    rw [e1, e2, e3, u64_or_nat _ _ (by omega) (by omega), u64_or_nat _ _ (by omega) (by omega), Nat.or_self, Nat.or_zero]
  · rw [Nat.mod_eq_of_lt (show 64 - n < 64 by omega)]
/-- turned, as the document has it: for n below 64 -/
theorem lturned_calls (a : Int) (n : Nat) (hn : n < 64) (ha : 0 ≤ a ∧ a < 18446744073709551616) (w : World) :
    Calls Tryz.prog 272 #[.int .u64 a, .int .i64 n] w fun e w' => e = .returned (.int .u64 (rot a n)) ∧ w' = w := by
  have h1 : IntKind.u64.wrap (n : Int) = (n : Int) := by rw [IntKind.wrap_u64]; omega
  have h2 : IntKind.u64.wrap (64 - (n : Int)) = 64 - (n : Int) := by rw [IntKind.wrap_u64]; omega
  go_enter Tryz.func272, Tryz.ntmps272
  go_wp2
  go_ret
  exact ⟨by rw [rot_doc a n hn ha]; rfl, rfl⟩

/-- the walk of (x, y) -/
def walkXY : Nat → Nat × Nat
  | 0 => (1, 0)
  | t + 1 => ((walkXY t).2, (2 * (walkXY t).1 + 3 * (walkXY t).2) % 5)
def dturnsTo : Nat → Nat → Int
  | 0 => fun _ => 0
  | t + 1 => setF (dturnsTo t) ((walkXY t).1 % 5 + 5 * ((walkXY t).2 % 5)) (((t + 1) * (t + 2) / 2 % 64 : Nat) : Int)
theorem walk_lt : ∀ t, (walkXY t).1 < 5 ∧ (walkXY t).2 < 5
  | 0 => by decide
  | t + 1 => ⟨(walk_lt t).2, Nat.mod_lt _ (by decide)⟩
theorem dturns_all : ∀ j, j < 25 → dturnsTo 24 j = (turnsAt j : Int) := by
  have : ∀ j : Fin 25, dturnsTo 24 j = (turnsAt j : Int) := by decide +kernel
  exact fun j hj => this ⟨j, hj⟩

set_option maxRecDepth 100000 in
set_option maxHeartbeats 1000000 in
theorem turns_calls (w : World) :
    Calls Tryz.prog 226 #[] w fun e w' => (∃ b, e = .returned (.slice (some ⟨b, 0, none⟩) 25 25) ∧ w.heap.size ≤ b ∧ IRow w' b .i64 3 25 (fun j => (turnsAt j : Int))) ∧ Below w.heap.size w w' := by
  have hmk : ∀ w : World, (Instr.makeSlice 24 (.int .i64 25) (.int .i64 25)).run Tryz.prog w = .ok (.slice (some ⟨w.heap.size, 0, none⟩) 25 25) (w.alloc (.cells (madeCells #[.int .i64 0] 25) 3)) := make_ints 25 (by omega)
  have HRO : Hid (IRow (w.alloc (.cells (madeCells #[.int .i64 0] 25) 3)) w.heap.size .i64 3 25 (fun _ => 0)) := irow_made w .i64 3 25
  have HB : Hid (Below w.heap.size w (w.alloc (.cells (madeCells #[.int .i64 0] 25) 3))) := (Below.refl _ _).alloc (Nat.le_refl _) _
  go_enter Tryz.func226, Tryz.ntmps226
  go_upto_region 3 with fail
  generalize w.alloc (.cells (madeCells #[.int .i64 0] 25) 3) = W0 at *
  clear hmk
  go_wp2_with fail
  go_loopg [2, 3, 4] 24 (fun g a c r wr => ∃ t x y : Nat, g = 24 - t ∧ t ≤ 24 ∧ x < 5 ∧ y < 5 ∧ a = .int .i64 x ∧ c = .int .i64 y ∧ r = .int .i64 t ∧ Hid ((walkXY t).1 = x ∧ (walkXY t).2 = y) ∧ Hid (IRow wr w.heap.size .i64 3 25 (dturnsTo t)) ∧ Hid (Below w.heap.size w wr))
  case atStart => exact ⟨0, 1, 0, rfl, by omega, by omega, by omega, rfl, rfl, rfl, ⟨rfl, rfl⟩, HRO.out, HB.out⟩
  case round =>
    obtain ⟨t, x, y, hg, ht, hx, hy, rfl, rfl, rfl, hxy, hrow, hbel⟩ := hrel
    have HG : Hid (gk = 24 - t) := hg
    clear hg HRO HB
    by_cases hlt : t < 24
    · obtain ⟨i, hi⟩ : ∃ i : Nat, i = x % 5 + 5 * (y % 5) := ⟨_, rfl⟩
      have hi25 : i < 25 := by omega
      have hc := hrow.out.at_ i hi25
      have hf := hrow.out.free i
      have HAT : Hid (∀ w : World, Calls Tryz.prog 271 #[.int .i64 x, .int .i64 y] w fun e w' => e = .returned (.int .i64 (i : Int)) ∧ w' = w) := fun w => by rw [hi]; exact at_calls x y (by omega) (by omega) w
      have HI : Hid (i = x % 5 + 5 * (y % 5)) := hi
      have HV : Hid (((t : Int) + 1) * ((t : Int) + 2) / 2 % 64 = (((t + 1) * (t + 2) / 2 % 64 : Nat) : Int)) := by
        show ((t : Int) + 1) * ((t : Int) + 2) / 2 % 64 = (((t + 1) * (t + 2) / 2 % 64 : Nat) : Int)
        rfl
      have hmul : ((t : Int) + 1) * ((t : Int) + 2) ≤ 1000 ∧ 0 ≤ ((t : Int) + 1) * ((t : Int) + 2) := by
        have : ((t + 1) * (t + 2) : Nat) ≤ 25 * 26 := Nat.mul_le_mul (by omega) (by omega)
        have e : (((t + 1) * (t + 2) : Nat) : Int) = ((t : Int) + 1) * ((t : Int) + 2) := by rw [Int.natCast_mul]; rfl
        omega
      clear hi
      go_wp2_with fail
      refine (HAT.out _).mono ?_
      rintro e w1 ⟨rfl, hw1⟩
      subst hw1
      go_wp2_with fail
      go_roundg (24 - (t + 1))
      case measure => have := HG.out; omega
      case rel =>
        refine ⟨t + 1, y, (2 * x + 3 * y) % 5, rfl, by omega, by omega, by omega, by go_num, by go_num, by go_num, ?_, ?_, ?_⟩
        · exact ⟨hxy.out.2, by show (2 * (walkXY t).1 + 3 * (walkXY t).2) % 5 = _; rw [hxy.out.1, hxy.out.2]⟩
        · have h := hrow.out.set i (((t : Int) + 1) * ((t : Int) + 2) / 2 % 64)
          rw [HV.out] at h
          have e : dturnsTo (t + 1) = setF (dturnsTo t) i (((t + 1) * (t + 2) / 2 % 64 : Nat) : Int) := by
            conv => lhs; unfold dturnsTo
            rw [hxy.out.1, hxy.out.2, ← HI.out]
          show IRow _ _ _ _ _ (dturnsTo (t + 1))
          rw [e]
          exact h
        · exact hbel.out.setCell (Nat.le_refl _) _
    · have ht24 : t = 24 := by omega
      subst ht24
      have hlt' : ¬ ((24 : Int) < 24) := by omega
      go_wp2_with fail
      go_ret
      exact ⟨⟨w.heap.size, rfl, Nat.le_refl _, hrow.out.congr dturns_all⟩, hbel.out⟩
end Go.Proofs.YtenmjjpkbcogbaaGreatDoor

/- LhB -/
namespace Go.Proofs.YtenmjjpkbcogbaaGreatDoor
open Go.RowKit

/-- the shift register -/
def regStep (r : Nat) : Nat := if 256 ≤ 2 * r then (2 * r - 256) ^^^ 113 else 2 * r
def regN : Nat → Nat
  | 0 => 1
  | t + 1 => regStep (regN t)
theorem xor113 : ∀ a : Fin 256, bits .xor .i64 ((a.val : Nat) : Int) 113 = ((a.val ^^^ 113 : Nat) : Int) := by decide +kernel
theorem xor113_lt (a : Nat) (h : a < 256) : a ^^^ 113 < 256 := Nat.xor_lt_two_pow (n := 8) h (by decide)
theorem regN_lt : ∀ t, regN t < 256
  | 0 => by decide
  | t + 1 => by
    have := regN_lt t
    show regStep (regN t) < 256
    unfold regStep
    split
    · exact xor113_lt _ (by omega)
    · omega
def doutTo : Nat → Nat → Int
  | 0 => fun _ => 0
  | t + 1 => setF (doutTo t) t ((regN t % 2 : Nat) : Int)
theorem dout_at : ∀ t j, j < t → doutTo t j = ((regN j % 2 : Nat) : Int)
  | 0, j, h => by omega
  | t + 1, j, h => by
    show setF (doutTo t) t ((regN t % 2 : Nat) : Int) j = _
    unfold setF
    by_cases e : j = t
    · rw [if_pos e, e]
    · rw [if_neg e]; exact dout_at t j (by omega)

set_option maxRecDepth 100000 in
set_option maxHeartbeats 1000000 in
theorem outputs_calls (w : World) :
    Calls Tryz.prog 227 #[] w fun e w' => (∃ b, e = .returned (.slice (some ⟨b, 0, none⟩) 168 168) ∧ w.heap.size ≤ b ∧ IRow w' b .i64 3 168 (fun j => ((regN j % 2 : Nat) : Int))) ∧ Below w.heap.size w w' := by
  have hmk : ∀ w : World, (Instr.makeSlice 24 (.int .i64 168) (.int .i64 168)).run Tryz.prog w = .ok (.slice (some ⟨w.heap.size, 0, none⟩) 168 168) (w.alloc (.cells (madeCells #[.int .i64 0] 168) 3)) := make_ints 168 (by omega)
  have HRO : Hid (IRow (w.alloc (.cells (madeCells #[.int .i64 0] 168) 3)) w.heap.size .i64 3 168 (fun _ => 0)) := irow_made w .i64 3 168
  have HB : Hid (Below w.heap.size w (w.alloc (.cells (madeCells #[.int .i64 0] 168) 3))) := (Below.refl _ _).alloc (Nat.le_refl _) _
  go_enter Tryz.func227, Tryz.ntmps227
  go_upto_region 3 with fail
  generalize w.alloc (.cells (madeCells #[.int .i64 0] 168) 3) = W0 at *
  clear hmk
  go_wp2_with fail
  go_loopg [2, 3] 168 (fun g a r wr => ∃ t x : Nat, g = 168 - t ∧ t ≤ 168 ∧ x < 256 ∧ a = .int .i64 x ∧ r = .int .i64 t ∧ Hid (regN t = x) ∧ Hid (IRow wr w.heap.size .i64 3 168 (doutTo t)) ∧ Hid (Below w.heap.size w wr))
  case atStart => exact ⟨0, 1, rfl, by omega, by omega, rfl, rfl, rfl, HRO.out, HB.out⟩
  case round =>
    obtain ⟨t, x, hg, ht, hx, rfl, rfl, hr, hrow, hbel⟩ := hrel
    have HG : Hid (gk = 168 - t) := hg
    clear hg HRO HB
    by_cases hlt : t < 168
    · have hc := hrow.out.at_ t hlt
      have hf := hrow.out.free t
      have HROW : Hid (IRow (wr.setCell ⟨w.heap.size, t, none⟩ (.int .i64 ((x : Int) % 2))) w.heap.size .i64 3 168 (doutTo (t + 1))) := by
        have h := hrow.out.set t ((x : Int) % 2)
        have e : doutTo (t + 1) = setF (doutTo t) t ((x : Int) % 2) := by
          show setF (doutTo t) t ((regN t % 2 : Nat) : Int) = _
          rw [hr.out]; rfl
        show IRow _ _ _ _ _ (doutTo (t + 1))
        rw [e]; exact h
      by_cases h2 : 256 ≤ 2 * x
      · have h2' : decide ((256 : Int) ≤ 2 * (x : Int)) = true := by simp; omega
        have hxo := xor113 ⟨2 * x - 256, by omega⟩
        have e2 : (((2 * x - 256 : Nat) : Nat) : Int) = 2 * (x : Int) - 256 := by omega
        simp only [e2] at hxo
        have HRS : Hid (regN (t + 1) = (2 * x - 256) ^^^ 113) := by
          show regStep (regN t) = _
          rw [hr.out]; unfold regStep; rw [if_pos h2]
        have hlt2 := xor113_lt (2 * x - 256) (by omega)
        generalize (2 * x - 256) ^^^ 113 = y at *
        clear e2
        go_wp2_with fail
        go_roundg (168 - (t + 1))
        case measure => have := HG.out; omega
        case rel => exact ⟨t + 1, y, rfl, by omega, hlt2, by go_num, by go_num, HRS.out, HROW.out, hbel.out.setCell (Nat.le_refl _) _⟩
      · have h2' : decide ((256 : Int) ≤ 2 * (x : Int)) = false := by simp; omega
        have HRS : Hid (regN (t + 1) = 2 * x) := by
          show regStep (regN t) = _
          rw [hr.out]; unfold regStep; rw [if_neg h2]
        go_wp2_with fail
        go_roundg (168 - (t + 1))
        case measure => have := HG.out; omega
        case rel => exact ⟨t + 1, 2 * x, rfl, by omega, by omega, by go_num, by go_num, HRS.out, HROW.out, hbel.out.setCell (Nat.le_refl _) _⟩
    · have ht24 : t = 168 := by omega
      subst ht24
      have hlt' : ¬ ((168 : Int) < 168) := by omega
      go_wp2_with fail
      go_ret
      exact ⟨⟨w.heap.size, rfl, Nat.le_refl _, hrow.out.congr (dout_at 168)⟩, hbel.out⟩

/-- a round's constant, bit by bit -/
def constTo (i : Nat) : Nat → Nat
  | 0 => 0
  | j + 1 => if regN (j + 7 * i) % 2 = 1 then constTo i j ||| 2 ^ (2 ^ j - 1) else constTo i j
theorem const_all : ∀ i, i < 24 → constTo i 7 = wordsAt i := by
  have : ∀ i : Fin 24, constTo i 7 = wordsAt i := by decide +kernel
  exact fun i hi => this ⟨i, hi⟩

theorem or_pow_lt (a k : Nat) (ha : a < 18446744073709551616) (hk : k < 64) : a ||| 2 ^ k < 18446744073709551616 :=
  Nat.or_lt_two_pow (n := 64) ha (Nat.pow_lt_pow_right (by decide) hk)

set_option maxRecDepth 100000 in
set_option maxHeartbeats 1000000 in
theorem constant_calls (b i : Nat) (hi : i < 24) (w : World) (hrow : IRow w b .i64 3 168 (fun j => ((regN j % 2 : Nat) : Int))) :
    Calls Tryz.prog 228 #[.slice (some ⟨b, 0, none⟩) 168 168, .int .i64 i] w fun e w' => e = .returned (.int .u64 (wordsAt i)) ∧ ∃ n, w' = w.drewN n := by
  have HCA : Hid (constTo i 7 = wordsAt i) := const_all i hi
  have HROW : Hid (IRow w b .i64 3 168 (fun j => ((regN j % 2 : Nat) : Int))) := hrow
  clear hrow
  go_enter Tryz.func228, Tryz.ntmps228
  go_wp2_with fail
  go_loopg [5, 6, 7] 7 (fun g c p r wr => ∃ t C : Nat, g = 7 - t ∧ t ≤ 7 ∧ c = .int .u64 C ∧ p = .int .u64 ((2 ^ t : Nat) : Int) ∧ r = .int .i64 t ∧ C < 18446744073709551616 ∧ Hid (constTo i t = C) ∧ ∃ n, wr = w.drewN n)
  case atStart => exact ⟨0, 0, rfl, by omega, rfl, rfl, rfl, by omega, rfl, 0, rfl⟩
  case round =>
    obtain ⟨t, C, hg, ht, rfl, rfl, rfl, hC, hCT, N, hw⟩ := hrel
    subst hw
    have HG : Hid (gk = 7 - t) := hg
    clear hg
    by_cases hlt : t < 7
    · have hc := (HROW.out.drewN N).at_ (t + 7 * i) (by omega)
      have HST : Hid (constTo i (t + 1) = if regN (t + 7 * i) % 2 = 1 then C ||| 2 ^ (2 ^ t - 1) else C) := by
        show (if regN (t + 7 * i) % 2 = 1 then constTo i t ||| 2 ^ (2 ^ t - 1) else constTo i t) = _
        rw [hCT.out]
      obtain ⟨B, hB⟩ : ∃ B : Nat, B = regN (t + 7 * i) % 2 := ⟨_, rfl⟩
      have hB2 : B < 2 := by rw [hB]; omega
      rw [← hB] at hc HST
      clear hB
      have hidx : (t : Int) + 7 * (i : Int) = ((t + 7 * i : Nat) : Int) := by omega
      have hidl : t + 7 * i < 168 := by omega
      obtain ⟨X, hX⟩ : ∃ X : Nat, X = t + 7 * i := ⟨_, rfl⟩
      rw [← hX] at hc hidx hidl
      have hpw : 2 ^ t ≤ 64 := by have : 2 ^ t ≤ 2 ^ 6 := Nat.pow_le_pow_right (by decide) (by omega); exact this
      obtain ⟨P, hP⟩ : ∃ P : Nat, P = 2 ^ t := ⟨_, rfl⟩
      have hP1 : 1 ≤ P := by rw [hP]; exact Nat.one_le_two_pow
      have HP : Hid (2 ^ (t + 1) = 2 * P) := by rw [hP, Nat.pow_succ, Nat.mul_comm]; rfl
      rw [← hP] at hpw HST ⊢
      clear hP hX
      by_cases hb1 : B = 1
      · subst hb1
        rw [if_pos rfl] at HST
        have hor := u64_or_nat C (2 ^ (P - 1)) hC (Nat.pow_lt_pow_right (m := P - 1) (n := 64) (by decide) (by omega))
        have HLT : Hid (C ||| 2 ^ (P - 1) < 18446744073709551616) := or_pow_lt C (P - 1) hC (by omega)
        have hwr : IntKind.u64.wrap ((2 : Int) ^ (P - 1)) = ((2 ^ (P - 1) : Nat) : Int) := by
          have h64 : 2 ^ (P - 1) < 18446744073709551616 := Nat.pow_lt_pow_right (m := P - 1) (n := 64) (by decide) (by omega)
          have e : ((2 : Int) ^ (P - 1)) = ((2 ^ (P - 1) : Nat) : Int) := by rw [Int.natCast_pow]; rfl
          rw [e, IntKind.wrap_u64]
          generalize 2 ^ (P - 1) = Z at *
          omega
        have HOR : Hid (bits .or .u64 (C : Int) (IntKind.u64.wrap ((2 : Int) ^ (P - 1))) = ((C ||| 2 ^ (P - 1) : Nat) : Int)) := by
          show bits .or .u64 (C : Int) (IntKind.u64.wrap ((2 : Int) ^ (P - 1))) = ((C ||| 2 ^ (P - 1) : Nat) : Int)
          rw [hwr]; exact hor
        clear hor hwr
        go_wp2_with fail
        go_roundg (7 - (t + 1))
        case measure => have := HG.out; omega
        case rel => exact ⟨t + 1, C ||| 2 ^ (P - 1), rfl, by omega, by rw [HOR.out], by rw [HP.out]; go_num, by go_num, HLT.out, HST.out, N, rfl⟩
      · obtain rfl : B = 0 := by omega
        rw [if_neg (by decide)] at HST
        go_wp2_with fail
        go_roundg (7 - (t + 1))
        case measure => have := HG.out; omega
        case rel => exact ⟨t + 1, C, rfl, by omega, rfl, by rw [HP.out]; go_num, by go_num, hC, HST.out, N, rfl⟩
    · have ht7 : t = 7 := by omega
      subst ht7
      have hlt' : ¬ ((7 : Int) ≤ 6) := by omega
      have HF : Hid (wordsAt i = C) := by rw [← HCA.out]; exact hCT.out
      go_wp2_with fail
      go_ret
      exact ⟨by rw [HF.out]; rfl, N, rfl⟩
end Go.Proofs.YtenmjjpkbcogbaaGreatDoor

/- LhC -/
namespace Go.Proofs.YtenmjjpkbcogbaaGreatDoor
open Go.RowKit

/-- places pos 0, pos 1, .. are given the values val 0, val 1, .. -/
def setTo (pos : Nat → Nat) (val : Nat → Int) : Nat → Nat → Int
  | 0 => fun _ => 0
  | k + 1 => setF (setTo pos val k) (pos k) (val k)
theorem setTo_at (pos : Nat → Nat) (val : Nat → Int) : ∀ (n : Nat), (∀ i j, i < n → j < n → pos i = pos j → i = j) → ∀ i, i < n → setTo pos val n (pos i) = val i
  | 0, _, i, h => by omega
  | n + 1, hinj, i, h => by
    show setF (setTo pos val n) (pos n) (val n) (pos i) = val i
    unfold setF
    by_cases e : i = n
    · subst e; rw [if_pos rfl]
    · rw [if_neg (fun h2 => e (hinj i n h (by omega) h2))]
      exact setTo_at pos val n (fun i j hi hj => hinj i j (by omega) (by omega)) i (by omega)
theorem vTo_setTo (ws : Nat → Int) : ∀ k, vTo ws k = setTo movesAt (fun k => rot (ws k) (turnsAt k)) k
  | 0 => rfl
  | k + 1 => by
    show setF (vTo ws k) (movesAt k) _ = setF (setTo movesAt (fun k => rot (ws k) (turnsAt k)) k) (movesAt k) _
    rw [vTo_setTo ws k]

/-- a place, of the p-th pair (x, y) -/
def placeP (p : Nat) : Nat := p / 5 + 5 * (p % 5)
def posB (p : Nat) : Nat := (p % 5) % 5 + 5 * ((2 * (p / 5) + 3 * (p % 5)) % 5)
theorem placeP_inj (i j : Nat) (hi : i < 25) (hj : j < 25) (h : placeP i = placeP j) : i = j := by unfold placeP at h; omega
theorem placeP_lt (p : Nat) (h : p < 25) : placeP p < 25 := by unfold placeP; omega
theorem placeP_self (p : Nat) (h : p < 25) : placeP (placeP p) = p := by unfold placeP; omega
theorem posB_moves : ∀ p, p < 25 → posB p = movesAt (placeP p) := by
  have : ∀ p : Fin 25, posB p = movesAt (placeP p) := by decide
  exact fun p h => this ⟨p, h⟩
theorem moves_inj (i j : Nat) (hi : i < 25) (hj : j < 25) (h : movesAt i = movesAt j) : i = j := by
  have : ∀ i j : Fin 25, movesAt i = movesAt j → i = j := by decide +kernel
  have := this ⟨i, hi⟩ ⟨j, hj⟩ h
  exact congrArg Fin.val this
theorem moves_onto (j : Nat) (hj : j < 25) : ∃ k, k < 25 ∧ movesAt k = j := by
  have : ∀ j : Fin 25, ∃ k : Fin 25, movesAt k = j := by decide +kernel
  obtain ⟨k, hk⟩ := this ⟨j, hj⟩
  exact ⟨k, k.2, hk⟩
theorem posB_inj (i j : Nat) (hi : i < 25) (hj : j < 25) (h : posB i = posB j) : i = j := by
  rw [posB_moves i hi, posB_moves j hj] at h
  exact placeP_inj i j hi hj (moves_inj _ _ (placeP_lt i hi) (placeP_lt j hj) h)

/-- the second step, written pair by pair -/
theorem bTo_all (ws : Nat → Int) (j : Nat) (hj : j < 25) : setTo posB (fun p => rot (ws (placeP p)) (turnsAt (placeP p))) 25 j = vTo ws 25 j := by
  obtain ⟨k, hk, rfl⟩ := moves_onto j hj
  have h1 : movesAt k = posB (placeP k) := by rw [posB_moves _ (placeP_lt k hk), placeP_self k hk]
  rw [vTo_setTo, setTo_at movesAt _ 25 (fun i j => moves_inj i j) k hk]
  rw [h1, setTo_at posB _ 25 (fun i j => posB_inj i j) _ (placeP_lt k hk), placeP_self k hk]

/-- numbers of 64 bits -/
def U64 (f : Nat → Int) : Prop := ∀ j, 0 ≤ f j ∧ f j < 18446744073709551616
theorem u64_nat {a : Int} (h : 0 ≤ a ∧ a < 18446744073709551616) : ∃ m : Nat, a = m ∧ m < 18446744073709551616 := ⟨a.toNat, by omega, by omega⟩
theorem xo_range {a b : Int} (ha : 0 ≤ a ∧ a < 18446744073709551616) (hb : 0 ≤ b ∧ b < 18446744073709551616) : 0 ≤ xo a b ∧ xo a b < 18446744073709551616 := by
  obtain ⟨m, rfl, hm⟩ := u64_nat ha
  obtain ⟨n, rfl, hn⟩ := u64_nat hb
  unfold xo
  rw [u64_xor_nat _ _ hm hn]
  have : m ^^^ n < 2 ^ 64 := Nat.xor_lt_two_pow hm hn
  omega
theorem xo_assoc {a b c : Int} (ha : 0 ≤ a ∧ a < 18446744073709551616) (hb : 0 ≤ b ∧ b < 18446744073709551616) (hc : 0 ≤ c ∧ c < 18446744073709551616) : xo (xo a b) c = xo a (xo b c) := by
  obtain ⟨m, rfl, hm⟩ := u64_nat ha
  obtain ⟨n, rfl, hn⟩ := u64_nat hb
  obtain ⟨k, rfl, hk⟩ := u64_nat hc
  unfold xo
  have h1 : m ^^^ n < 18446744073709551616 := Nat.xor_lt_two_pow (n := 64) hm hn
  have h2 : n ^^^ k < 18446744073709551616 := Nat.xor_lt_two_pow (n := 64) hn hk
  rw [u64_xor_nat _ _ hm hn, u64_xor_nat _ _ hn hk, u64_xor_nat _ _ h1 hk, u64_xor_nat _ _ hm h2, Nat.xor_assoc]
theorem xo_zero {a : Int} (ha : 0 ≤ a ∧ a < 18446744073709551616) : xo 0 a = a := by
  obtain ⟨m, rfl, hm⟩ := u64_nat ha
  unfold xo
  have := u64_xor_nat 0 m (by decide) hm
  rw [Nat.zero_xor] at this
  exact this
/-- a column, gathered from above -/
def colTo (ws : Nat → Int) (x : Nat) : Nat → Int
  | 0 => 0
  | y + 1 => xo (colTo ws x y) (ws (x + 5 * y))
theorem colTo_all (ws : Nat → Int) (h : U64 ws) (x : Nat) : colTo ws x 5 = colF ws x := by
  show xo (xo (xo (xo (xo 0 (ws (x + 5 * 0))) (ws (x + 5 * 1))) (ws (x + 5 * 2))) (ws (x + 5 * 3))) (ws (x + 5 * 4)) = _
  rw [xo_zero (h _)]
  rfl
theorem col_range (ws : Nat → Int) (h : U64 ws) (x : Nat) : 0 ≤ colF ws x ∧ colF ws x < 18446744073709551616 :=
  xo_range (xo_range (xo_range (xo_range (h _) (h _)) (h _)) (h _)) (h _)
end Go.Proofs.YtenmjjpkbcogbaaGreatDoor

/- LhD -/
namespace Go.Proofs.YtenmjjpkbcogbaaGreatDoor
open Go.RowKit

theorem make_words5 (w : World) : (Instr.makeSlice 181 (.int .i64 5) (.int .i64 5)).run Tryz.prog w = .ok (.slice (some ⟨w.heap.size, 0, none⟩) 5 5) (w.alloc (.cells (madeCells #[.int .u64 0] 5) 182)) := make_words 5 (by omega) w
theorem make_words25 (w : World) : (Instr.makeSlice 181 (.int .i64 25) (.int .i64 25)).run Tryz.prog w = .ok (.slice (some ⟨w.heap.size, 0, none⟩) 25 25) (w.alloc (.cells (madeCells #[.int .u64 0] 25) 182)) := make_words 25 (by omega) w

/-- the columns, as far as column x and y words of it -/
def colsTo (ws : Nat → Int) (x y : Nat) : Nat → Int := fun j => if j < x then colTo ws j 5 else if j = x then colTo ws x y else 0
theorem colsTo_step (ws : Nat → Int) (x y : Nat) : colsTo ws x (y + 1) = setF (colsTo ws x y) x (xo (colTo ws x y) (ws (x + 5 * y))) := by
  funext j
  simp only [colsTo, setF]
  by_cases h1 : j < x
  · rw [if_pos h1, if_neg (by omega), if_pos h1]
  · rw [if_neg h1]
    by_cases h2 : j = x
    · rw [if_pos h2, if_pos h2]; rfl
    · rw [if_neg h2, if_neg h2, if_neg h1, if_neg h2]
theorem colsTo_next (ws : Nat → Int) (x : Nat) : colsTo ws x 5 = colsTo ws (x + 1) 0 := by
  funext j
  unfold colsTo
  by_cases h1 : j < x
  · rw [if_pos h1, if_pos (by omega)]
  · rw [if_neg h1]
    by_cases h2 : j = x
    · rw [if_pos h2, if_pos (by omega), h2]
    · rw [if_neg h2, if_neg (by omega)]
      by_cases h3 : j = x + 1
      · rw [if_pos h3]; rfl
      · rw [if_neg h3]
theorem colsTo_at (ws : Nat → Int) (x y : Nat) : colsTo ws x y x = colTo ws x y := by
  unfold colsTo; rw [if_neg (by omega), if_pos rfl]

theorem or_range {a b : Int} (ha : 0 ≤ a ∧ a < 18446744073709551616) (hb : 0 ≤ b ∧ b < 18446744073709551616) : 0 ≤ bits .or .u64 a b ∧ bits .or .u64 a b < 18446744073709551616 := by
  obtain ⟨m, rfl, hm⟩ := u64_nat ha
  obtain ⟨n, rfl, hn⟩ := u64_nat hb
  rw [u64_or_nat _ _ hm hn]
  have : m ||| n < 2 ^ 64 := Nat.or_lt_two_pow hm hn
  omega
theorem rot_range (a : Int) (n : Nat) (_hn : n < 64) (ha : 0 ≤ a ∧ a < 18446744073709551616) : 0 ≤ rot a n ∧ rot a n < 18446744073709551616 := by
  unfold rot
  refine or_range ?_ ?_
  · rw [IntKind.wrap_u64]; omega
  · have hp : (0 : Int) < 2 ^ ((64 - n) % 64) := Int.pow_pos (by decide)
    refine ⟨Int.ediv_nonneg ha.1 (Int.le_of_lt hp), Int.lt_of_le_of_lt (Int.ediv_le_self _ ha.1) ha.2⟩

theorem max_xor (b : Nat) (hb : b < 18446744073709551616) : 18446744073709551615 ^^^ b = 18446744073709551615 - b := by
  have h := congrArg BitVec.toNat (BitVec.allOnes_xor (x := BitVec.ofNat 64 b))
  rw [BitVec.toNat_xor, BitVec.toNat_allOnes, BitVec.toNat_not, BitVec.toNat_ofNat, Nat.mod_eq_of_lt (show b < 2 ^ 64 from hb)] at h
  exact h
theorem not_and {l m : Int} (hl : 0 ≤ l ∧ l < 18446744073709551616) (hm : 0 ≤ m ∧ m < 18446744073709551616) : bits .and .u64 (bits .xor .u64 IntKind.u64.max l) m = an m l := by
  obtain ⟨a, rfl, ha⟩ := u64_nat hl
  obtain ⟨b, rfl, hb⟩ := u64_nat hm
  unfold an
  have h1 : bits .xor .u64 IntKind.u64.max (a : Int) = ((18446744073709551615 - a : Nat) : Int) := by
    have := u64_xor_nat 18446744073709551615 a (by decide) ha
    rw [max_xor a ha] at this
    exact this
  rw [h1, u64_and_nat _ _ (by omega) hb, u64_andNot_nat _ _ hb ha, Nat.and_comm]
theorem mixF_range (ws : Nat → Int) (h : U64 ws) : U64 (mixF ws) := fun j => xo_range (h j) (xo_range (col_range ws h _) (rot_range _ 1 (by omega) (col_range ws h _)))
theorem setF_range (f : Nat → Int) (h : U64 f) (i : Nat) (v : Int) (hv : 0 ≤ v ∧ v < 18446744073709551616) : U64 (setF f i v) := fun j => by
  unfold setF
  by_cases e : j = i
  · rw [if_pos e]; exact hv
  · rw [if_neg e]; exact h j
theorem vTo_rangeN (ws : Nat → Int) (h : U64 ws) : ∀ k, k ≤ 25 → U64 (vTo ws k)
  | 0, _ => fun _ => by show (0 : Int) ≤ 0 ∧ (0 : Int) < 18446744073709551616; omega
  | k + 1, hk => setF_range _ (vTo_rangeN ws h k (by omega)) _ _ (rot_range _ _ (turnsAt_lt k (by omega)) (h k))
theorem vTo_range (ws : Nat → Int) (h : U64 ws) : U64 (vTo ws 25) := vTo_rangeN ws h 25 (by omega)

set_option maxRecDepth 100000 in
set_option maxHeartbeats 1000000 in
theorem round_calls (ba br : Nat) (ws : Nat → Int) (hws : U64 ws) (z : Int) (w : World) (ha : IRow w ba .u64 182 25 ws) (hr : IRow w br .i64 3 25 (fun j => (turnsAt j : Int))) :
    Calls Tryz.prog 229 #[.slice (some ⟨ba, 0, none⟩) 25 25, .slice (some ⟨br, 0, none⟩) 25 25, .int .u64 z] w fun e w' => (∃ b, e = .returned (.slice (some ⟨b, 0, none⟩) 25 25) ∧ w.heap.size ≤ b ∧ IRow w' b .u64 182 25 (setF (threeF ws) 0 (xo (threeF ws 0) z))) ∧ Below w.heap.size w w' := by
  have hmk := fun w => make_words5 w
  have hmk2 := fun w => make_words25 w
  have HA : Hid (IRow w ba .u64 182 25 ws) := ha
  have HR : Hid (IRow w br .i64 3 25 (fun j => (turnsAt j : Int))) := hr
  have HC0 : Hid (IRow (w.alloc (.cells (madeCells #[.int .u64 0] 5) 182)) w.heap.size .u64 182 5 (fun _ => 0)) := irow_made w .u64 182 5
  have HB : Hid (Below w.heap.size w (w.alloc (.cells (madeCells #[.int .u64 0] 5) 182))) := (Below.refl _ _).alloc (Nat.le_refl _) _
  clear ha hr
  go_enter Tryz.func229, Tryz.ntmps229
  go_wp2_with fail
  generalize w.alloc (.cells (madeCells #[.int .u64 0] 5) 182) = W0 at *
  clear hmk
  go_loopg [8] 5 (fun g r wr => ∃ x : Nat, g = 5 - x ∧ x ≤ 5 ∧ r = .int .i64 x ∧ Hid (IRow wr w.heap.size .u64 182 5 (colsTo ws x 0)) ∧ Hid (Below w.heap.size w wr))
  case atStart => exact ⟨0, rfl, by omega, rfl, HC0.out.congr (fun j _ => by unfold colsTo; rw [if_neg (by omega)]; split <;> rfl), HB.out⟩
  case round =>
    obtain ⟨x, hg, hx, rfl, hrow, hbel⟩ := hrel
    have HG : Hid (gk = 5 - x) := hg
    clear hg HC0 HB
    by_cases hlt : x < 5
    · have hxi : (x : Int) < 5 := by omega
      go_wp2_with fail
      go_loopg [9] 5 (fun g r wq => ∃ y : Nat, g = 5 - y ∧ y ≤ 5 ∧ r = .int .i64 y ∧ Hid (IRow wq w.heap.size .u64 182 5 (colsTo ws x y)) ∧ Hid (Below w.heap.size w wq))
      case atStart => exact ⟨0, rfl, by omega, rfl, hrow.out, hbel.out⟩
      case round =>
        obtain ⟨y, hg, hy, rfl, hrow2, hbel2⟩ := hrel
        have HG2 : Hid (gk = 5 - y) := hg
        clear hg
        by_cases hlt2 : y < 5
        · obtain ⟨k, hk⟩ : ∃ k : Nat, k = x % 5 + 5 * (y % 5) := ⟨_, rfl⟩
          have hk25 : k < 25 := by omega
          have hki : (k : Int) < 25 := by omega
          have HK : Hid (k = x + 5 * y) := by show k = x + 5 * y; omega
          have HAT : Hid (∀ w : World, Calls Tryz.prog 271 #[.int .i64 x, .int .i64 y] w fun e w' => e = .returned (.int .i64 (k : Int)) ∧ w' = w) := fun w => by rw [hk]; exact at_calls x y (by omega) (by omega) w
          have hca := (HA.out.below hbel2.out).at_ k hk25
          have hcc := hrow2.out.at_ x hlt
          have hcf := hrow2.out.free x
          rw [colsTo_at] at hcc
          have HNX : Hid (IRow (wr.setCell ⟨w.heap.size, x, none⟩ (.int .u64 (xo (colTo ws x y) (ws k)))) w.heap.size .u64 182 5 (colsTo ws x (y + 1))) := by
            show IRow _ _ _ _ _ (colsTo ws x (y + 1))
            rw [colsTo_step, ← HK.out]
            exact hrow2.out.set x _
          have HNB : Hid (Below w.heap.size w (wr.setCell ⟨w.heap.size, x, none⟩ (.int .u64 (xo (colTo ws x y) (ws k))))) := hbel2.out.setCell (Nat.le_refl _) _
          unfold xo at HNX HNB
          generalize colTo ws x y = u at *
          generalize ws k = v at *
          clear hk hrow hbel
          go_wp2_with fail
          refine (HAT.out _).mono ?_
          rintro e w1 ⟨rfl, hw1⟩
          subst hw1
          go_wp2_with fail
          go_region
          all_goals go_wp2_with fail
          all_goals go_roundg (5 - (y + 1))
          all_goals first
            | (have := HG2.out; omega)
            | exact ⟨y + 1, rfl, by omega, by go_num, HNX.out.drew, HNB.out.drew⟩
            | exact ⟨y + 1, rfl, by omega, by go_num, HNX.out, HNB.out⟩
        · obtain rfl : y = 5 := by omega
          have hlt2' : ¬ ((5 : Int) < 5) := by omega
          go_wp2_with fail
          go_roundg (5 - (x + 1))
          case measure => have := HG.out; omega
          case rel => exact ⟨x + 1, rfl, by omega, by go_num, by rw [← colsTo_next]; exact hrow2.out, hbel2.out⟩
    · obtain rfl : x = 5 := by omega
      have hlt' : ¬ ((5 : Int) < 5) := by omega
      have HC : Hid (IRow wr w.heap.size .u64 182 5 (fun j => colF ws j)) := hrow.out.congr (fun j hj => by
        show colsTo ws 5 0 j = colF ws j
        unfold colsTo; rw [if_pos hj, colTo_all ws hws])
      have hsz : w.heap.size < wr.heap.size := hrow.out.lt
      have HB0 : Hid (IRow (wr.alloc (.cells (madeCells #[.int .u64 0] 25) 182)) wr.heap.size .u64 182 25 (fun _ => 0)) := irow_made wr .u64 182 25
      clear hrow HG
      go_wp2_with fail
      have HBE : Hid (Below w.heap.size w (wr.alloc (.cells (madeCells #[.int .u64 0] 25) 182))) := hbel.out.alloc hbel.out.size _
      have HC1 : Hid (IRow (wr.alloc (.cells (madeCells #[.int .u64 0] 25) 182)) w.heap.size .u64 182 5 (fun j => colF ws j)) := HC.out.alloc _
      obtain ⟨q, hq⟩ : ∃ q, q = wr.heap.size := ⟨_, rfl⟩
      rw [← hq] at HB0 hsz ⊢
      have HQ : Hid (w.heap.size < q) := hsz
      clear HC hbel
      generalize wr.alloc (.cells (madeCells #[.int .u64 0] 25) 182) = W1 at *
      clear hq wr
      go_loopg [12] 5 (fun g r wr => ∃ x : Nat, g = 5 - x ∧ x ≤ 5 ∧ r = .int .i64 x ∧ Hid (IRow wr q .u64 182 25 (setTo posB (fun p => rot (mixF ws (placeP p)) (turnsAt (placeP p))) (5 * x))) ∧ Hid (IRow wr w.heap.size .u64 182 5 (fun j => colF ws j)) ∧ Hid (Below w.heap.size w wr))
      case atStart => exact ⟨0, rfl, by omega, rfl, HB0.out, HC1.out, HBE.out⟩
      case round =>
        obtain ⟨x, hg, hx, rfl, hrow, hcol, hbel⟩ := hrel
        have HG : Hid (gk = 5 - x) := hg
        clear hg HB0 HC1 HBE
        by_cases hlt : x < 5
        · have hxi : (x : Int) < 5 := by omega
          go_wp2_with fail
          go_loopg [13] 5 (fun g r wr => ∃ y : Nat, g = 5 - y ∧ y ≤ 5 ∧ r = .int .i64 y ∧ Hid (IRow wr q .u64 182 25 (setTo posB (fun p => rot (mixF ws (placeP p)) (turnsAt (placeP p))) (5 * x + y))) ∧ Hid (IRow wr w.heap.size .u64 182 5 (fun j => colF ws j)) ∧ Hid (Below w.heap.size w wr))
          case atStart => exact ⟨0, rfl, by omega, rfl, hrow.out, hcol.out, hbel.out⟩
          case round =>
            obtain ⟨y, hg, hy, rfl, hrow2, hcol2, hbel2⟩ := hrel
            have HG2 : Hid (gk = 5 - y) := hg
            clear hg hrow hcol hbel
            by_cases hlt2 : y < 5
            · obtain ⟨k, hk⟩ : ∃ k : Nat, k = x % 5 + 5 * (y % 5) := ⟨_, rfl⟩
              have hk25 : k < 25 := by omega
              have hki : (k : Int) < 25 := by omega
              have HK : Hid (k = placeP (5 * x + y)) := by
                show k = placeP (5 * x + y)
                unfold placeP; rw [show (5 * x + y) / 5 = x by omega, show (5 * x + y) % 5 = y by omega]; omega
              have HAT : Hid (∀ w : World, Calls Tryz.prog 271 #[.int .i64 x, .int .i64 y] w fun e w' => e = .returned (.int .i64 (k : Int)) ∧ w' = w) := fun w => by rw [hk]; exact at_calls x y (by omega) (by omega) w
              obtain ⟨o, ho⟩ : ∃ o : Nat, o = y % 5 + 5 * ((2 * x + 3 * y) % 5) := ⟨_, rfl⟩
              have ho25 : o < 25 := by omega
              have HO : Hid (o = posB (5 * x + y)) := by
                show o = posB (5 * x + y)
                unfold posB; rw [show (5 * x + y) / 5 = x by omega, show (5 * x + y) % 5 = y by omega, ho]
              have HAT2 : Hid (∀ w : World, Calls Tryz.prog 271 #[.int .i64 y, .int .i64 (2 * (x : Int) + 3 * (y : Int))] w fun e w' => e = .returned (.int .i64 (o : Int)) ∧ w' = w) := fun w => by
                have := at_calls y (2 * x + 3 * y) (by omega) (by omega) w
                rw [← ho] at this; exact this
              have hca := (HA.out.below hbel2.out).at_ k hk25
              have hcr := (HR.out.below hbel2.out).at_ k hk25
              have in1 : (0 : Int) ≤ ((x : Int) + 1) % 5 := by omega
              have il1 : ((x : Int) + 1) % 5 < 5 := by omega
              have it1 : (((x : Int) + 1) % 5).toNat = (x + 1) % 5 := by omega
              have in4 : (0 : Int) ≤ ((x : Int) + 4) % 5 := by omega
              have il4 : ((x : Int) + 4) % 5 < 5 := by omega
              have it4 : (((x : Int) + 4) % 5).toNat = (x + 4) % 5 := by omega
              have hc1 := hcol2.out.at_ ((x + 1) % 5) (by omega)
              have hc4 := hcol2.out.at_ ((x + 4) % 5) (by omega)
              have htk := turnsAt_lt k hk25
              have hra := hws k
              have hr1 := col_range ws hws ((x + 1) % 5)
              have hr4 := col_range ws hws ((x + 4) % 5)
              have hmx : mixF ws k = xo (xo (ws k) (colF ws ((x + 4) % 5))) (rot (colF ws ((x + 1) % 5)) 1) := by
                unfold mixF
                rw [show (k + 4) % 5 = (x + 4) % 5 by omega, show (k + 1) % 5 = (x + 1) % 5 by omega]
                exact (xo_assoc hra hr4 (rot_range _ 1 (by omega) hr1)).symm
              have HNX : Hid (IRow (wr.setCell ⟨q, o, none⟩ (.int .u64 (rot (mixF ws k) (turnsAt k)))) q .u64 182 25 (setTo posB (fun p => rot (mixF ws (placeP p)) (turnsAt (placeP p))) (5 * x + (y + 1)))) := by
                have h := hrow2.out.set o (rot (mixF ws k) (turnsAt k))
                show IRow _ _ _ _ _ (setF (setTo posB (fun p => rot (mixF ws (placeP p)) (turnsAt (placeP p))) (5 * x + y)) (posB (5 * x + y)) (rot (mixF ws (placeP (5 * x + y))) (turnsAt (placeP (5 * x + y)))))
                rw [← HO.out, ← HK.out]
                exact h
              have HNC : Hid (IRow (wr.setCell ⟨q, o, none⟩ (.int .u64 (rot (mixF ws k) (turnsAt k)))) w.heap.size .u64 182 5 (fun j => colF ws j)) := hcol2.out.setOther _ _ (by show w.heap.size ≠ q; have := HQ.out; omega)
              have HNB : Hid (Below w.heap.size w (wr.setCell ⟨q, o, none⟩ (.int .u64 (rot (mixF ws k) (turnsAt k))))) := hbel2.out.setCell (by show w.heap.size ≤ q; have := HQ.out; omega) _
              have hm := xo_range (xo_range hra hr4) (rot_range _ 1 (by omega) hr1)
              rw [hmx] at HNX HNC HNB
              have hof := hrow2.out.free o
              have hoc := hrow2.out.at_ o ho25
              generalize setTo posB (fun p => rot (mixF ws (placeP p)) (turnsAt (placeP p))) (5 * x + y) o = ov at hoc
              clear hmx hk ho hrow2
              generalize colF ws ((x + 1) % 5) = c1 at *
              generalize colF ws ((x + 4) % 5) = c4 at *
              generalize ws k = av at *
              generalize turnsAt k = tk at *
              have HM : Hid _ := hm
              unfold xo at HNX HNC HNB HM
              clear hm
              go_wp2_with fail
              refine (HAT.out _).mono ?_
              rintro e w1 ⟨rfl, hw1⟩
              subst hw1
              go_wp2_with fail
              refine (lturned_calls c1 1 (by omega) hr1 _).mono ?_
              rintro e w2 ⟨rfl, hw2⟩
              subst hw2
              generalize rot c1 1 = d1 at *
              go_wp2_with fail
              go_quiet ((go_at_call 272; refine Calls.quiet_of_same (lturned_calls _ tk htk HM.out _)))
              go_wp2_with fail
              refine (HAT2.out _).mono ?_
              rintro e w3 ⟨rfl, hw3⟩
              subst hw3
              go_wp2_with fail
              go_roundg (5 - (y + 1))
              case measure => have := HG2.out; omega
              case rel => exact ⟨y + 1, rfl, by omega, by go_num, ⟨HNX.out.block⟩, ⟨HNC.out.block⟩, ⟨HNB.out.os, HNB.out.tape, HNB.out.output, HNB.out.size, HNB.out.block⟩⟩
            · obtain rfl : y = 5 := by omega
              have hlt2' : ¬ ((5 : Int) < 5) := by omega
              go_wp2_with fail
              go_roundg (5 - (x + 1))
              case measure => have := HG.out; omega
              case rel => exact ⟨x + 1, rfl, by omega, by go_num, by rw [show 5 * (x + 1) = 5 * x + 5 by omega]; exact hrow2.out, hcol2.out, hbel2.out⟩
        · obtain rfl : x = 5 := by omega
          have hlt' : ¬ ((5 : Int) < 5) := by omega
          have HV : Hid (IRow wr q .u64 182 25 (vTo (mixF ws) 25)) := hrow.out.congr (fun j hj => bTo_all (mixF ws) j hj)
          have HVR : Hid (U64 (vTo (mixF ws) 25)) := vTo_range _ (mixF_range ws hws)
          have hqz : q < wr.heap.size := hrow.out.lt
          have HO0 : Hid (IRow (wr.alloc (.cells (madeCells #[.int .u64 0] 25) 182)) wr.heap.size .u64 182 25 (fun _ => 0)) := irow_made wr .u64 182 25
          have HV1 : Hid (IRow (wr.alloc (.cells (madeCells #[.int .u64 0] 25) 182)) q .u64 182 25 (vTo (mixF ws) 25)) := HV.out.alloc _
          have HBE : Hid (Below w.heap.size w (wr.alloc (.cells (madeCells #[.int .u64 0] 25) 182))) := hbel.out.alloc hbel.out.size _
          have hws2 := hbel.out.size
          obtain ⟨F, hF⟩ : ∃ F, F = vTo (mixF ws) 25 := ⟨_, rfl⟩
          have HTF : Hid (threeF ws = chiF F) := by rw [hF]; rfl
          rw [← hF] at HV1 HVR
          clear hrow hcol hbel HG HV hF HA HR
          go_wp2_with fail
          obtain ⟨u, hu⟩ : ∃ u, u = wr.heap.size := ⟨_, rfl⟩
          rw [← hu] at HO0 hqz hws2 ⊢
          have HU : Hid (q < u ∧ w.heap.size ≤ u) := ⟨hqz, hws2⟩
          generalize wr.alloc (.cells (madeCells #[.int .u64 0] 25) 182) = W2 at *
          clear hu wr hqz hws2
          go_loopg [19] 5 (fun g r wr => ∃ x : Nat, g = 5 - x ∧ x ≤ 5 ∧ r = .int .i64 x ∧ Hid (IRow wr u .u64 182 25 (setTo placeP (fun p => chiF F (placeP p)) (5 * x))) ∧ Hid (IRow wr q .u64 182 25 F) ∧ Hid (Below w.heap.size w wr))
          case atStart => exact ⟨0, rfl, by omega, rfl, HO0.out, HV1.out, HBE.out⟩
          case round =>
            obtain ⟨x, hg, hx, rfl, hrow, hcol, hbel⟩ := hrel
            have HG : Hid (gk = 5 - x) := hg
            clear hg HO0 HV1 HBE
            by_cases hlt : x < 5
            · have hxi : (x : Int) < 5 := by omega
              go_wp2_with fail
              go_loopg [20] 5 (fun g r wr => ∃ y : Nat, g = 5 - y ∧ y ≤ 5 ∧ r = .int .i64 y ∧ Hid (IRow wr u .u64 182 25 (setTo placeP (fun p => chiF F (placeP p)) (5 * x + y))) ∧ Hid (IRow wr q .u64 182 25 F) ∧ Hid (Below w.heap.size w wr))
              case atStart => exact ⟨0, rfl, by omega, rfl, hrow.out, hcol.out, hbel.out⟩
              case round =>
                obtain ⟨y, hg, hy, rfl, hrow2, hcol2, hbel2⟩ := hrel
                have HG2 : Hid (gk = 5 - y) := hg
                clear hg hrow hcol hbel
                by_cases hlt2 : y < 5
                · obtain ⟨k, hk⟩ : ∃ k : Nat, k = x % 5 + 5 * (y % 5) := ⟨_, rfl⟩
                  obtain ⟨l, hl⟩ : ∃ l : Nat, l = (x + 1) % 5 + 5 * (y % 5) := ⟨_, rfl⟩
                  obtain ⟨m, hm⟩ : ∃ m : Nat, m = (x + 2) % 5 + 5 * (y % 5) := ⟨_, rfl⟩
                  have hk25 : k < 25 := by omega
                  have hl25 : l < 25 := by omega
                  have hm25 : m < 25 := by omega
                  have HK : Hid (k = placeP (5 * x + y)) := by
                    show k = placeP (5 * x + y)
                    unfold placeP; rw [show (5 * x + y) / 5 = x by omega, show (5 * x + y) % 5 = y by omega]; omega
                  have HAT : Hid (∀ w : World, Calls Tryz.prog 271 #[.int .i64 x, .int .i64 y] w fun e w' => e = .returned (.int .i64 (k : Int)) ∧ w' = w) := fun w => by rw [hk]; exact at_calls x y (by omega) (by omega) w
                  have HATL : Hid (∀ w : World, Calls Tryz.prog 271 #[.int .i64 ((x : Int) + 1), .int .i64 y] w fun e w' => e = .returned (.int .i64 (l : Int)) ∧ w' = w) := fun w => by
                    have := at_calls (x + 1) y (by omega) (by omega) w
                    rw [← hl] at this; exact this
                  have HATM : Hid (∀ w : World, Calls Tryz.prog 271 #[.int .i64 ((x : Int) + 2), .int .i64 y] w fun e w' => e = .returned (.int .i64 (m : Int)) ∧ w' = w) := fun w => by
                    have := at_calls (x + 2) y (by omega) (by omega) w
                    rw [← hm] at this; exact this
                  have hck := hcol2.out.at_ k hk25
                  have hcl := hcol2.out.at_ l hl25
                  have hcm := hcol2.out.at_ m hm25
                  have hof := hrow2.out.free k
                  have hoc := hrow2.out.at_ k hk25
                  have HCH : Hid (chiF F k = xo (F k) (an (F m) (F l))) := by
                    show chiF F k = xo (F k) (an (F m) (F l))
                    unfold chiF
                    rw [show k / 5 * 5 + (k + 2) % 5 = m by omega, show k / 5 * 5 + (k + 1) % 5 = l by omega]
                  generalize setTo placeP (fun p => chiF F (placeP p)) (5 * x + y) k = ov at hoc
                  have hval : bits .xor .u64 (F k) (bits .and .u64 (bits .xor .u64 IntKind.u64.max (F l)) (F m)) = chiF F k := by
                    rw [HCH.out, not_and (HVR.out l) (HVR.out m)]; rfl
                  have HNX : Hid (IRow (wr.setCell ⟨u, k, none⟩ (.int .u64 (bits .xor .u64 (F k) (bits .and .u64 (bits .xor .u64 IntKind.u64.max (F l)) (F m))))) u .u64 182 25 (setTo placeP (fun p => chiF F (placeP p)) (5 * x + (y + 1)))) := by
                    have h := hrow2.out.set k (chiF F k)
                    rw [hval]
                    show IRow _ _ _ _ _ (setF (setTo placeP (fun p => chiF F (placeP p)) (5 * x + y)) (placeP (5 * x + y)) (chiF F (placeP (5 * x + y))))
                    rw [← HK.out]
                    exact h
                  have HNC : Hid (IRow (wr.setCell ⟨u, k, none⟩ (.int .u64 (bits .xor .u64 (F k) (bits .and .u64 (bits .xor .u64 IntKind.u64.max (F l)) (F m))))) q .u64 182 25 F) := hcol2.out.setOther _ _ (by show q ≠ u; have := HU.out.1; omega)
                  have HNB : Hid (Below w.heap.size w (wr.setCell ⟨u, k, none⟩ (.int .u64 (bits .xor .u64 (F k) (bits .and .u64 (bits .xor .u64 IntKind.u64.max (F l)) (F m)))))) := hbel2.out.setCell (by show w.heap.size ≤ u; exact HU.out.2) _
                  clear hk hl hm hval hrow2 hcol2 hbel2
                  generalize F k = fk at *
                  generalize F l = fl at *
                  generalize F m = fm at *
                  go_wp2_with fail
                  refine (HAT.out _).mono ?_
                  rintro e w1 ⟨rfl, hw1⟩
                  subst hw1
                  go_wp2_with fail
                  refine (HATL.out _).mono ?_
                  rintro e w1 ⟨rfl, hw1⟩
                  subst hw1
                  go_wp2_with fail
                  refine (HATM.out _).mono ?_
                  rintro e w1 ⟨rfl, hw1⟩
                  subst hw1
                  go_wp2_with fail
                  go_region
                  all_goals go_wp2_with fail
                  all_goals go_roundg (5 - (y + 1))
                  all_goals first
                    | (have := HG2.out; omega)
                    | exact ⟨y + 1, rfl, by omega, by go_num, HNX.out.drew, HNC.out.drew, HNB.out.drew⟩
                · obtain rfl : y = 5 := by omega
                  have hlt2' : ¬ ((5 : Int) < 5) := by omega
                  go_wp2_with fail
                  go_roundg (5 - (x + 1))
                  case measure => have := HG.out; omega
                  case rel => exact ⟨x + 1, rfl, by omega, by go_num, by rw [show 5 * (x + 1) = 5 * x + 5 by omega]; exact hrow2.out, hcol2.out, hbel2.out⟩
            · obtain rfl : x = 5 := by omega
              have hlt' : ¬ ((5 : Int) < 5) := by omega
              have HT : Hid (IRow wr u .u64 182 25 (threeF ws)) := hrow.out.congr (fun j hj => by
                rw [HTF.out]
                have := setTo_at placeP (fun p => chiF F (placeP p)) 25 (fun i j => placeP_inj i j) (placeP j) (placeP_lt j hj)
                rw [placeP_self j hj] at this
                exact this)
              have h0 := HT.out.at_ 0 (by omega)
              have h0f := HT.out.free 0
              have HFI : Hid (IRow (wr.setCell ⟨u, 0, none⟩ (.int .u64 (xo (threeF ws 0) z))) u .u64 182 25 (setF (threeF ws) 0 (xo (threeF ws 0) z))) := HT.out.set 0 _
              have HNB : Hid (Below w.heap.size w (wr.setCell ⟨u, 0, none⟩ (.int .u64 (xo (threeF ws 0) z)))) := hbel.out.setCell (by show w.heap.size ≤ u; exact HU.out.2) _
              clear hrow hcol hbel HT
              generalize hFF : setF (threeF ws) 0 (xo (threeF ws 0) z) = FF at *
              have HFF : Hid (setF (threeF ws) 0 (xo (threeF ws 0) z) = FF) := hFF
              clear hFF
              generalize threeF ws 0 = f0 at h0 HFI HNB
              unfold xo at HFI HNB
              go_wp2_with fail
              go_ret
              exact ⟨⟨u, rfl, HU.out.2, by rw [HFF.out]; exact HFI.out⟩, HNB.out⟩
end Go.Proofs.YtenmjjpkbcogbaaGreatDoor

/- LhE -/
namespace Go.Proofs.YtenmjjpkbcogbaaGreatDoor
open Go.RowKit

theorem an_range {a b : Int} (ha : 0 ≤ a ∧ a < 18446744073709551616) (hb : 0 ≤ b ∧ b < 18446744073709551616) : 0 ≤ an a b ∧ an a b < 18446744073709551616 := by
  obtain ⟨m, rfl, hm⟩ := u64_nat ha
  obtain ⟨n, rfl, hn⟩ := u64_nat hb
  unfold an
  rw [u64_andNot_nat _ _ hm hn]
  have : m &&& (18446744073709551615 - n) < 2 ^ 64 := Nat.and_lt_two_pow _ (by omega)
  omega
theorem wordsAt_lt (i : Nat) (h : i < 24) : wordsAt i < 18446744073709551616 := by
  have : ∀ i : Fin 24, wordsAt i < 18446744073709551616 := by decide
  exact this ⟨i, h⟩
theorem threeF_range (ws : Nat → Int) (h : U64 ws) : U64 (threeF ws) := fun _ =>
  have hv := vTo_range _ (mixF_range ws h)
  xo_range (hv _) (an_range (hv _) (hv _))
theorem permTo_range (ws : Nat → Int) (h : U64 ws) : ∀ k, k ≤ 24 → U64 (permTo ws k)
  | 0, _ => h
  | k + 1, hk => by
    have ih := threeF_range _ (permTo_range ws h k (by omega))
    exact setF_range _ ih _ _ (xo_range (ih _) ⟨by omega, by have := wordsAt_lt k (by omega); omega⟩)

set_option maxRecDepth 100000 in
set_option maxHeartbeats 1000000 in
theorem permute_calls (ba : Nat) (ws : Nat → Int) (hws : U64 ws) (w : World) (ha : IRow w ba .u64 182 25 ws) :
    Calls Tryz.prog 154 #[.slice (some ⟨ba, 0, none⟩) 25 25] w fun e w' => (∃ b, e = .returned (.slice (some ⟨b, 0, none⟩) 25 25) ∧ w.heap.size ≤ b ∧ IRow w' b .u64 182 25 (permF ws)) ∧ Below w.heap.size w w' := by
  have HA : Hid (IRow w ba .u64 182 25 ws) := ha
  have HW : Hid (U64 ws) := hws
  clear ha hws
  go_enter Tryz.func154, Tryz.ntmps154
  go_wp2_with fail
  refine (turns_calls _).mono ?_
  rintro e w1 ⟨⟨br, rfl, hbr, hr⟩, B1⟩
  have HR : Hid (IRow w1 br .i64 3 25 (fun j => (turnsAt j : Int))) := hr
  have HB1 : Hid (Below w.heap.size w w1) := B1
  clear hr B1 hbr
  go_wp2_with fail
  refine (outputs_calls _).mono ?_
  rintro e w2 ⟨⟨bl, rfl, hbl, hl⟩, B2⟩
  have HL : Hid (IRow w2 bl .i64 3 168 (fun j => ((regN j % 2 : Nat) : Int))) := hl
  have HR2 : Hid (IRow w2 br .i64 3 25 (fun j => (turnsAt j : Int))) := HR.out.below B2
  have HB2 : Hid (Below w.heap.size w w2) := HB1.out.trans (B2.mono HB1.out.size)
  have HA2 : Hid (IRow w2 ba .u64 182 25 ws) := HA.out.below HB2.out
  clear hl B2 hbl HR HB1 HA
  go_wp2_with fail
  go_loopg [0, 5] 24 (fun g a r wr => ∃ k b : Nat, g = 24 - k ∧ k ≤ 24 ∧ r = .int .i64 k ∧ a = .slice (some ⟨b, 0, none⟩) 25 25 ∧ Hid (IRow wr b .u64 182 25 (permTo ws k)) ∧ Hid (IRow wr br .i64 3 25 (fun j => (turnsAt j : Int))) ∧ Hid (IRow wr bl .i64 3 168 (fun j => ((regN j % 2 : Nat) : Int))) ∧ Hid (Below w.heap.size w wr) ∧ Hid (k ≠ 0 → w.heap.size ≤ b))
  case atStart => exact ⟨0, ba, rfl, by omega, rfl, rfl, HA2.out, HR2.out, HL.out, HB2.out, fun h => absurd rfl h⟩
  case round =>
    obtain ⟨k, b, hg, hk, rfl, rfl, hrow, hr, hl, hbel, hnew⟩ := hrel
    have HG : Hid (gk = 24 - k) := hg
    clear hg HA2 HR2 HL HB2
    by_cases hlt : k < 24
    · have hki : (k : Int) < 24 := by omega
      go_wp2_with fail
      refine (constant_calls bl k hlt _ hl.out).mono ?_
      rintro e w3 ⟨rfl, n3, rfl⟩
      go_wp2_with fail
      refine (round_calls b br (permTo ws k) (permTo_range ws HW.out k (by omega)) (wordsAt k : Int) (wr.drewN n3) (hrow.out.drewN n3) (hr.out.drewN n3)).mono ?_
      rintro e w4 ⟨⟨b4, rfl, hb4, hrow4⟩, B4⟩
      have hBd : Below wr.heap.size wr w4 := ⟨B4.os, B4.tape, B4.output, B4.size, B4.block⟩
      have HROW : Hid (IRow w4 b4 .u64 182 25 (permTo ws (k + 1))) := hrow4
      have HR4 : Hid (IRow w4 br .i64 3 25 (fun j => (turnsAt j : Int))) := hr.out.below hBd
      have HL4 : Hid (IRow w4 bl .i64 3 168 (fun j => ((regN j % 2 : Nat) : Int))) := hl.out.below hBd
      have HB4 : Hid (Below w.heap.size w w4) := hbel.out.trans (hBd.mono hbel.out.size)
      have HN4 : Hid (w.heap.size ≤ b4) := Nat.le_trans hbel.out.size hb4
      clear hrow4 B4 hBd hb4
      go_wp2_with fail
      go_roundg (24 - (k + 1))
      case measure => have := HG.out; omega
      case rel => exact ⟨k + 1, b4, rfl, by omega, by go_num, rfl, HROW.out, HR4.out, HL4.out, HB4.out, fun _ => HN4.out⟩
    · obtain rfl : k = 24 := by omega
      have hlt' : ¬ ((24 : Int) < 24) := by omega
      go_wp2_with fail
      go_ret
      exact ⟨⟨b, rfl, hnew.out (by omega), hrow.out⟩, hbel.out⟩
end Go.Proofs.YtenmjjpkbcogbaaGreatDoor

/- LhF -/
namespace Go.Proofs.YtenmjjpkbcogbaaGreatDoor
open Go.RowKit

/-- the t highest of the eight bytes of p from i on, as a number -/
def wordTo (p : List UInt8) (i : Nat) : Nat → Nat
  | 0 => 0
  | t + 1 => wordTo p i t * 256 + (p.getD (i + (7 - t)) 0).toNat
theorem wordTo_lt (p : List UInt8) (i : Nat) : ∀ t, wordTo p i t < 256 ^ t
  | 0 => by show 0 < 1; omega
  | t + 1 => by
    have h := wordTo_lt p i t
    have hc := (p.getD (i + (7 - t)) 0).toNat_lt
    show wordTo p i t * 256 + (p.getD (i + (7 - t)) 0).toNat < 256 ^ (t + 1)
    rw [Nat.pow_succ]; omega

set_option maxRecDepth 100000 in
set_option maxHeartbeats 1000000 in
theorem word_calls (s : ByteArray) (i : Nat) (hs : s.size ≤ 4611686018427387904) (hi : i + 8 ≤ s.size) (w : World) :
    Calls Tryz.prog 153 #[.string s, .int .i64 i] w fun e w' => e = .returned (.int .u64 (wordTo s.data.toList i 8)) ∧ w' = w := by
  have hl : s.data.toList.length = s.size := by simp
  have HL : Hid (s.data.toList.length = s.size) := hl
  clear hl
  go_enter Tryz.func153, Tryz.ntmps153
  go_wp2_with fail
  go_loopg [5, 6] 8 (fun g v r wr => wr = w ∧ ∃ t V : Nat, g = 8 - t ∧ t ≤ 8 ∧ v = .int .u64 V ∧ r = .int .i64 (7 - (t : Int)) ∧ Hid (wordTo s.data.toList i t = V))
  case atStart => exact ⟨rfl, 0, 0, rfl, by omega, rfl, rfl, rfl⟩
  case round =>
    obtain ⟨hw, t, V, hg, ht, rfl, rfl, hV⟩ := hrel
    subst hw
    have HG : Hid (gk = 8 - t) := hg
    clear hg
    by_cases hlt : t < 8
    · have hk : (0 : Int) ≤ 7 - (t : Int) := by omega
      have hix : i + (7 - t) < s.size := by omega
      obtain ⟨j, hj⟩ : ∃ j : Nat, j = i + (7 - t) := ⟨_, rfl⟩
      have hji : (i : Int) + (7 - (t : Int)) = (j : Int) := by omega
      rw [← hj] at hix
      obtain ⟨c, hcc⟩ : ∃ c : Nat, (s[j]).toNat = c := ⟨_, rfl⟩
      have hc256 : c < 256 := by rw [← hcc]; exact (s[j]).toNat_lt
      have HST : Hid (wordTo s.data.toList i (t + 1) = V * 256 + c) := by
        show wordTo s.data.toList i t * 256 + (s.data.toList.getD (i + (7 - t)) 0).toNat = _
        rw [hV.out, ← hj, List.getD_eq_getElem?_getD, List.getElem?_eq_getElem (by rw [HL.out]; exact hix)]
        show V * 256 + (s[j]).toNat = _
        rw [hcc]
      have hVb : V < 256 ^ 7 := by
        rw [← hV.out]
        exact Nat.lt_of_lt_of_le (wordTo_lt _ i t) (Nat.pow_le_pow_right (by decide) (by omega))
      have hVb' : V < 72057594037927936 := hVb
      have hw1 : IntKind.u64.wrap ((V : Int) * 256) = (V : Int) * 256 := by rw [IntKind.wrap_u64]; omega
      have hw2 : IntKind.u64.wrap ((V : Int) * 256 + (c : Int)) = (V : Int) * 256 + (c : Int) := by rw [IntKind.wrap_u64]; omega
      clear hj hVb
      go_wp2_with fail
      go_roundg (8 - (t + 1))
      case measure => have := HG.out; omega
      case rel => exact ⟨rfl, t + 1, V * 256 + c, rfl, by omega, by go_num, by go_num, HST.out⟩
    · obtain rfl : t = 8 := by omega
      go_wp2_with fail
      go_ret
      exact ⟨by rw [hV.out]; rfl, rfl⟩
end Go.Proofs.YtenmjjpkbcogbaaGreatDoor

/- LhG -/
namespace Go.Proofs.YtenmjjpkbcogbaaGreatDoor
open Go.RowKit

/-- the number that the first k bytes are, the lowest first -/
def wsum (f : Nat → Nat) : Nat → Nat
  | 0 => 0
  | k + 1 => wsum f k + f k * 2 ^ (k * 8)
theorem wsum_lt (f : Nat → Nat) (h : ∀ k, f k < 256) : ∀ k, wsum f k < 2 ^ (k * 8)
  | 0 => by show 0 < 1; omega
  | k + 1 => by
    have ih := wsum_lt f h k
    have hk := h k
    have e : 2 ^ ((k + 1) * 8) = 256 * 2 ^ (k * 8) := by rw [Nat.add_mul, Nat.pow_add, Nat.mul_comm]
    rw [e]
    show wsum f k + f k * 2 ^ (k * 8) < 256 * 2 ^ (k * 8)
    generalize 2 ^ (k * 8) = P at *
    have : f k * P ≤ 255 * P := Nat.mul_le_mul_right _ (by omega)
    omega
theorem xor_join (i x y : Nat) (hx : x < 2 ^ i) : x ^^^ (y * 2 ^ i) = x + y * 2 ^ i := by
  have h1 : x ^^^ (y * 2 ^ i) = (y * 2 ^ i) ||| x := by
    apply Nat.eq_of_testBit_eq
    intro j
    rw [Nat.testBit_xor, Nat.testBit_or]
    by_cases hj : j < i
    · have : (y * 2 ^ i).testBit j = false := by
        rw [Nat.mul_comm, Nat.testBit_two_pow_mul]; simp; omega
      rw [this]; simp
    · have : x.testBit j = false := Nat.testBit_lt_two_pow (Nat.lt_of_lt_of_le hx (Nat.pow_le_pow_right (by decide) (by omega)))
      rw [this]; simp
  rw [h1, nat_join i (y * 2 ^ i) x (Nat.mul_mod_left _ _) hx, Nat.add_comm]
theorem wsum_step (f : Nat → Nat) (h : ∀ k, f k < 256) (k : Nat) (hk : k < 8) (a : Int) (ha : 0 ≤ a ∧ a < 18446744073709551616) :
    xo (xo a (wsum f k : Int)) (IntKind.u64.wrap ((f k : Int) * 2 ^ (k * 8))) = xo a (wsum f (k + 1) : Int) := by
  have h1 := wsum_lt f h k
  have h2 := wsum_lt f h (k + 1)
  have h3 : (2 : Nat) ^ (k * 8) ≤ 2 ^ 56 := Nat.pow_le_pow_right (by decide) (by omega)
  have h4 : (2 : Nat) ^ ((k + 1) * 8) ≤ 2 ^ 64 := Nat.pow_le_pow_right (by decide) (by omega)
  have e : (f k : Int) * 2 ^ (k * 8) = ((f k * 2 ^ (k * 8) : Nat) : Int) := by rw [Int.natCast_mul, Int.natCast_pow]; rfl
  have hs : wsum f (k + 1) = wsum f k + f k * 2 ^ (k * 8) := rfl
  have hw : IntKind.u64.wrap ((f k : Int) * 2 ^ (k * 8)) = ((f k * 2 ^ (k * 8) : Nat) : Int) := by
    rw [e, IntKind.wrap_u64]
    rw [hs] at h2
    generalize f k * 2 ^ (k * 8) = Z at *
    omega
  have hzb : f k * 2 ^ (k * 8) < 18446744073709551616 := by rw [hs] at h2; omega
  rw [hw, xo_assoc ha ⟨by omega, by omega⟩ ⟨by omega, by omega⟩]
  congr 1
  unfold xo
  rw [u64_xor_nat _ _ (by omega) hzb, xor_join _ _ _ h1, hs]
theorem word_wsum (p : List UInt8) (i : Nat) : wordTo p i 8 = wsum (fun k => (p.getD (i + k) 0).toNat) 8 := by
  simp only [wordTo, wsum, Nat.reduceSub]
  omega
end Go.Proofs.YtenmjjpkbcogbaaGreatDoor

/- LhH -/
namespace Go.Proofs.YtenmjjpkbcogbaaGreatDoor
open Go.RowKit

/-- bytes 0 .. t-1 of g join the words one by one -/
def flipsF (ws : Nat → Int) (g : Nat → Nat) : Nat → Nat → Int
  | 0 => ws
  | t + 1 => flipF (flipsF ws g t) t (g t)
theorem xo_zero' {a : Int} (ha : 0 ≤ a ∧ a < 18446744073709551616) : xo a 0 = a := by
  obtain ⟨m, rfl, hm⟩ := u64_nat ha
  unfold xo
  have := u64_xor_nat m 0 hm (by decide)
  rw [Nat.xor_zero] at this
  exact this
theorem flips_at (ws : Nat → Int) (hws : U64 ws) (g : Nat → Nat) (hg : ∀ k, g k < 256) : ∀ t j, flipsF ws g t j =
    if j < t / 8 then xo (ws j) (wsum (fun k => g (8 * j + k)) 8 : Int) else if j = t / 8 then xo (ws j) (wsum (fun k => g (8 * j + k)) (t % 8) : Int) else ws j
  | 0, j => by
    show ws j = _
    rw [if_neg (by omega)]
    by_cases h : j = 0 / 8
    · rw [if_pos h]; exact (xo_zero' (hws j)).symm
    · rw [if_neg h]
  | t + 1, j => by
    have ih := flips_at ws hws g hg t j
    show setF (flipsF ws g t) (t / 8) (xo (flipsF ws g t (t / 8)) (IntKind.u64.wrap ((g t : Int) * 2 ^ (t % 8 * 8)))) j = _
    unfold setF
    by_cases h : j = t / 8
    · rw [if_pos h, ← h, ih, if_neg (by omega), if_pos h]
      have hst := wsum_step (fun k => g (8 * j + k)) (fun k => hg _) (t % 8) (by omega) (ws j) (hws j)
      have e : 8 * j + t % 8 = t := by omega
      simp only [e] at hst
      rw [hst]
      by_cases h7 : t % 8 = 7
      · rw [if_pos (by omega), h7]
      · rw [if_neg (by omega), if_pos (by omega), show (t + 1) % 8 = t % 8 + 1 by omega]
    · rw [if_neg h, ih]
      by_cases h1 : j < t / 8
      · rw [if_pos h1, if_pos (by omega)]
      · rw [if_neg h1, if_neg h, if_neg (by omega)]
        by_cases h2 : j = (t + 1) / 8
        · rw [if_pos h2, show (t + 1) % 8 = 0 by omega]; exact (xo_zero' (hws j)).symm
        · rw [if_neg h2]
/-- a block of 136 bytes -/
def blockF (ws : Nat → Int) (p : List UInt8) (i : Nat) : Nat → Int := fun j => if j < 17 then xo (ws j) (wordTo p (i + 8 * j) 8 : Int) else ws j
theorem flips_block (ws : Nat → Int) (hws : U64 ws) (p : List UInt8) (i : Nat) : flipsF ws (fun t => (p.getD (i + t) 0).toNat) 136 = blockF ws p i := by
  funext j
  rw [flips_at ws hws _ (fun k => (p.getD (i + k) 0).toNat_lt)]
  show (if j < 17 then _ else if j = 17 then _ else _) = blockF ws p i j
  simp only [blockF]
  by_cases h : j < 17
  · rw [if_pos h, if_pos h, word_wsum]
    congr 3
    funext k
    rw [Nat.add_assoc]
  · rw [if_neg h, if_neg h]
    by_cases h2 : j = 17
    · rw [if_pos h2]; exact xo_zero' (hws j)
    · rw [if_neg h2]
end Go.Proofs.YtenmjjpkbcogbaaGreatDoor

/- LhI -/
namespace Go.Proofs.YtenmjjpkbcogbaaGreatDoor
open Go.RowKit

theorem permF_range (ws : Nat → Int) (h : U64 ws) : U64 (permF ws) := permTo_range ws h 24 (by omega)
theorem blockF_range (ws : Nat → Int) (h : U64 ws) (p : List UInt8) (i : Nat) : U64 (blockF ws p i) := fun j => by
  simp only [blockF]
  by_cases hj : j < 17
  · rw [if_pos hj]
    have := wordTo_lt p (i + 8 * j) 8
    exact xo_range (h j) ⟨by omega, by omega⟩
  · rw [if_neg hj]; exact h j
theorem zero_range : U64 zeroF := fun _ => by show (0 : Int) ≤ 0 ∧ (0 : Int) < 18446744073709551616; omega
/-- the words behind n blocks of p -/
def docTo (p : List UInt8) : Nat → Nat → Int
  | 0 => zeroF
  | n + 1 => permF (blockF (docTo p n) p (136 * n))
theorem docTo_range (p : List UInt8) : ∀ n, U64 (docTo p n)
  | 0 => zero_range
  | n + 1 => permF_range _ (blockF_range _ (docTo_range p n) p _)
def byteAt (p : List UInt8) (i : Nat) : Nat → Nat := fun t => (p.getD (i + t) 0).toNat
theorem writeF_take (p : List UInt8) : ∀ m, m ≤ p.length → writeF startF (p.take m) = (flipsF (docTo p (m / 136)) (byteAt p (136 * (m / 136))) (m % 136), m % 136)
  | 0, _ => rfl
  | m + 1, hm => by
    have ih := writeF_take p m (by omega)
    have e : p.take (m + 1) = p.take m ++ [p[m]'(by omega)] := by rw [List.take_succ_eq_append_getElem (by omega)]
    have ew : writeF startF (p.take (m + 1)) = byteF (writeF startF (p.take m)) (p[m]'(by omega)) := by rw [e]; unfold writeF; rw [List.foldl_append]; rfl
    have hb : byteAt p (136 * (m / 136)) (m % 136) = (p[m]'(by omega)).toNat := by
      unfold byteAt
      rw [show 136 * (m / 136) + m % 136 = m by omega, List.getD_eq_getElem?_getD, List.getElem?_eq_getElem (by omega)]; rfl
    rw [ew, ih]
    unfold byteF
    simp only
    rw [← hb]
    by_cases h : m % 136 + 1 = 136
    · rw [if_pos h, show (m + 1) % 136 = 0 by omega, show (m + 1) / 136 = m / 136 + 1 by omega]
      have : flipF (flipsF (docTo p (m / 136)) (byteAt p (136 * (m / 136))) (m % 136)) (m % 136) (byteAt p (136 * (m / 136)) (m % 136)) = blockF (docTo p (m / 136)) p (136 * (m / 136)) := by
        rw [← flips_block _ (docTo_range p _)]
        show flipsF (docTo p (m / 136)) (byteAt p (136 * (m / 136))) (m % 136 + 1) = _
        rw [h]; rfl
      rw [this]; rfl
    · rw [if_neg h, show (m + 1) % 136 = m % 136 + 1 by omega, show (m + 1) / 136 = m / 136 by omega]; rfl

theorem flip_zero (ws : Nat → Int) (h : U64 ws) (t : Nat) : flipF ws t 0 = ws := by
  funext j
  unfold flipF setF
  by_cases e : j = t / 8
  · rw [if_pos e, ← e]
    have : IntKind.u64.wrap (((0 : Nat) : Int) * 2 ^ (t % 8 * 8)) = 0 := by
      rw [show ((0 : Nat) : Int) * 2 ^ (t % 8 * 8) = 0 by simp, IntKind.wrap_u64]; rfl
    rw [this, xo_zero' (h j)]
  · rw [if_neg e]
theorem flip_range (ws : Nat → Int) (h : U64 ws) (t c : Nat) : U64 (flipF ws t c) := setF_range _ h _ _ (xo_range (h _) (by rw [IntKind.wrap_u64]; omega))
theorem flips_range (ws : Nat → Int) (h : U64 ws) (g : Nat → Nat) : ∀ t, U64 (flipsF ws g t)
  | 0 => h
  | t + 1 => flip_range _ (flips_range ws h g t) _ _
theorem flips_zeros (ws : Nat → Int) (h : U64 ws) (g : Nat → Nat) (a : Nat) : ∀ n, (∀ t, a ≤ t → t < a + n → g t = 0) → flipsF ws g (a + n) = flipsF ws g a
  | 0, _ => rfl
  | n + 1, hz => by
    show flipF (flipsF ws g (a + n)) (a + n) (g (a + n)) = _
    rw [hz (a + n) (by omega) (by omega), flip_zero _ (flips_range ws h g _), flips_zeros ws h g a n (fun t h1 h2 => hz t h1 (by omega))]
theorem flip_two (ws : Nat → Int) (h : U64 ws) : flipF (flipF ws 135 1) 135 128 = flipF ws 135 129 := by
  funext j
  unfold flipF setF
  by_cases e : j = 135 / 8
  · rw [if_pos e, if_pos e, if_pos rfl]
    rw [xo_assoc (h _) (by rw [IntKind.wrap_u64]; omega) (by rw [IntKind.wrap_u64]; omega)]
    congr 1
  · rw [if_neg e, if_neg e, if_neg e]

/-- the text, padded -/
def padL (l : List UInt8) : List UInt8 := if l.length % 136 = 135 then l ++ [129] else l ++ [1] ++ List.replicate (134 - l.length % 136) 0 ++ [128]
theorem padL_length (l : List UInt8) : (padL l).length = 136 * (l.length / 136 + 1) := by
  unfold padL
  by_cases h : l.length % 136 = 135
  · rw [if_pos h]; simp; omega
  · rw [if_neg h]; simp; omega
theorem padL_take (l : List UInt8) : (padL l).take l.length = l := by
  unfold padL
  by_cases h : l.length % 136 = 135
  · rw [if_pos h]; simp
  · rw [if_neg h, List.append_assoc, List.append_assoc]; simp
theorem padL_full (l : List UInt8) (h : l.length % 136 = 135) : byteAt (padL l) (136 * (l.length / 136)) 135 = 129 := by
  unfold byteAt padL
  rw [if_pos h, show 136 * (l.length / 136) + 135 = l.length by omega, List.getD_eq_getElem?_getD, List.getElem?_append_right (Nat.le_refl _), Nat.sub_self]
  rfl
theorem padL_at (l : List UInt8) (h : ¬ l.length % 136 = 135) (t : Nat) (ht : l.length % 136 ≤ t) (h135 : t ≤ 135) : byteAt (padL l) (136 * (l.length / 136)) t = if t = l.length % 136 then 1 else if t = 135 then 128 else 0 := by
  unfold byteAt padL
  rw [if_neg h, List.append_assoc, List.append_assoc, List.getD_eq_getElem?_getD, List.getElem?_append_right (by omega)]
  have e : 136 * (l.length / 136) + t - l.length = t - l.length % 136 := by omega
  rw [e]
  by_cases h1 : t = l.length % 136
  · rw [if_pos h1, h1, Nat.sub_self]; rfl
  · rw [if_neg h1, List.getElem?_append_right (by simp; omega)]
    by_cases h2 : t = 135
    · rw [if_pos h2, List.getElem?_append_right (by simp; omega)]
      have : t - l.length % 136 - [(1 : UInt8)].length - (List.replicate (134 - l.length % 136) (0 : UInt8)).length = 0 := by simp; omega
      rw [this]; rfl
    · rw [if_neg h2, List.getElem?_append_left (by simp; omega), List.getElem?_replicate, if_pos (by simp; omega)]
      rfl

/-- the document's hash and the program's are one -/
theorem doc_hash (l : List UInt8) : headS (docTo (padL l) (l.length / 136 + 1)) = sumF (writeF startF l) := by
  have hw := writeF_take (padL l) l.length (by rw [padL_length]; omega)
  rw [padL_take] at hw
  rw [hw]
  unfold sumF
  simp only
  have hD := docTo_range (padL l) (l.length / 136)
  have hb : docTo (padL l) (l.length / 136 + 1) = permF (flipsF (docTo (padL l) (l.length / 136)) (byteAt (padL l) (136 * (l.length / 136))) 136) := by
    show permF (blockF _ _ _) = _
    rw [← flips_block _ hD]; rfl
  rw [hb]
  congr 2
  by_cases h : l.length % 136 = 135
  · show flipF (flipsF _ _ 135) 135 (byteAt (padL l) (136 * (l.length / 136)) 135) = _
    rw [padL_full l h, h, flip_two _ (flips_range _ hD _ _)]
  · show flipF (flipsF _ _ 135) 135 (byteAt (padL l) (136 * (l.length / 136)) 135) = _
    rw [padL_at l h 135 (by omega) (by omega), if_neg (by omega), if_pos rfl]
    have hz := flips_zeros (docTo (padL l) (l.length / 136)) hD (byteAt (padL l) (136 * (l.length / 136))) (l.length % 136 + 1) (134 - l.length % 136) (fun t h1 h2 => by
      rw [padL_at l h t (by omega) (by omega), if_neg (by omega), if_neg (by omega)])
    rw [show l.length % 136 + 1 + (134 - l.length % 136) = 135 by omega] at hz
    rw [hz]
    show flipF (flipF (flipsF _ _ (l.length % 136)) (l.length % 136) (byteAt (padL l) (136 * (l.length / 136)) (l.length % 136))) 135 128 = _
    rw [padL_at l h _ (Nat.le_refl _) (by omega), if_pos rfl]
end Go.Proofs.YtenmjjpkbcogbaaGreatDoor

/- LhJ -/
namespace Go.Proofs.YtenmjjpkbcogbaaGreatDoor
open Go.RowKit

def padN (n : Nat) : Nat := (136 - (n + 1) % 136) % 136
theorem padN_mod (n k : Nat) (h : k < padN n) : (n + 1 + k) % 136 ≠ 0 := by unfold padN at h; omega
theorem padN_end (n : Nat) : (n + 1 + padN n) % 136 = 0 := by unfold padN; omega
theorem padN_lt (n : Nat) : padN n < 136 := by unfold padN; omega
/-- the last byte ahead of the 128 -/
def lastU (n : Nat) : UInt8 := if padN n = 0 then 1 else 0
theorem padL_set (l : List UInt8) : (l ++ [1] ++ List.replicate (padN l.length) 0).set (l.length + padN l.length) (UInt8.ofNat ((lastU l.length).toNat + 128)) = padL l := by
  by_cases h : l.length % 136 = 135
  · have hp : padN l.length = 0 := by unfold padN; omega
    unfold padL lastU
    rw [if_pos h, hp]
    simp
  · have hp : padN l.length = 134 - l.length % 136 + 1 := by unfold padN; omega
    unfold padL lastU
    rw [if_neg h, hp, if_neg (by omega), List.replicate_succ', ← List.append_assoc]
    rw [List.set_append_right _ _ (by simp), List.append_cancel_left_eq]
    have : l.length + (134 - l.length % 136 + 1) - (l ++ [1] ++ List.replicate (134 - l.length % 136) 0 : List UInt8).length = 0 := by simp; try omega
    rw [this]; rfl
theorem padL_last (l : List UInt8) : (l ++ [1] ++ List.replicate (padN l.length) 0)[l.length + padN l.length]? = some (lastU l.length) := by
  by_cases hp : padN l.length = 0
  · unfold lastU; rw [if_pos hp, hp]; simp
  · unfold lastU
    rw [if_neg hp]
    rw [List.getElem?_append_right (by simp; omega)]
    simp [List.getElem?_replicate]; omega

theorem conv_bytes (w : World) (s : ByteArray) (hs : s.size ≤ maxLen) : ∃ cap w1, (convert 9 185 (.string s)).run Tryz.prog w = .ok (.slice (some ⟨w.heap.size, 0, none⟩) s.size cap) w1 ∧
    BRow w1 w.heap.size 5 w.heap.size cap s.size (u8c s.data.toList) ∧ Below w.heap.size w w1 ∧ w1.heap.size = w.heap.size + 1 := by
  refine ⟨_, _, Lib.run_convert_string_bytes w 9 185 5 s Tryz.underlying9 Tryz.underlying185 Tryz.underlying5, ?_, ?_, Lib.bytesWorld_size w 5 s⟩
  · have hge := grownCap_ge w s.size 0 5
    have hsz : (Lib.bytesCells w 5 s).size = grownCap w s.size 0 5 := by simp [Lib.bytesCells]; omega
    refine ⟨_, _, Nat.le_refl _, Lib.bytesWorld_at_new w 5 s, .inr (Nat.le_refl _), hge, grownCap_le_maxLen w s.size 0 5 hs, hsz, ?_⟩
    have e : s.size = (s.data.toList.map fun b => Value.int .u8 b.toNat).length := by simp
    unfold Lib.bytesCells
    rw [Array.toList_append, Array.toList_map, List.take_append_of_le_length (by simp), List.take_of_length_le (by simp)]
    rfl
  · exact ⟨rfl, rfl, rfl, by rw [Lib.bytesWorld_size]; omega, fun k hk => Lib.bytesWorld_at_old w 5 s k hk⟩

theorem BRow.keep {w w' : World} {base : Nat} {e : TypeId} {g cap n : Nat} {xs : List Value} (h : BRow w base e g cap n xs) (hk : w'.heap[g]? = w.heap[g]?) : BRow w' base e g cap n xs := by
  obtain ⟨cur, fz, hb, hg, rest⟩ := h
  exact ⟨cur, fz, hb, by rw [hk]; exact hg, rest⟩
theorem BRow.alloc {w : World} {base : Nat} {e : TypeId} {g cap n : Nat} {xs : List Value} (h : BRow w base e g cap n xs) (o : Obj) : BRow (w.alloc o) base e g cap n xs := h.keep (Below.heap_alloc _ _ _ h.lt.2)
theorem addr_add (g j : Nat) : (⟨g, 0, none⟩ : Addr).add j = ⟨g, j, none⟩ := by unfold Addr.add; split <;> simp_all
theorem BRow.set {w : World} {base : Nat} {e : TypeId} {g cap n : Nat} {xs : List Value} (h : BRow w base e g cap n xs) (j : Nat) (u : Value) : BRow (w.setCell ⟨g, j, none⟩ u) base e g cap n (xs.set j u) := by
  obtain ⟨cur, fz, hb, hg, hf, hn, hm, hc, ht⟩ := h
  refine ⟨cur.setIfInBounds j u, fz, hb, ?_, by simpa using hf, hn, hm, by simpa using hc, ?_⟩
  · rw [setCell_eq_setRow w g j cur e fz u hg]; exact setRow_heap w g cur _ e _ hg
  · rw [Array.toList_setIfInBounds, List.take_set, ht]
theorem BRow.conv {w : World} {base : Nat} {g cap : Nat} {l : List UInt8} {n : Nat} (h : BRow w base 5 g cap n (u8c l)) : (convert 185 9 (.slice (some ⟨g, 0, none⟩) n cap)).run Tryz.prog w = .ok (.string (str l)) w := by
  have hl : l.length = n := by have := h.len; simpa [u8c] using this
  have := run_convert_bytes_arg (P := Tryz.prog) w 185 5 Tryz.underlying185 Tryz.underlying5 g 0 n cap (l.map (fun c => (c.toNat : Int))) (by simpa using hl) (fun i hi => by
    have := h.cell i (.int .u8 (l[i].toNat : Int)) (by unfold u8c; rw [List.getElem?_map, List.getElem?_eq_getElem (by omega)]; rfl)
    rw [addr_add] at this
    rw [Nat.zero_add, this, List.getD_eq_getElem?_getD, List.getElem?_map, List.getElem?_eq_getElem (by omega)]; rfl) 9 Tryz.underlying9
  rw [this, strOfNums_bytes]
theorem cell_new (w : World) (x : Value) (t : TypeId) : (w.alloc (.cells #[x] t)).cell? ⟨w.heap.size, 0, none⟩ = some x := by
  rw [cell_of_row _ _ 0 _ _ _ (heap_alloc_new w _)]; rfl

set_option maxRecDepth 100000 in
theorem padded_calls (s : ByteArray) (hs : s.size ≤ 2147483648) (w : World) :
    Calls Tryz.prog 152 #[.string s] w fun e w' => e = .returned (.string (str (padL s.data.toList))) ∧ Below w.heap.size w w' := by
  obtain ⟨cap0, w1, hcv, hrow, B1, hsz⟩ := conv_bytes w s (by unfold maxLen; omega)
  obtain ⟨i0, hi0, hz0, hz1, hz2⟩ := info_parts info5
  have HR : Hid (BRow w1 w.heap.size 5 w.heap.size cap0 s.size (u8c s.data.toList)) := hrow
  have HB1 : Hid (Below w.heap.size w w1) := B1
  have HS : Hid (w1.heap.size = w.heap.size + 1) := hsz
  clear hrow B1 hsz
  have hpl := padN_lt s.size
  have HPM : Hid (∀ k, k < padN s.size → (s.size + 1 + k) % 136 ≠ 0) := fun k => padN_mod s.size k
  have HPE : Hid ((s.size + 1 + padN s.size) % 136 = 0) := padN_end s.size
  have HLN : Hid (s.data.toList.length = s.size) := by show _ = _; simp
  have HPS : Hid ((s.data.toList ++ [1] ++ List.replicate (padN s.size) 0).set (s.size + padN s.size) (UInt8.ofNat ((lastU s.size).toNat + 128)) = padL s.data.toList) := by
    have := padL_set s.data.toList; rw [HLN.out] at this; exact this
  have HPL : Hid ((s.data.toList ++ [1] ++ List.replicate (padN s.size) 0)[s.size + padN s.size]? = some (lastU s.size)) := by
    have := padL_last s.data.toList; rw [HLN.out] at this; exact this
  generalize padN s.size = P at *
  go_enter Tryz.func152, Tryz.ntmps152
  go_wp2_with (at_builtin; refine wpList_append_brow _ rfl (.tmp 6) (.tmp 7) 185 rfl w.heap.size 5 i0 (.int .u8 0) 1 Tryz.underlying185 hi0 hz0 hz1 hz2 rfl w.heap.size cap0 s.size (u8c s.data.toList) rfl (HR.out.alloc _) w1.heap.size 1 (.int .u8 1) rfl (cell_new _ _ _) rfl ?c3 ?c4 ?c5 ?c6)
  case c3 => unfold maxLen; omega
  case c4 => omega
  case c5 => have := HS.out; simp; omega
  intro g2 cap2 w2 hrow2 hgr2
  have hb2 : Below w.heap.size w w2 := (HB1.out.alloc HB1.out.size _).grown hgr2 (by have := HS.out; simp; omega) (fun k hk => by cases hk; exact Nat.le_refl _)
  have HR2 : Hid (BRow w2 w.heap.size 5 g2 cap2 (s.size + 1 + 0) (u8c (s.data.toList ++ [1] ++ List.replicate 0 0))) := by
    show BRow _ _ _ _ _ _ _
    simpa [u8c] using hrow2
  have HB2 : Hid (Below w.heap.size w w2) := hb2
  clear hrow2 hgr2 hb2 hcv
  go_wp2_with fail
  go_loopg [3] P (fun g v wr => ∃ k gb cap N : Nat, g = P - k ∧ k ≤ P ∧ Hid (N = s.size + 1 + k) ∧ v = .slice (some ⟨gb, 0, none⟩) N cap ∧ Hid (BRow wr w.heap.size 5 gb cap N (u8c (s.data.toList ++ [1] ++ List.replicate k 0))) ∧ Hid (Below w.heap.size w wr))
  case atStart => exact ⟨0, g2, cap2, s.size + 1, rfl, by omega, rfl, rfl, HR2, HB2⟩
  case round =>
    obtain ⟨k, gb, cap, N, hg, hk, HN, rfl, HK, HB⟩ := hrel
    have HG : Hid (gk = P - k) := hg
    have hN : N ≤ 4294967296 := by have := HN.out; omega
    have hN1 : 1 ≤ N := by have := HN.out; omega
    clear hg
    by_cases hlt : k < P
    · obtain ⟨r, hr, hr0⟩ : ∃ r : Int, (N : Int) % 136 = r ∧ r ≠ 0 := ⟨_, rfl, by have := HPM.out k hlt; have := HN.out; omega⟩
      clear hN1
      go_wp2_with (at_builtin; refine wpList_append_brow _ rfl (.tmp 13) (.tmp 14) 185 rfl w.heap.size 5 i0 (.int .u8 0) 1 Tryz.underlying185 hi0 hz0 hz1 hz2 rfl gb cap N (u8c (s.data.toList ++ [1] ++ List.replicate k 0)) rfl (HK.out.alloc _) wr.heap.size 1 (.int .u8 0) rfl (cell_new _ _ _) rfl ?d3 ?d4 ?d5 ?d6)
      case d3 => unfold maxLen; omega
      case d4 => omega
      case d5 => have := HB.out.size; simp; omega
      intro g3 cap3 w3 hrow3 hgr3
      have hb3 : Below w.heap.size w w3 := (HB.out.alloc HB.out.size _).grown hgr3 (by have := HB.out.size; simp; omega) (fun k hk => by cases hk; exact HK.out.lt.1)
      have HR3 : Hid (BRow w3 w.heap.size 5 g3 cap3 (N + 1) (u8c (s.data.toList ++ [1] ++ List.replicate (k + 1) 0))) := by
        show BRow _ _ _ _ _ _ _
        rw [List.replicate_succ', ← List.append_assoc]
        simpa [u8c] using hrow3
      have HB3 : Hid (Below w.heap.size w w3) := hb3
      clear hrow3 hgr3 hb3
      go_wp2_with fail
      go_roundg (P - (k + 1))
      case measure => have := HG.out; omega
      case rel => exact ⟨k + 1, g3, cap3, N + 1, rfl, by omega, by have := HN.out; show _ = _; omega, rfl, HR3, HB3⟩
    · obtain rfl : k = P := by omega
      have hmI : (N : Int) % 136 = 0 := by have := HPE.out; have := HN.out; omega
      obtain ⟨M, hM⟩ : ∃ M, N = M + 1 := ⟨N - 1, by omega⟩
      subst hM
      have hcap : M + 1 ≤ cap := by obtain ⟨_, _, _, _, _, h, _⟩ := HK.out; exact h
      have hMk : M = s.size + k := by have := HN.out; omega
      have c1 : wr.cell? ⟨gb, M, none⟩ = some (.int .u8 ((lastU s.size).toNat : Int)) := by
        have h := HK.out.cell M (.int .u8 ((lastU s.size).toNat : Int)) (by unfold u8c; rw [List.getElem?_map, hMk, HPL.out]; rfl)
        rw [addr_add] at h; exact h
      have hcv2 : (convert 185 9 (.slice (some ⟨gb, 0, none⟩) (M + 1) cap)).run Tryz.prog (wr.setCell ⟨gb, M, none⟩ (.int .u8 (((lastU s.size).toNat : Int) + 128))) = .ok (.string (str (padL s.data.toList))) (wr.setCell ⟨gb, M, none⟩ (.int .u8 (((lastU s.size).toNat : Int) + 128))) := by
        have h := HK.out.set M (.int .u8 (((lastU s.size).toNat : Int) + 128))
        refine BRow.conv (base := w.heap.size) ?_
        rw [← HPS.out]
        unfold u8c at h ⊢
        rw [List.map_set, ← hMk]
        have e : Value.int .u8 (((UInt8.ofNat ((lastU s.size).toNat + 128)).toNat : Nat) : Int) = .int .u8 (((lastU s.size).toNat : Int) + 128) := by
          unfold lastU; split <;> rfl
        rw [e]; exact h
      have HBE : Hid (Below w.heap.size w (wr.setCell ⟨gb, M, none⟩ (.int .u8 (((lastU s.size).toNat : Int) + 128)))) := HB.out.setCell HK.out.lt.1 _
      clear hMk
      have f1 := HK.out.free M (by omega)
      have hl1 : ((lastU s.size).toNat : Int) < 2 := by
        unfold lastU; split <;> decide
      have hl0 : (0 : Int) ≤ ((lastU s.size).toNat : Int) := by omega
      generalize hlu : ((lastU s.size).toNat : Int) = u at *
      have hwu : IntKind.u8.wrap (u + 128) = u + 128 := by rw [IntKind.wrap_u8]; omega
      go_wp2_with fail
      go_ret
      exact ⟨rfl, HBE.out⟩
end Go.Proofs.YtenmjjpkbcogbaaGreatDoor

/- LhK -/
namespace Go.Proofs.YtenmjjpkbcogbaaGreatDoor
open Go.RowKit

def blockTo (ws : Nat → Int) (p : List UInt8) (i : Nat) (m : Nat) : Nat → Int := fun j => if j < m then xo (ws j) (wordTo p (i + 8 * j) 8 : Int) else ws j
theorem blockTo_succ (ws : Nat → Int) (p : List UInt8) (i m : Nat) : setF (blockTo ws p i m) m (xo (ws m) (wordTo p (i + 8 * m) 8 : Int)) = blockTo ws p i (m + 1) := by
  funext j
  unfold setF blockTo
  by_cases h : j = m
  · subst h; rw [if_pos rfl, if_pos (by omega)]
  · rw [if_neg h]
    by_cases h2 : j < m
    · rw [if_pos h2, if_pos (by omega)]
    · rw [if_neg h2, if_neg (by omega)]
theorem blockTo_zero (ws : Nat → Int) (p : List UInt8) (i : Nat) : blockTo ws p i 0 = ws := by funext j; simp [blockTo]
theorem blockTo_all (ws : Nat → Int) (p : List UInt8) (i : Nat) : blockTo ws p i 17 = blockF ws p i := rfl

set_option maxRecDepth 100000 in
set_option maxHeartbeats 1000000 in
theorem lsum_calls (s : ByteArray) (hs : s.size ≤ 2147483648) (w : World) :
    Calls Tryz.prog 58 #[.string s] w fun e w' => e = .returned (.string (hashF s)) ∧ Below w.heap.size w w' := by
  have HD : Hid (headS (docTo (padL s.data.toList) (s.size / 136 + 1)) = hashF s) := by
    have := doc_hash s.data.toList
    have hl : s.data.toList.length = s.size := by simp
    rw [hl] at this; exact this
  have HPC := padded_calls s hs w
  have hpz : (str (padL s.data.toList)).size = 136 * (s.size / 136 + 1) := by
    show (padL s.data.toList).toArray.size = _
    rw [List.size_toArray, padL_length]; simp
  have hNb : s.size / 136 + 1 ≤ 2147483648 := by omega
  have HPD : Hid ((str (padL s.data.toList)).data.toList = padL s.data.toList) := rfl
  have HRG : Hid (∀ k, U64 (docTo (padL s.data.toList) k)) := docTo_range _
  have HP : Hid (Calls Tryz.prog 152 #[.string s] w fun e w' => e = .returned (.string (str (padL s.data.toList))) ∧ Below w.heap.size w w') := HPC
  clear HPC
  generalize s.size / 136 + 1 = N at *
  have HDS : Hid (∀ k, docTo (padL s.data.toList) (k + 1) = permF (blockF (docTo (padL s.data.toList) k) (padL s.data.toList) (136 * k))) := fun _ => rfl
  have HD0 : Hid (docTo (padL s.data.toList) 0 = fun _ => 0) := rfl
  generalize hashF s = HS at *
  clear hs
  generalize padL s.data.toList = L at *
  have HSZ : Hid ((str L).size = 136 * N) := hpz
  clear hpz
  generalize hp : str L = p at *
  clear hp
  go_enter Tryz.func58, Tryz.ntmps58
  go_wp2_with fail
  refine HP.out.mono ?_
  rintro e w1 ⟨rfl, B1⟩
  have HB1 : Hid (Below w.heap.size w w1) := B1
  have hmk : (Instr.makeSlice 181 (.int .i64 25) (.int .i64 25)).run Tryz.prog w1 = .ok (.slice (some ⟨w1.heap.size, 0, none⟩) 25 25) (w1.alloc (.cells (madeCells #[.int .u64 0] 25) 182)) := make_words 25 (by omega) w1
  have HA0 : Hid (IRow (w1.alloc (.cells (madeCells #[.int .u64 0] 25) 182)) w1.heap.size .u64 182 25 (docTo L 0)) := by
    show IRow _ _ _ _ _ _
    rw [HD0.out]; exact irow_made w1 .u64 182 25
  have HB0 : Hid (Below w.heap.size w (w1.alloc (.cells (madeCells #[.int .u64 0] 25) 182))) := B1.alloc B1.size _
  clear B1
  go_wp2_with fail
  go_loopg [4, 5] N (fun g a r wr => ∃ k ba I : Nat, g = N - k ∧ k ≤ N ∧ Hid (I = 136 * k) ∧ r = .int .i64 I ∧ a = .slice (some ⟨ba, 0, none⟩) 25 25 ∧ Hid (w.heap.size ≤ ba) ∧ Hid (IRow wr ba .u64 182 25 (docTo L k)) ∧ Hid (Below w.heap.size w wr))
  case atStart => exact ⟨0, w1.heap.size, 0, rfl, by omega, rfl, rfl, rfl, HB1.out.size, HA0, HB0⟩
  case round =>
    obtain ⟨k, ba, I, hg, hk, HI, rfl, rfl, HBA, HA, HB⟩ := hrel
    have HG : Hid (gk = N - k) := hg
    clear hg
    by_cases hlt : k < N
    · have hlt' : (I : Int) < (p.size : Int) := by have := HI.out; have := HSZ.out; omega
      have hIb : I ≤ 300000000000 := by have := HI.out; omega
      go_wp2_with fail
      have HA1 : Hid (IRow wr ba .u64 182 25 (blockTo (docTo L k) L I 0)) := by
        show IRow _ _ _ _ _ _
        rw [blockTo_zero]; exact HA.out
      go_loopg [6] 17 (fun g r wq => ∃ j : Nat, g = 17 - j ∧ j ≤ 17 ∧ r = .int .i64 j ∧ Hid (IRow wq ba .u64 182 25 (blockTo (docTo L k) L I j)) ∧ Hid (Below w.heap.size w wq))
      case atStart => exact ⟨0, rfl, by omega, rfl, HA1, HB⟩
      case round =>
        obtain ⟨j, hg, hj, rfl, HJ, HBJ⟩ := hrel
        have HG2 : Hid (gk = 17 - j) := hg
        clear hg
        by_cases hj17 : j < 17
        · have HWD : Hid (∀ W, Calls Tryz.prog 153 #[.string p, .int .i64 ((I : Int) + 8 * (j : Int))] W fun e w' => e = .returned (.int .u64 (wordTo L (I + 8 * j) 8)) ∧ w' = W) := fun W => by
            have := word_calls p (I + 8 * j) (by have := HSZ.out; omega) (by have := HSZ.out; have := HI.out; omega) W
            rw [HPD.out] at this
            push_cast at this
            exact this
          have c1 : wr.cell? ⟨ba, j, none⟩ = some (.int .u64 (docTo L k j)) := by
            rw [HJ.out.at_ j (by omega)]; simp [blockTo]
          have f1 := HJ.out.free j
          have HST := HJ.out.set j (xo (docTo L k j) (wordTo L (I + 8 * j) 8 : Int))
          rw [blockTo_succ] at HST
          have HST' : Hid (IRow (wr.setCell ⟨ba, j, none⟩ (.int .u64 (xo (docTo L k j) (wordTo L (I + 8 * j) 8 : Int)))) ba .u64 182 25 (blockTo (docTo L k) L I (j + 1))) := HST
          clear HST
          unfold xo at HST'
          generalize (docTo L k j) = d at *
          generalize hwd : ((wordTo L (I + 8 * j) 8 : Nat) : Int) = v at *
          clear hwd
          have hj' : (j : Int) < 25 := by omega
          have hj'' : (j : Int) < 17 := by omega
          go_wp2_with fail
          refine (HWD.out _).mono ?_
          rintro e w2 ⟨rfl, hw2⟩
          subst hw2
          go_wp2_with fail
          go_roundg (17 - (j + 1))
          case measure => have := HG2.out; omega
          case rel => exact ⟨j + 1, rfl, by omega, by go_num, HST', HBJ.out.setCell HBA.out _⟩
        · obtain rfl : j = 17 := by omega
          have HPM : Hid (∀ W, Below w.heap.size w W → IRow W ba .u64 182 25 (blockF (docTo L k) L I) → Calls Tryz.prog 154 #[.slice (some ⟨ba, 0, none⟩) 25 25] W fun e w' => (∃ b, e = .returned (.slice (some ⟨b, 0, none⟩) 25 25) ∧ W.heap.size ≤ b ∧ IRow w' b .u64 182 25 (permF (blockF (docTo L k) L I))) ∧ Below W.heap.size W w') := fun W hb hr =>
            permute_calls ba _ (blockF_range _ (HRG.out k) _ _) W hr
          go_wp2_with fail
          refine (HPM.out _ HBJ.out HJ.out).mono ?_
          rintro e w3 ⟨⟨b3, rfl, hb3, hr3⟩, B3⟩
          have HR3 : Hid (IRow w3 b3 .u64 182 25 (docTo L (k + 1))) := by
            show IRow _ _ _ _ _ _
            rw [HDS.out k, ← HI.out]; exact hr3
          have HB3 : Hid (Below w.heap.size w w3) := HBJ.out.trans (B3.mono HBJ.out.size)
          have hb3' : w.heap.size ≤ b3 := Nat.le_trans HBJ.out.size hb3
          have HB3' : Hid (w.heap.size ≤ b3) := hb3'
          clear hb3 hr3 B3 hb3'
          go_wp2_with fail
          go_roundg (N - (k + 1))
          case measure => have := HG.out; omega
          case rel => exact ⟨k + 1, b3, I + 136, rfl, by omega, by have := HI.out; show _ = _; omega, by go_num, rfl, HB3', HR3, HB3⟩
    · obtain rfl : k = N := by omega
      have hlt' : ¬ (I : Int) < (p.size : Int) := by have := HI.out; have := HSZ.out; omega
      go_wp2_with fail
      obtain ⟨i0, hi0, hz0, hz1, hz2⟩ := info_parts info5
      go_loopg [8, 9] 32 (fun g o r wq => ∃ i : Nat, g = 32 - i ∧ i ≤ 32 ∧ r = .int .i64 i ∧ Hid (wq.ownsRow w.heap.size 5 1 o i ((List.range i).map (fun t => Value.int .u8 (headB (docTo L k) t)))) ∧ Hid (IRow wq ba .u64 182 25 (docTo L k)) ∧ Hid (Below w.heap.size w wq) ∧ Hid (o.ownBlock ≠ some ba))
      case atStart => exact ⟨0, rfl, by omega, rfl, World.ownsRow_nil _ _ _ _, HA, HB, by show _ ≠ _; simp [Value.ownBlock]⟩
      case round =>
        obtain ⟨i, hg, hi, rfl, HO, HI2, HB2, HNE⟩ := hrel
        have HG2 : Hid (gk = 32 - i) := hg
        clear hg
        by_cases hi32 : i < 32
        · have c0 := HI2.out.at_ (i / 8) (by omega)
          have hmin : min (8 * (i % 8)) 64 = 8 * (i % 8) := by omega
          have hb0 := HI2.out.lt
          have hbb := HB2.out.size
          have hH : IntKind.u8.wrap (docTo L k (i / 8) / 2 ^ (8 * (i % 8))) = headB (docTo L k) i := by
            unfold headB; rw [Nat.mul_comm 8]
          obtain ⟨D, hD⟩ : ∃ D, D = docTo L k (i / 8) := ⟨_, rfl⟩
          rw [← hD] at c0 hH
          clear hD
          go_wp2_with (at_builtin; refine wpList_append_lies _ rfl (.tmp 44) (.tmp 56) 185 rfl w.heap.size 5 i0 (.int .u8 0) 1 1 Tryz.underlying185 hi0 hz0 hz1 hz2 rfl (by decide) _ i _ rfl (HO.out.alloc _) ⟨wr.heap.size, 0, none⟩ 1 1 [.int .u8 (headB (docTo L k) i)] rfl rfl (cell_one_new _ _ _) ?e2 (by omega) ?e3 ?e4 ?e5 _ rfl ?e6)
          case e2 => intro v hv; simp at hv; subst hv; rfl
          case e3 => unfold maxLen; omega
          case e4 => omega
          case e5 => simp; omega
          intro g4 cap4 w4 hown4 hgr4 hat4 hlt4
          have HO4 : Hid (w4.ownsRow w.heap.size 5 1 (.slice (some ⟨g4, 0, none⟩) (i + 1) cap4) (i + 1) ((List.range (i + 1)).map (fun t => Value.int .u8 (headB (docTo L k) t)))) := by
            show World.ownsRow _ _ _ _ _ _ _
            rw [List.range_succ, List.map_append]; exact hown4
          have HB4 : Hid (Below w.heap.size w w4) := (HB2.out.alloc hbb _).grown hgr4 (by simp; omega) (fun k hk => (HO.out.lt k hk).1)
          have HI4 : Hid (IRow w4 ba .u64 182 25 (docTo L k)) := (HI2.out.alloc _).other (hgr4.block ba (by simp; omega) (fun h => HNE.out h.symm))
          have HN4 : Hid ((Value.slice (some ⟨g4, 0, none⟩) (i + 1) cap4).ownBlock ≠ some ba) := fun h => by
            have hgb : g4 = ba := by simpa [Value.ownBlock] using h
            rcases hat4 with h4 | h4
            · rw [hgb] at h4; exact HNE.out h4
            · omega
          clear hown4 hgr4 hat4 hlt4
          go_wp2_with fail
          go_roundg (32 - (i + 1))
          case measure => have := HG2.out; omega
          case rel => exact ⟨i + 1, rfl, by omega, by go_num, HO4, HI4, HB4, HN4⟩
        · obtain rfl : i = 32 := by omega
          obtain ⟨ao, co, rfl, _, _, fo⟩ := own_form HO.out
          rcases fo with ⟨_, h, _⟩ | ⟨go, rfl⟩
          · cases h
          have hcv := run_convert_bytes_arg (P := Tryz.prog) wr 185 5 Tryz.underlying185 Tryz.underlying5 go 0 32 co ((List.range 32).map (headB (docTo L k))) (by simp) (fun i hi => by
            have := own_cell HO.out rfl i (.int .u8 (headB (docTo L k) i)) (by rw [List.getElem?_map, List.getElem?_range hi]; rfl)
            rw [Nat.zero_add, this, List.getD_eq_getElem?_getD, List.getElem?_map, List.getElem?_range hi]; rfl) 9 Tryz.underlying9
          have hcv2 : (convert 185 9 (.slice (some ⟨go, 0, none⟩) 32 co)).run Tryz.prog wr = .ok (.string HS) wr := by rw [← HD.out]; exact hcv
          clear hcv
          go_wp2_with fail
          go_ret
          exact ⟨rfl, HB2.out⟩

theorem hashes_calls (s : ByteArray) (hs : s.size ≤ 2147483648) (w : World) (T : Tabs w) :
    Calls Tryz.prog 24 #[.string s] w fun e w' => e = .returned (.tuple #[.string (hashF s), .bool true]) ∧ Below w.heap.size w w' := by
  have HA : Hid (Calls Tryz.prog 52 #[.string s] w fun e w' => e = .returned (.string (hashF s)) ∧ Below w.heap.size w w') := sum_calls s (by unfold maxLen; omega) w T
  have HB : Hid (∀ W, Calls Tryz.prog 58 #[.string s] W fun e w' => e = .returned (.string (hashF s)) ∧ Below W.heap.size W w') := fun W => lsum_calls s hs W
  clear T hs
  generalize hashF s = h at *
  go_enter Tryz.func24, Tryz.ntmps24
  go_wp2_with fail
  refine HA.out.mono ?_
  rintro e w1 ⟨rfl, B1⟩
  go_wp2_with fail
  refine (HB.out _).mono ?_
  rintro e w2 ⟨rfl, B2⟩
  have HBB : Hid (Below w.heap.size w w2) := B1.trans (B2.mono B1.size)
  clear B1 B2
  go_wp2_with fail
  go_ret2
  exact ⟨rfl, HBB.out⟩
end Go.Proofs.YtenmjjpkbcogbaaGreatDoor
