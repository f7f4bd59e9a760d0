import Derived.Test.YtenmjjpkbcogbaaDoorKa
import Derived.Test.YtenmjjpkbcogbaaDoorKb

/- KnE -/
namespace Go.Proofs.YtenmjjpkbcogbaaDoor
open Go.RowKit

def hexyB (c : UInt8) : Bool := (decide (48 ≤ c.toNat) && decide (c.toNat ≤ 57)) || (decide (97 ≤ c.toNat) && decide (c.toNat ≤ 102))
theorem hex_of (hex : ByteArray) (n : Nat) (h1 : hex.size = 2 * n) (h2 : n ≤ 1000) (h3 : hex.data.toList.all hexyB = true) : HexOf hex n :=
  ⟨h1, h2, fun c hc => by
    have := List.all_eq_true.1 h3 c hc
    unfold hexyB at this
    simp only [Bool.or_eq_true, Bool.and_eq_true, decide_eq_true_eq] at this
    exact this⟩
theorem hash_known (l : List UInt8) (h : List UInt8) (e : hashS l = h) : hashF (str l) = str h := by rw [← e, ← hash_is, str_hashL]

set_option maxRecDepth 1000000 in
theorem hash_gold1 (w : World) (T : Tabs w) : Calls Tryd.prog 9 #[.string ⟨#[]⟩, .string ⟨#[99, 53, 100, 50, 52, 54, 48, 49, 56, 54, 102, 55, 50, 51, 51, 99, 57, 50, 55, 101, 55, 100, 98, 50, 100, 99, 99, 55, 48, 51, 99, 48, 101, 53, 48, 48, 98, 54, 53, 51, 99, 97, 56, 50, 50, 55, 51, 98, 55, 98, 102, 97, 100, 56, 48, 52, 53, 100, 56, 53, 97, 52, 55, 48]⟩] w fun e w' => e = .returned (.bool true) ∧ Below w.heap.size w w' :=
  sum_true ⟨#[]⟩ ⟨#[99, 53, 100, 50, 52, 54, 48, 49, 56, 54, 102, 55, 50, 51, 51, 99, 57, 50, 55, 101, 55, 100, 98, 50, 100, 99, 99, 55, 48, 51, 99, 48, 101, 53, 48, 48, 98, 54, 53, 51, 99, 97, 56, 50, 50, 55, 51, 98, 55, 98, 102, 97, 100, 56, 48, 52, 53, 100, 56, 53, 97, 52, 55, 48]⟩ 32 (by decide) (hex_of _ 32 rfl (by decide) (by decide +kernel)) (hash_known [] _ (by decide +kernel)) w T
set_option maxRecDepth 1000000 in
theorem hash_gold2 (w : World) (T : Tabs w) : Calls Tryd.prog 9 #[.string ⟨#[128]⟩, .string ⟨#[53, 54, 101, 56, 49, 102, 49, 55, 49, 98, 99, 99, 53, 53, 97, 54, 102, 102, 56, 51, 52, 53, 101, 54, 57, 50, 99, 48, 102, 56, 54, 101, 53, 98, 52, 56, 101, 48, 49, 98, 57, 57, 54, 99, 97, 100, 99, 48, 48, 49, 54, 50, 50, 102, 98, 53, 101, 51, 54, 51, 98, 52, 50, 49]⟩] w fun e w' => e = .returned (.bool true) ∧ Below w.heap.size w w' :=
  sum_true ⟨#[128]⟩ ⟨#[53, 54, 101, 56, 49, 102, 49, 55, 49, 98, 99, 99, 53, 53, 97, 54, 102, 102, 56, 51, 52, 53, 101, 54, 57, 50, 99, 48, 102, 56, 54, 101, 53, 98, 52, 56, 101, 48, 49, 98, 57, 57, 54, 99, 97, 100, 99, 48, 48, 49, 54, 50, 50, 102, 98, 53, 101, 51, 54, 51, 98, 52, 50, 49]⟩ 32 (by decide) (hex_of _ 32 rfl (by decide) (by decide +kernel)) (hash_known [128] _ (by decide +kernel)) w T
set_option maxRecDepth 1000000 in
theorem hash_gold3 (w : World) (T : Tabs w) : Calls Tryd.prog 9 #[.string ⟨#[97, 98, 99]⟩, .string ⟨#[52, 101, 48, 51, 54, 53, 55, 97, 101, 97, 52, 53, 97, 57, 52, 102, 99, 55, 100, 52, 55, 98, 97, 56, 50, 54, 99, 56, 100, 54, 54, 55, 99, 48, 100, 49, 101, 54, 101, 51, 51, 97, 54, 52, 97, 48, 51, 54, 101, 99, 52, 52, 102, 53, 56, 102, 97, 49, 50, 100, 54, 99, 52, 53]⟩] w fun e w' => e = .returned (.bool true) ∧ Below w.heap.size w w' :=
  sum_true ⟨#[97, 98, 99]⟩ ⟨#[52, 101, 48, 51, 54, 53, 55, 97, 101, 97, 52, 53, 97, 57, 52, 102, 99, 55, 100, 52, 55, 98, 97, 56, 50, 54, 99, 56, 100, 54, 54, 55, 99, 48, 100, 49, 101, 54, 101, 51, 51, 97, 54, 52, 97, 48, 51, 54, 101, 99, 52, 52, 102, 53, 56, 102, 97, 49, 50, 100, 54, 99, 52, 53]⟩ 32 (by decide) (hex_of _ 32 rfl (by decide) (by decide +kernel)) (hash_known [97, 98, 99] _ (by decide +kernel)) w T
set_option maxRecDepth 1000000 in
theorem hash_gold4 (w : World) (T : Tabs w) : Calls Tryd.prog 9 #[.string ⟨#[116, 101, 115, 116, 105, 110, 103]⟩, .string ⟨#[53, 102, 49, 54, 102, 52, 99, 55, 102, 49, 52, 57, 97, 99, 52, 102, 57, 53, 49, 48, 100, 57, 99, 102, 56, 99, 102, 51, 56, 52, 48, 51, 56, 97, 100, 51, 52, 56, 98, 51, 98, 99, 100, 99, 48, 49, 57, 49, 53, 102, 57, 53, 100, 101, 49, 50, 100, 102, 57, 100, 49, 98, 48, 50]⟩] w fun e w' => e = .returned (.bool true) ∧ Below w.heap.size w w' :=
  sum_true ⟨#[116, 101, 115, 116, 105, 110, 103]⟩ ⟨#[53, 102, 49, 54, 102, 52, 99, 55, 102, 49, 52, 57, 97, 99, 52, 102, 57, 53, 49, 48, 100, 57, 99, 102, 56, 99, 102, 51, 56, 52, 48, 51, 56, 97, 100, 51, 52, 56, 98, 51, 98, 99, 100, 99, 48, 49, 57, 49, 53, 102, 57, 53, 100, 101, 49, 50, 100, 102, 57, 100, 49, 98, 48, 50]⟩ 32 (by decide) (hex_of _ 32 rfl (by decide) (by decide +kernel)) (hash_known [116, 101, 115, 116, 105, 110, 103] _ (by decide +kernel)) w T
set_option maxRecDepth 1000000 in
theorem hash_gold5 (w : World) (T : Tabs w) : Calls Tryd.prog 9 #[.string ⟨#[192]⟩, .string ⟨#[49, 100, 99, 99, 52, 100, 101, 56, 100, 101, 99, 55, 53, 100, 55, 97, 97, 98, 56, 53, 98, 53, 54, 55, 98, 54, 99, 99, 100, 52, 49, 97, 100, 51, 49, 50, 52, 53, 49, 98, 57, 52, 56, 97, 55, 52, 49, 51, 102, 48, 97, 49, 52, 50, 102, 100, 52, 48, 100, 52, 57, 51, 52, 55]⟩] w fun e w' => e = .returned (.bool true) ∧ Below w.heap.size w w' :=
  sum_true ⟨#[192]⟩ ⟨#[49, 100, 99, 99, 52, 100, 101, 56, 100, 101, 99, 55, 53, 100, 55, 97, 97, 98, 56, 53, 98, 53, 54, 55, 98, 54, 99, 99, 100, 52, 49, 97, 100, 51, 49, 50, 52, 53, 49, 98, 57, 52, 56, 97, 55, 52, 49, 51, 102, 48, 97, 49, 52, 50, 102, 100, 52, 48, 100, 52, 57, 51, 52, 55]⟩ 32 (by decide) (hex_of _ 32 rfl (by decide) (by decide +kernel)) (hash_known [192] _ (by decide +kernel)) w T

set_option maxRecDepth 100000 in
set_option maxHeartbeats 400000 in
theorem hashGold_calls (w : World) (T : Tabs w) : Calls Tryd.prog 5 #[] w fun e w' => e = .returned (.bool true) ∧ Below w.heap.size w w' := by
  have HT : Hid (Tabs w) := T
  clear T
  go_enter Tryd.func5, Tryd.ntmps5
  go_wp2_with fail
  refine (hash_gold1 _ HT.out).mono ?_
  rintro e w1 ⟨rfl, hb⟩
  have HB1 : Hid (Below w.heap.size w w1) := hb
  clear hb
  go_wp2_with fail
  refine (hash_gold2 _ (HT.out.below HB1.out)).mono ?_
  rintro e w2 ⟨rfl, hb⟩
  have HB2 : Hid (Below w.heap.size w w2) := HB1.out.trans (hb.mono HB1.out.size)
  clear hb
  go_wp2_with fail
  refine (hash_gold3 _ (HT.out.below HB2.out)).mono ?_
  rintro e w3 ⟨rfl, hb⟩
  have HB3 : Hid (Below w.heap.size w w3) := HB2.out.trans (hb.mono HB2.out.size)
  clear hb
  go_wp2_with fail
  refine (hash_gold4 _ (HT.out.below HB3.out)).mono ?_
  rintro e w4 ⟨rfl, hb⟩
  have HB4 : Hid (Below w.heap.size w w4) := HB3.out.trans (hb.mono HB3.out.size)
  clear hb
  go_wp2_with fail
  refine (hash_gold5 _ (HT.out.below HB4.out)).mono ?_
  rintro e w5 ⟨rfl, hb⟩
  have HB5 : Hid (Below w.heap.size w w5) := HB4.out.trans (hb.mono HB4.out.size)
  clear hb
  go_wp2_with fail
  go_ret
  exact ⟨rfl, HB5.out⟩
end Go.Proofs.YtenmjjpkbcogbaaDoor

/- KnF -/
namespace Go.Proofs.YtenmjjpkbcogbaaDoor
open Go.RowKit

def treeS (ps : List (ByteArray × ByteArray)) (i : Nat) : Nd := (ps.take i).foldl (fun t p => withG hashS t (keyP p.1) p.2.data.toList) .nil
theorem tree_S (ps : List (ByteArray × ByteArray)) (i : Nat) : treeTo ps i = treeS ps i := by
  unfold treeTo treeS
  congr 1
  funext t p
  exact with_S t _ _
def pairCells : List (ByteArray × ByteArray) → List Value
  | [] => []
  | p :: r => .string p.1 :: .string p.2 :: pairCells r
theorem pairCells_at : ∀ (ps : List (ByteArray × ByteArray)) (i : Nat) (h : i < ps.length), (pairCells ps)[i * 2]? = some (.string (ps[i]).1) ∧ (pairCells ps)[i * 2 + 1]? = some (.string (ps[i]).2)
  | p :: r, 0, _ => ⟨rfl, rfl⟩
  | p :: r, i + 1, h => by
    have := pairCells_at r i (by simp at h; omega)
    rw [show (i + 1) * 2 = i * 2 + 2 by omega, show i * 2 + 2 + 1 = i * 2 + 1 + 2 by omega]
    exact this
theorem pairs_lie (w : World) (g cap : Nat) (ps : List (ByteArray × ByteArray)) (n : Nat) (hn : ps.length = n) (hg : w.heap[g]? = some (.cells (pairCells ps).toArray 27 (0, 0))) : PairsAt w (.slice (some ⟨g, 0, none⟩) n cap) ps :=
  ⟨.inr ⟨g, cap, by rw [hn], (Array.getElem?_eq_some_iff.1 hg).1, fun i h => by
    obtain ⟨h1, h2⟩ := pairCells_at ps i h
    exact ⟨by rw [cell_of_row w g (i * 2) _ _ _ hg, List.getElem?_toArray, h1], by rw [cell_of_row w g (i * 2 + 1) _ _ _ hg, List.getElem?_toArray, h2]⟩⟩⟩
def pairOk (p : ByteArray × ByteArray) : Bool := decide (p.1.size ≤ 40) && (decide (p.2.size ≤ 160) && decide (0 < p.2.size))
def openTo (ps : List (ByteArray × ByteArray)) : Bool := (List.range ps.length).all fun i => openB (treeS ps i) (keyP (ps.getD i (⟨#[]⟩, ⟨#[]⟩)).1)
theorem pairs_ok (ps : List (ByteArray × ByteArray)) (h1 : ps.length ≤ 100) (h2 : ps.all pairOk = true) (h3 : openTo ps = true) : PairsOk ps := by
  have hp : ∀ i (h : i < ps.length), pairOk (ps[i]) = true := fun i h => List.all_eq_true.1 h2 _ (List.getElem_mem h)
  have hq : ∀ i (h : i < ps.length), (ps[i]).1.size ≤ 40 ∧ (ps[i]).2.size ≤ 160 ∧ 0 < (ps[i]).2.size := fun i h => by
    have := hp i h
    unfold pairOk at this
    simp only [Bool.and_eq_true, decide_eq_true_eq] at this
    exact this
  refine ⟨h1, fun i h => (hq i h).1, fun i h => (hq i h).2.1, fun i h => (hq i h).2.2, fun i h => ?_⟩
  rw [tree_S]
  apply openB_ok
  have := List.all_eq_true.1 h3 i (List.mem_range.2 h)
  rw [List.getD_eq_getElem?_getD, List.getElem?_eq_getElem h] at this
  exact this

def gold1 : List (ByteArray × ByteArray) := [(⟨#[100, 111, 101]⟩, ⟨#[114, 101, 105, 110, 100, 101, 101, 114]⟩), (⟨#[100, 111, 103]⟩, ⟨#[112, 117, 112, 112, 121]⟩), (⟨#[100, 111, 103, 103, 108, 101, 115, 119, 111, 114, 116, 104]⟩, ⟨#[99, 97, 116]⟩)]
def gold2 : List (ByteArray × ByteArray) := [(⟨#[65]⟩, ⟨#[97, 97, 97, 97, 97, 97, 97, 97, 97, 97, 97, 97, 97, 97, 97, 97, 97, 97, 97, 97, 97, 97, 97, 97, 97, 97, 97, 97, 97, 97, 97, 97, 97, 97, 97, 97, 97, 97, 97, 97, 97, 97, 97, 97, 97, 97, 97, 97, 97, 97]⟩)]
def gold3 : List (ByteArray × ByteArray) := [(⟨#[100, 111]⟩, ⟨#[118, 101, 114, 98]⟩), (⟨#[100, 111, 103]⟩, ⟨#[112, 117, 112, 112, 121]⟩), (⟨#[100, 111, 103, 101]⟩, ⟨#[99, 111, 105, 110]⟩), (⟨#[104, 111, 114, 115, 101]⟩, ⟨#[115, 116, 97, 108, 108, 105, 111, 110]⟩)]
def gold4 : List (ByteArray × ByteArray) := []
set_option maxRecDepth 1000000 in
theorem root_gold1 (v : Value) (w : World) (T : Tabs w) (P : PairsAt w v gold1) : Calls Tryd.prog 10 #[v, .string ⟨#[56, 97, 97, 100, 55, 56, 57, 100, 102, 102, 50, 102, 53, 51, 56, 98, 99, 97, 53, 100, 56, 101, 97, 53, 54, 101, 56, 97, 98, 101, 49, 48, 102, 52, 99, 55, 98, 97, 51, 97, 53, 100, 101, 97, 57, 53, 102, 101, 97, 52, 99, 100, 54, 101, 55, 99, 51, 97, 49, 49, 54, 56, 100, 51]⟩] w fun e w' => e = .returned (.bool true) ∧ Below w.heap.size w w' :=
  rooted_true v gold1 ⟨#[56, 97, 97, 100, 55, 56, 57, 100, 102, 102, 50, 102, 53, 51, 56, 98, 99, 97, 53, 100, 56, 101, 97, 53, 54, 101, 56, 97, 98, 101, 49, 48, 102, 52, 99, 55, 98, 97, 51, 97, 53, 100, 101, 97, 57, 53, 102, 101, 97, 52, 99, 100, 54, 101, 55, 99, 51, 97, 49, 49, 54, 56, 100, 51]⟩ 32 w T P (pairs_ok _ (by decide) (by decide +kernel) (by decide +kernel)) (hex_of _ 32 rfl (by decide) (by decide +kernel)) (by rw [root_S, tree_S]; decide +kernel)
set_option maxRecDepth 1000000 in
theorem root_gold2 (v : Value) (w : World) (T : Tabs w) (P : PairsAt w v gold2) : Calls Tryd.prog 10 #[v, .string ⟨#[100, 50, 51, 55, 56, 54, 102, 98, 52, 97, 48, 49, 48, 100, 97, 51, 99, 101, 54, 51, 57, 100, 54, 54, 100, 53, 101, 57, 48, 52, 97, 49, 49, 100, 98, 99, 48, 50, 55, 52, 54, 100, 49, 99, 101, 50, 53, 48, 50, 57, 101, 53, 51, 50, 57, 48, 99, 97, 98, 102, 50, 56, 97, 98]⟩] w fun e w' => e = .returned (.bool true) ∧ Below w.heap.size w w' :=
  rooted_true v gold2 ⟨#[100, 50, 51, 55, 56, 54, 102, 98, 52, 97, 48, 49, 48, 100, 97, 51, 99, 101, 54, 51, 57, 100, 54, 54, 100, 53, 101, 57, 48, 52, 97, 49, 49, 100, 98, 99, 48, 50, 55, 52, 54, 100, 49, 99, 101, 50, 53, 48, 50, 57, 101, 53, 51, 50, 57, 48, 99, 97, 98, 102, 50, 56, 97, 98]⟩ 32 w T P (pairs_ok _ (by decide) (by decide +kernel) (by decide +kernel)) (hex_of _ 32 rfl (by decide) (by decide +kernel)) (by rw [root_S, tree_S]; decide +kernel)
set_option maxRecDepth 1000000 in
theorem root_gold3 (v : Value) (w : World) (T : Tabs w) (P : PairsAt w v gold3) : Calls Tryd.prog 10 #[v, .string ⟨#[53, 57, 57, 49, 98, 98, 56, 99, 54, 53, 49, 52, 49, 52, 56, 97, 50, 57, 100, 98, 54, 55, 54, 97, 49, 52, 97, 99, 53, 48, 54, 99, 100, 50, 99, 100, 53, 55, 55, 53, 97, 99, 101, 54, 51, 99, 51, 48, 97, 52, 102, 101, 52, 53, 55, 55, 49, 53, 101, 57, 97, 99, 56, 52]⟩] w fun e w' => e = .returned (.bool true) ∧ Below w.heap.size w w' :=
  rooted_true v gold3 ⟨#[53, 57, 57, 49, 98, 98, 56, 99, 54, 53, 49, 52, 49, 52, 56, 97, 50, 57, 100, 98, 54, 55, 54, 97, 49, 52, 97, 99, 53, 48, 54, 99, 100, 50, 99, 100, 53, 55, 55, 53, 97, 99, 101, 54, 51, 99, 51, 48, 97, 52, 102, 101, 52, 53, 55, 55, 49, 53, 101, 57, 97, 99, 56, 52]⟩ 32 w T P (pairs_ok _ (by decide) (by decide +kernel) (by decide +kernel)) (hex_of _ 32 rfl (by decide) (by decide +kernel)) (by rw [root_S, tree_S]; decide +kernel)
set_option maxRecDepth 1000000 in
theorem root_gold4 (v : Value) (w : World) (T : Tabs w) (P : PairsAt w v gold4) : Calls Tryd.prog 10 #[v, .string ⟨#[53, 54, 101, 56, 49, 102, 49, 55, 49, 98, 99, 99, 53, 53, 97, 54, 102, 102, 56, 51, 52, 53, 101, 54, 57, 50, 99, 48, 102, 56, 54, 101, 53, 98, 52, 56, 101, 48, 49, 98, 57, 57, 54, 99, 97, 100, 99, 48, 48, 49, 54, 50, 50, 102, 98, 53, 101, 51, 54, 51, 98, 52, 50, 49]⟩] w fun e w' => e = .returned (.bool true) ∧ Below w.heap.size w w' :=
  rooted_true v gold4 ⟨#[53, 54, 101, 56, 49, 102, 49, 55, 49, 98, 99, 99, 53, 53, 97, 54, 102, 102, 56, 51, 52, 53, 101, 54, 57, 50, 99, 48, 102, 56, 54, 101, 53, 98, 52, 56, 101, 48, 49, 98, 57, 57, 54, 99, 97, 100, 99, 48, 48, 49, 54, 50, 50, 102, 98, 53, 101, 51, 54, 51, 98, 52, 50, 49]⟩ 32 w T P (pairs_ok _ (by decide) (by decide +kernel) (by decide +kernel)) (hex_of _ 32 rfl (by decide) (by decide +kernel)) (by rw [root_S, tree_S]; decide +kernel)
end Go.Proofs.YtenmjjpkbcogbaaDoor

/- KnG -/
namespace Go.Proofs.YtenmjjpkbcogbaaDoor
open Go.RowKit

theorem enc_known (x : Tree) (c : List UInt8) (h1 : flatU 6 x = true) (h2 : codeU 6 x = c) (h3 : c.length ≤ 4096) : encOut x = str c ∧ encErr x = 0 := by
  have hf : fitsC (codeU 6 x) = true := by unfold fitsC; rw [h2]; exact decide_eq_true h3
  constructor
  · unfold encOut; rw [if_pos h1, outC_data _ hf, h2]
  · unfold encErr; rw [if_pos h1, if_pos hf]

set_option maxRecDepth 1000000 in
theorem code_gold1 (w : World) : Calls Tryd.prog 11 #[.string ⟨#[100, 111, 103]⟩, .string ⟨#[56, 51, 54, 52, 54, 102, 54, 55]⟩] w fun e w' => e = .returned (.bool true) ∧ Below w.heap.size w w' :=
  have h := enc_known (textT [100, 111, 103]) _ rfl (by decide +kernel : codeU 6 (textT [100, 111, 103]) = hexL [56, 51, 54, 52, 54, 102, 54, 55]) (by decide +kernel)
  coding_true ⟨#[100, 111, 103]⟩ ⟨#[56, 51, 54, 52, 54, 102, 54, 55]⟩ 4 (by decide) (hex_of _ 4 rfl (by decide) (by decide +kernel)) h.1 h.2 w
set_option maxRecDepth 1000000 in
theorem code_gold2 (w : World) : Calls Tryd.prog 11 #[.string ⟨#[]⟩, .string ⟨#[56, 48]⟩] w fun e w' => e = .returned (.bool true) ∧ Below w.heap.size w w' :=
  have h := enc_known (textT []) _ rfl (by decide +kernel : codeU 6 (textT []) = hexL [56, 48]) (by decide +kernel)
  coding_true ⟨#[]⟩ ⟨#[56, 48]⟩ 1 (by decide) (hex_of _ 1 rfl (by decide) (by decide +kernel)) h.1 h.2 w
set_option maxRecDepth 1000000 in
theorem code_gold3 (w : World) : Calls Tryd.prog 11 #[.string ⟨#[15]⟩, .string ⟨#[48, 102]⟩] w fun e w' => e = .returned (.bool true) ∧ Below w.heap.size w w' :=
  have h := enc_known (textT [15]) _ rfl (by decide +kernel : codeU 6 (textT [15]) = hexL [48, 102]) (by decide +kernel)
  coding_true ⟨#[15]⟩ ⟨#[48, 102]⟩ 1 (by decide) (hex_of _ 1 rfl (by decide) (by decide +kernel)) h.1 h.2 w
set_option maxRecDepth 1000000 in
theorem code_gold4 (w : World) : Calls Tryd.prog 11 #[.string ⟨#[4, 0]⟩, .string ⟨#[56, 50, 48, 52, 48, 48]⟩] w fun e w' => e = .returned (.bool true) ∧ Below w.heap.size w w' :=
  have h := enc_known (textT [4, 0]) _ rfl (by decide +kernel : codeU 6 (textT [4, 0]) = hexL [56, 50, 48, 52, 48, 48]) (by decide +kernel)
  coding_true ⟨#[4, 0]⟩ ⟨#[56, 50, 48, 52, 48, 48]⟩ 3 (by decide) (hex_of _ 3 rfl (by decide) (by decide +kernel)) h.1 h.2 w
set_option maxRecDepth 1000000 in
theorem code_gold5 (w : World) : Calls Tryd.prog 12 #[.string ⟨#[99, 97, 116]⟩, .string ⟨#[100, 111, 103]⟩, .string ⟨#[99, 56, 56, 51, 54, 51, 54, 49, 55, 52, 56, 51, 54, 52, 54, 102, 54, 55]⟩] w fun e w' => e = .returned (.bool true) ∧ Below w.heap.size w w' :=
  have h := enc_known (listT [textT [99, 97, 116], textT [100, 111, 103]]) _ rfl (by decide +kernel : codeU 6 (listT [textT [99, 97, 116], textT [100, 111, 103]]) = hexL [99, 56, 56, 51, 54, 51, 54, 49, 55, 52, 56, 51, 54, 52, 54, 102, 54, 55]) (by decide +kernel)
  listed_true ⟨#[99, 97, 116]⟩ ⟨#[100, 111, 103]⟩ ⟨#[99, 56, 56, 51, 54, 51, 54, 49, 55, 52, 56, 51, 54, 52, 54, 102, 54, 55]⟩ 9 (by decide) (by decide) (hex_of _ 9 rfl (by decide) (by decide +kernel)) h.1 h.2 w
set_option maxRecDepth 1000000 in
theorem code_gold6 (w : World) : Calls Tryd.prog 13 #[.string ⟨#[1, 2, 3, 4, 5]⟩, .bool false, .string ⟨#[49, 49, 50, 51, 52, 53]⟩] w fun e w' => e = .returned (.bool true) ∧ Below w.heap.size w w' :=
  packing_true ⟨#[1, 2, 3, 4, 5]⟩ ⟨#[49, 49, 50, 51, 52, 53]⟩ false 3 (by decide) (nibsB_true (by decide +kernel)) (hex_of _ 3 rfl (by decide) (by decide +kernel)) (by decide +kernel) w
set_option maxRecDepth 1000000 in
theorem code_gold7 (w : World) : Calls Tryd.prog 13 #[.string ⟨#[0, 1, 2, 3, 4, 5]⟩, .bool false, .string ⟨#[48, 48, 48, 49, 50, 51, 52, 53]⟩] w fun e w' => e = .returned (.bool true) ∧ Below w.heap.size w w' :=
  packing_true ⟨#[0, 1, 2, 3, 4, 5]⟩ ⟨#[48, 48, 48, 49, 50, 51, 52, 53]⟩ false 4 (by decide) (nibsB_true (by decide +kernel)) (hex_of _ 4 rfl (by decide) (by decide +kernel)) (by decide +kernel) w
set_option maxRecDepth 1000000 in
theorem code_gold8 (w : World) : Calls Tryd.prog 13 #[.string ⟨#[0, 15, 1, 12, 11, 8]⟩, .bool true, .string ⟨#[50, 48, 48, 102, 49, 99, 98, 56]⟩] w fun e w' => e = .returned (.bool true) ∧ Below w.heap.size w w' :=
  packing_true ⟨#[0, 15, 1, 12, 11, 8]⟩ ⟨#[50, 48, 48, 102, 49, 99, 98, 56]⟩ true 4 (by decide) (nibsB_true (by decide +kernel)) (hex_of _ 4 rfl (by decide) (by decide +kernel)) (by decide +kernel) w
set_option maxRecDepth 1000000 in
theorem code_gold9 (w : World) : Calls Tryd.prog 13 #[.string ⟨#[15, 1, 12, 11, 8]⟩, .bool true, .string ⟨#[51, 102, 49, 99, 98, 56]⟩] w fun e w' => e = .returned (.bool true) ∧ Below w.heap.size w w' :=
  packing_true ⟨#[15, 1, 12, 11, 8]⟩ ⟨#[51, 102, 49, 99, 98, 56]⟩ true 3 (by decide) (nibsB_true (by decide +kernel)) (hex_of _ 3 rfl (by decide) (by decide +kernel)) (by decide +kernel) w
set_option maxRecDepth 1000000 in
theorem code_gold10 (w : World) : Calls Tryd.prog 11 #[.string ⟨#[76, 111, 114, 101, 109, 32, 105, 112, 115, 117, 109, 32, 100, 111, 108, 111, 114, 32, 115, 105, 116, 32, 97, 109, 101, 116, 44, 32, 99, 111, 110, 115, 101, 99, 116, 101, 116, 117, 114, 32, 97, 100, 105, 112, 105, 115, 105, 99, 105, 110, 103, 32, 101, 108, 105, 116]⟩, .string ⟨#[98, 56, 51, 56, 52, 99, 54, 102, 55, 50, 54, 53, 54, 100, 50, 48, 54, 57, 55, 48, 55, 51, 55, 53, 54, 100, 50, 48, 54, 52, 54, 102, 54, 99, 54, 102, 55, 50, 50, 48, 55, 51, 54, 57, 55, 52, 50, 48, 54, 49, 54, 100, 54, 53, 55, 52, 50, 99, 50, 48, 54, 51, 54, 102, 54, 101, 55, 51, 54, 53, 54, 51, 55, 52, 54, 53, 55, 52, 55, 53, 55, 50, 50, 48, 54, 49, 54, 52, 54, 57, 55, 48, 54, 57, 55, 51, 54, 57, 54, 51, 54, 57, 54, 101, 54, 55, 50, 48, 54, 53, 54, 99, 54, 57, 55, 52]⟩] w fun e w' => e = .returned (.bool true) ∧ Below w.heap.size w w' :=
  have h := enc_known (textT [76, 111, 114, 101, 109, 32, 105, 112, 115, 117, 109, 32, 100, 111, 108, 111, 114, 32, 115, 105, 116, 32, 97, 109, 101, 116, 44, 32, 99, 111, 110, 115, 101, 99, 116, 101, 116, 117, 114, 32, 97, 100, 105, 112, 105, 115, 105, 99, 105, 110, 103, 32, 101, 108, 105, 116]) _ rfl (by decide +kernel : codeU 6 (textT [76, 111, 114, 101, 109, 32, 105, 112, 115, 117, 109, 32, 100, 111, 108, 111, 114, 32, 115, 105, 116, 32, 97, 109, 101, 116, 44, 32, 99, 111, 110, 115, 101, 99, 116, 101, 116, 117, 114, 32, 97, 100, 105, 112, 105, 115, 105, 99, 105, 110, 103, 32, 101, 108, 105, 116]) = hexL [98, 56, 51, 56, 52, 99, 54, 102, 55, 50, 54, 53, 54, 100, 50, 48, 54, 57, 55, 48, 55, 51, 55, 53, 54, 100, 50, 48, 54, 52, 54, 102, 54, 99, 54, 102, 55, 50, 50, 48, 55, 51, 54, 57, 55, 52, 50, 48, 54, 49, 54, 100, 54, 53, 55, 52, 50, 99, 50, 48, 54, 51, 54, 102, 54, 101, 55, 51, 54, 53, 54, 51, 55, 52, 54, 53, 55, 52, 55, 53, 55, 50, 50, 48, 54, 49, 54, 52, 54, 57, 55, 48, 54, 57, 55, 51, 54, 57, 54, 51, 54, 57, 54, 101, 54, 55, 50, 48, 54, 53, 54, 99, 54, 57, 55, 52]) (by decide +kernel)
  coding_true ⟨#[76, 111, 114, 101, 109, 32, 105, 112, 115, 117, 109, 32, 100, 111, 108, 111, 114, 32, 115, 105, 116, 32, 97, 109, 101, 116, 44, 32, 99, 111, 110, 115, 101, 99, 116, 101, 116, 117, 114, 32, 97, 100, 105, 112, 105, 115, 105, 99, 105, 110, 103, 32, 101, 108, 105, 116]⟩ ⟨#[98, 56, 51, 56, 52, 99, 54, 102, 55, 50, 54, 53, 54, 100, 50, 48, 54, 57, 55, 48, 55, 51, 55, 53, 54, 100, 50, 48, 54, 52, 54, 102, 54, 99, 54, 102, 55, 50, 50, 48, 55, 51, 54, 57, 55, 52, 50, 48, 54, 49, 54, 100, 54, 53, 55, 52, 50, 99, 50, 48, 54, 51, 54, 102, 54, 101, 55, 51, 54, 53, 54, 51, 55, 52, 54, 53, 55, 52, 55, 53, 55, 50, 50, 48, 54, 49, 54, 52, 54, 57, 55, 48, 54, 57, 55, 51, 54, 57, 54, 51, 54, 57, 54, 101, 54, 55, 50, 48, 54, 53, 54, 99, 54, 57, 55, 52]⟩ 58 (by decide) (hex_of _ 58 rfl (by decide) (by decide +kernel)) h.1 h.2 w

set_option maxRecDepth 100000 in
set_option maxHeartbeats 1000000 in
theorem codeGold_calls (w : World) : Calls Tryd.prog 7 #[] w fun e w' => e = .returned (.bool true) ∧ Below w.heap.size w w' := by
  have HB0 : Hid (Below w.heap.size w w) := Below.refl _ _
  go_enter Tryd.func7, Tryd.ntmps7
  go_wp2_with fail
  refine (code_gold1 _).mono ?_
  rintro e w1 ⟨rfl, hb⟩
  have HB1 : Hid (Below w.heap.size w w1) := HB0.out.trans (hb.mono HB0.out.size)
  clear hb
  go_wp2_with fail
  refine (code_gold2 _).mono ?_
  rintro e w2 ⟨rfl, hb⟩
  have HB2 : Hid (Below w.heap.size w w2) := HB1.out.trans (hb.mono HB1.out.size)
  clear hb
  go_wp2_with fail
  refine (code_gold3 _).mono ?_
  rintro e w3 ⟨rfl, hb⟩
  have HB3 : Hid (Below w.heap.size w w3) := HB2.out.trans (hb.mono HB2.out.size)
  clear hb
  go_wp2_with fail
  refine (code_gold4 _).mono ?_
  rintro e w4 ⟨rfl, hb⟩
  have HB4 : Hid (Below w.heap.size w w4) := HB3.out.trans (hb.mono HB3.out.size)
  clear hb
  go_wp2_with fail
  refine (code_gold5 _).mono ?_
  rintro e w5 ⟨rfl, hb⟩
  have HB5 : Hid (Below w.heap.size w w5) := HB4.out.trans (hb.mono HB4.out.size)
  clear hb
  go_wp2_with fail
  refine (code_gold6 _).mono ?_
  rintro e w6 ⟨rfl, hb⟩
  have HB6 : Hid (Below w.heap.size w w6) := HB5.out.trans (hb.mono HB5.out.size)
  clear hb
  go_wp2_with fail
  refine (code_gold7 _).mono ?_
  rintro e w7 ⟨rfl, hb⟩
  have HB7 : Hid (Below w.heap.size w w7) := HB6.out.trans (hb.mono HB6.out.size)
  clear hb
  go_wp2_with fail
  refine (code_gold8 _).mono ?_
  rintro e w8 ⟨rfl, hb⟩
  have HB8 : Hid (Below w.heap.size w w8) := HB7.out.trans (hb.mono HB7.out.size)
  clear hb
  go_wp2_with fail
  refine (code_gold9 _).mono ?_
  rintro e w9 ⟨rfl, hb⟩
  have HB9 : Hid (Below w.heap.size w w9) := HB8.out.trans (hb.mono HB8.out.size)
  clear hb
  go_wp2_with fail
  refine (code_gold10 _).mono ?_
  rintro e w10 ⟨rfl, hb⟩
  have HB10 : Hid (Below w.heap.size w w10) := HB9.out.trans (hb.mono HB9.out.size)
  clear hb
  go_wp2_with fail
  go_ret
  exact ⟨rfl, HB10.out⟩

set_option maxRecDepth 100000 in
set_option maxHeartbeats 1000000 in
theorem rootGold_calls (w : World) (T : Tabs w) : Calls Tryd.prog 6 #[] w fun e w' => e = .returned (.bool true) ∧ Below w.heap.size w w' := by
  have HT : Hid (Tabs w) := T
  have HB0 : Hid (Below w.heap.size w w) := Below.refl _ _
  clear T
  go_enter Tryd.func6, Tryd.ntmps6
  go_wp2_with fail
  refine (root_gold1 _ _ (HT.out.below (HB0.out.alloc HB0.out.size _)) (pairs_lie _ w.heap.size _ gold1 _ rfl (heap_alloc_new _ _))).mono ?_
  rintro e w1 ⟨rfl, hb⟩
  have HB1 : Hid (Below w.heap.size w w1) := (HB0.out.alloc HB0.out.size _).trans (hb.mono (HB0.out.alloc HB0.out.size _).size)
  clear hb
  go_wp2_with fail
  refine (root_gold2 _ _ (HT.out.below (HB1.out.alloc HB1.out.size _)) (pairs_lie _ w1.heap.size _ gold2 _ rfl (heap_alloc_new _ _))).mono ?_
  rintro e w2 ⟨rfl, hb⟩
  have HB2 : Hid (Below w.heap.size w w2) := (HB1.out.alloc HB1.out.size _).trans (hb.mono (HB1.out.alloc HB1.out.size _).size)
  clear hb
  go_wp2_with fail
  refine (root_gold3 _ _ (HT.out.below (HB2.out.alloc HB2.out.size _)) (pairs_lie _ w2.heap.size _ gold3 _ rfl (heap_alloc_new _ _))).mono ?_
  rintro e w3 ⟨rfl, hb⟩
  have HB3 : Hid (Below w.heap.size w w3) := (HB2.out.alloc HB2.out.size _).trans (hb.mono (HB2.out.alloc HB2.out.size _).size)
  clear hb
  go_wp2_with fail
  refine (root_gold4 _ _ (HT.out.below HB3.out) ⟨.inl ⟨rfl, rfl⟩⟩).mono ?_
  rintro e w4 ⟨rfl, hb⟩
  have HB4 : Hid (Below w.heap.size w w4) := HB3.out.trans (hb.mono HB3.out.size)
  clear hb
  go_wp2_with fail
  go_ret
  exact ⟨rfl, HB4.out⟩

theorem Known_calls (w : World) (T : Tabs w) : Calls Tryd.prog 3 #[] w fun e w' => e = .returned (.bool true) ∧ Below w.heap.size w w' := by
  have HT : Hid (Tabs w) := T
  clear T
  go_enter Tryd.func3, Tryd.ntmps3
  go_wp2_with fail
  refine (hashGold_calls _ HT.out).mono ?_
  rintro e w1 ⟨rfl, hb⟩
  have HB1 : Hid (Below w.heap.size w w1) := hb
  clear hb
  go_wp2_with fail
  refine (rootGold_calls _ (HT.out.below HB1.out)).mono ?_
  rintro e w2 ⟨rfl, hb⟩
  have HB2 : Hid (Below w.heap.size w w2) := HB1.out.trans (hb.mono HB1.out.size)
  clear hb
  go_wp2_with fail
  refine (codeGold_calls _).mono ?_
  rintro e w3 ⟨rfl, hb⟩
  have HB3 : Hid (Below w.heap.size w w3) := HB2.out.trans (hb.mono HB2.out.size)
  clear hb
  go_wp2_with fail
  go_ret
  exact ⟨rfl, HB3.out⟩
end Go.Proofs.YtenmjjpkbcogbaaDoor
