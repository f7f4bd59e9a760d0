import Derived.Test.YtenmjjpkbcogbaaGreatDoorZj
import Derived.Deep.Slices
import Derived.ProofKit
import Derived.OpenShut
import Derived.Carry
import Derived.SizedLaws
import Derived.Test.YtenmjjpkbcogbaaGreatDoorCards
import Derived.Test.YtenmjjpkbcogbaaGreatDoorTie
import Derived.LaidMore
import Derived.Stop.Joined
import Derived.Lib.LaidTab
import Derived.Stop.LaidErr
import Derived.SevenTiedAt

/- Hopen -/
namespace Go.Proofs.YtenmjjpkbcogbaaGreatDoor
open Go.ChangeShapes Go.WideShapes Go.ChangeAt Go.WideMaps Go.WideElems Go.RowKit Go.Deep

theorem cells38 : Tryz.prog.cellsOf 38 = 6 := by kernel_rfl
theorem cells3 : Tryz.prog.cellsOf 3 = 1 := by kernel_rfl
theorem cells9 : Tryz.prog.cellsOf 9 = 1 := by kernel_rfl
theorem bytes38 : Tryz.prog.bytesOf 38 = 64 := by kernel_rfl
theorem laidOut : laidOutB Tryz.prog = true := by kernel_rfl

def opD {H : Type} (p : Op1) : DataW H := .agg [.lit (.int .i64 p.k), .lit (.int .i64 p.x), .lit (.int .i64 p.y), .lit (.int .i64 p.z), .lit (.string p.s.data.toList), .lit (.string p.t.data.toList)]

theorem rng_of_wf {n : Int} (h : (Lit.int .i64 n).wf = true) : Rng n := by
  simp only [Lit.wf, Bool.and_eq_true, decide_eq_true_eq] at h
  exact ⟨h.1, h.2⟩

set_option maxRecDepth 100000 in
theorem open_op {H : Type} {enc : TypeId × Value → H} {W : World} {n : Nat} {cs : List Value} {x : DataW H × List MemPlace} (h : DataW.trod enc Tryz.prog W 0 (fun _ => true) true n 38 cs = some x) :
    ∃ p : Op1, cs = [.int .i64 p.k, .int .i64 p.x, .int .i64 p.y, .int .i64 p.z, .string p.s, .string p.t] ∧ x.1 = opD p ∧ Rng p.x ∧ Rng p.y ∧ Rng p.z := by
  obtain ⟨xs, k, _, hxy, hcl, hxl, hf⟩ := DataW.trod_struct Tryz.underlying38 h
  rw [cells38] at hcl
  match xs, hxl, cs, hcl with
  | [y0, y1, y2, y3, y4, y5], _, [v0, v1, v2, v3, v4, v5], _ =>
    have g0 := hf 0 _ rfl
    have g1 := hf 1 _ rfl
    have g2 := hf 2 _ rfl
    have g3 := hf 3 _ rfl
    have g4 := hf 4 _ rfl
    have g5 := hf 5 _ rfl
    simp [cells3, cells9] at g0 g1 g2 g3 g4 g5
    obtain ⟨k0, e0, x0, _⟩ := DataW.trod_int Tryz.underlying3 g0
    obtain ⟨k1, e1, x1, w1⟩ := DataW.trod_int Tryz.underlying3 g1
    obtain ⟨k2, e2, x2, w2⟩ := DataW.trod_int Tryz.underlying3 g2
    obtain ⟨k3, e3, x3, w3⟩ := DataW.trod_int Tryz.underlying3 g3
    obtain ⟨s4, e4, x4, _⟩ := DataW.trod_string Tryz.underlying9 g4
    obtain ⟨s5, e5, x5, _⟩ := DataW.trod_string Tryz.underlying9 g5
    simp only [List.cons.injEq, and_true] at e0 e1 e2 e3 e4 e5
    subst e0 e1 e2 e3 e4 e5 x0 x1 x2 x3 x4 x5
    refine ⟨⟨k0, k1, k2, k3, s4, s5⟩, rfl, ?_, rng_of_wf w1, rng_of_wf w2, rng_of_wf w3⟩
    rw [hxy]; rfl

theorem weights_op {H : Type} (p : Op1) : (opD p : DataW H).weights Tryz.prog 38 = [p.s.data.toList.length, p.t.data.toList.length] := by
  unfold opD
  simp only [DataW.weights, Tryz.underlying38, DataW.weightsEach, List.map_cons, List.map_nil, List.nil_append, List.append_nil, List.cons_append]
theorem weights_all {H : Type} {P : Program} {e : TypeId} : ∀ (l : List (DataW H)) (i : Nat) (d : DataW H), l[i]? = some d → ∀ k ∈ d.weights P e, k ∈ DataW.weightsAll P e l
  | [], i, d, h, _, _ => by simp at h
  | x :: t, 0, d, h, k, hk => by
    simp at h
    subst h
    simp only [DataW.weightsAll]
    exact List.mem_append_left _ hk
  | x :: t, i + 1, d, h, k, hk => by
    simp only [DataW.weightsAll]
    exact List.mem_append_right _ (weights_all t i d (by simpa using h) k hk)

set_option maxRecDepth 100000 in
theorem open_script {H : Type} {enc : TypeId × Value → H} {W : World} {n : Nat} {v0 : Value} {x : DataW H × List MemPlace} (h : DataW.trod enc Tryz.prog W 0 (fun _ => true) true n 22 [v0] = some x)
    (hsz : ∀ k ∈ x.1.weights Tryz.prog 22, k ≤ reachBytes) :
    ∃ a cap ops, v0 = .slice a (List.length ops) cap ∧ Script W a ops ∧ ∀ (i : Nat) (p : Op1), ops[i]? = some p → Rng p.x ∧ Rng p.y ∧ Rng p.z := by
  have hrb := reachBytes_lt
  rcases open_slice Tryz.underlying22 h with ⟨hc, _⟩ | ⟨a, len, cap, m, k, D, Pl, hc, _, hl, hm, hmm, hx, hall⟩
  · simp only [List.cons.injEq, and_true] at hc
    exact ⟨none, 0, [], hc, ⟨by simp, fun i p hp => by simp at hp, fun i p hp => by simp at hp⟩, fun i p hp => by simp at hp⟩
  · simp only [List.cons.injEq, and_true] at hc
    simp only [if_true] at hmm
    subst hmm
    haveI : Inhabited Op1 := ⟨⟨0, 0, 0, 0, ⟨#[]⟩, ⟨#[]⟩⟩⟩
    have each : ∀ i, i < m → ∃ p : Op1, (∃ cs', W.cells? 0 (a.add (i * 6)) 6 = some cs' ∧ cs' = [.int .i64 p.k, .int .i64 p.x, .int .i64 p.y, .int .i64 p.z, .string p.s, .string p.t]) ∧ D i = opD p ∧ Rng p.x ∧ Rng p.y ∧ Rng p.z := fun i hi => by
      obtain ⟨cs', h1, h2⟩ := hall i hi
      rw [cells38] at h1
      obtain ⟨p, e1, e2, r⟩ := open_op h2
      exact ⟨p, ⟨cs', h1, e1⟩, e2, r⟩
    obtain ⟨f, hf⟩ := choose_lt each
    have hw : x.1.weights Tryz.prog 22 = (len + (m - len)) * 64 :: (DataW.weightsAll Tryz.prog 38 ((List.range len).map D) ++ DataW.weightsAll Tryz.prog 38 ((List.range (m - len)).map fun j => D (len + j))) := by
      rw [hx]
      simp only [DataW.weights, Tryz.underlying22, bytes38, List.length_map, List.length_range]
    rw [hw] at hsz
    have hlen : (len + (m - len)) * 64 ≤ reachBytes := hsz _ (by simp)
    have hat : ∀ (i : Nat) (p : Op1), ((List.range len).map f)[i]? = some p → i < len ∧ p = f i := fun i p hp => by
      rw [List.getElem?_map] at hp
      by_cases hi : i < len
      · rw [List.getElem?_range hi] at hp
        exact ⟨hi, by simpa using hp.symm⟩
      · rw [List.getElem?_eq_none (by simpa using hi)] at hp; simp at hp
    refine ⟨some a, m, (List.range len).map f, by rw [List.length_map, List.length_range]; exact hc, ⟨by rw [List.length_map, List.length_range]; omega, fun i p hp => ?_, fun i p hp => ?_⟩, fun i p hp => ?_⟩
    · obtain ⟨hi, rfl⟩ := hat i p hp
      obtain ⟨⟨cs', h1, rfl⟩, _⟩ := hf i (by omega)
      obtain ⟨_, _, hcell⟩ := World.cells?_some h1
      obtain ⟨g, o, spot⟩ := a
      have hspot : spot = none := by
        obtain ⟨⟨cs0, h10, rfl⟩, _⟩ := hf 0 (by omega)
        obtain ⟨_, _, hcell0⟩ := World.cells?_some h10
        have q0 := hcell0 0 (by omega)
        have := World.cell?_spot (v := .int .i64 (f 0).k) (by simpa using q0)
        simpa [Addr.add] using this
      subst hspot
      have hadd : ∀ j, ((⟨g, o, none⟩ : Addr).add (i * 6)).add j = ⟨g, o + i * 6 + j, none⟩ := fun j => by rw [Addr.add_lit, Addr.add_lit]
      have q : ∀ j, j < 6 → W.cell? ⟨g, o + i * 6 + j, none⟩ = [Value.int .i64 (f i).k, .int .i64 (f i).x, .int .i64 (f i).y, .int .i64 (f i).z, .string (f i).s, .string (f i).t][j]? := fun j hj => by
        have := hcell j hj
        rw [hadd j] at this; exact this
      have c0 := q 0 (by omega)
      have c1 := q 1 (by omega)
      have c2 := q 2 (by omega)
      have c3 := q 3 (by omega)
      have c4 := q 4 (by omega)
      have c5 := q 5 (by omega)
      have hb : g < W.heap.size := World.block_lt_of_cell? W _ (u := .int .i64 (f i).k) (show W.cell? ⟨g, o + i * 6 + 0, none⟩ = _ from c0)
      exact ⟨g, o, rfl, hb, ⟨c0, c1, c2, c3, c4, c5⟩⟩
    · obtain ⟨hi, rfl⟩ := hat i p hp
      obtain ⟨_, hD, _⟩ := hf i (by omega)
      have hmem : ∀ k ∈ (opD (f i) : DataW H).weights Tryz.prog 38, k ≤ reachBytes := fun k hk =>
        hsz k (List.mem_cons_of_mem _ (List.mem_append_left _ (weights_all _ i (D i) (by rw [List.getElem?_map, List.getElem?_range hi]; rfl) k (by rw [hD]; exact hk))))
      rw [weights_op] at hmem
      have h1 := hmem (f i).s.data.toList.length (by simp)
      have h2 := hmem (f i).t.data.toList.length (by simp)
      simp at h1 h2
      omega
    · obtain ⟨hi, rfl⟩ := hat i p hp
      exact (hf i (by omega)).2.2
end Go.Proofs.YtenmjjpkbcogbaaGreatDoor

/- Hlaid -/
namespace Go.Proofs.YtenmjjpkbcogbaaGreatDoor
open Go.ChangeShapes Go.WideShapes Go.ChangeAt Go.WideMaps Go.WideElems Go.RowKit
open Go.ChangeMaps (setBlock shut_map_nil open_string shut_string keptBut_setBlock frozen?_setBlock heap_setBlock_same)

theorem own : ownKnob Tryz.prog.godebug = none := by kernel_rfl
theorem gTurns : Tryz.prog.globalNamed "ledger/keccak.turns" = some 1 := by kernel_rfl
theorem gMoves : Tryz.prog.globalNamed "ledger/keccak.moves" = some 2 := by kernel_rfl
theorem gWords : Tryz.prog.globalNamed "ledger/keccak.roundWords" = some 0 := by kernel_rfl
theorem tTurns : (Tryz.prog.globals[1]?).map (·.type) = some 244 := by kernel_rfl
theorem tMoves : (Tryz.prog.globals[2]?).map (·.type) = some 310 := by kernel_rfl
theorem tWords : (Tryz.prog.globals[0]?).map (·.type) = some 292 := by kernel_rfl
theorem c234 : Tryz.prog.cellsOf 244 = 25 := by kernel_rfl
theorem c294 : Tryz.prog.cellsOf 310 = 25 := by kernel_rfl
theorem c280 : Tryz.prog.cellsOf 292 = 24 := by kernel_rfl
theorem c178 : Tryz.prog.cellsOf 182 = 1 := by kernel_rfl
theorem c3 : Tryz.prog.cellsOf 3 = 1 := by kernel_rfl

def turnsZ : List Int := turnsT.map Int.ofNat
def movesZ : List Int := movesT.map Int.ofNat
def wordsZ : List Int := wordsT.map Int.ofNat
theorem dTurns : (Rows.laid_ledger_keccak_turns : DataW Unit) = Lib.tabData .u64 turnsZ := rfl
theorem dMoves : (Rows.laid_ledger_keccak_moves : DataW Unit) = Lib.tabData .i64 movesZ := rfl
theorem dWords : (Rows.laid_ledger_keccak_roundWords : DataW Unit) = Lib.tabData .u64 wordsZ := rfl

def laid3 : List (String × DataW Unit) := [("ledger/keccak.turns", Lib.tabData .u64 turnsZ), ("ledger/keccak.moves", Lib.tabData .i64 movesZ), ("ledger/keccak.roundWords", Lib.tabData .u64 wordsZ)]

theorem turns_cell (j : Nat) (h : j < 25) : turnsZ.getD j 0 = ((turnsAt j : Nat) : Int) := by
  have : ∀ j : Fin 25, turnsZ.getD j 0 = ((turnsAt j : Nat) : Int) := by decide
  exact this ⟨j, h⟩
theorem moves_cell (j : Nat) (h : j < 25) : movesZ.getD j 0 = ((movesAt j : Nat) : Int) := by
  have : ∀ j : Fin 25, movesZ.getD j 0 = ((movesAt j : Nat) : Int) := by decide
  exact this ⟨j, h⟩
theorem words_cell (j : Nat) (_h : j < 24) : wordsZ.getD j 0 = ((wordsAt j : Nat) : Int) := by
  unfold wordsZ wordsAt
  rw [List.getD_eq_getElem?_getD, List.getD_eq_getElem?_getD, List.getElem?_map]
  cases wordsT[j]? <;> rfl

/-- what the condition gives the walks: the three tables -/
theorem of_laid {W : World} (h : laidMetH Tryz.prog laid3 W) : Tabs W := by
  rw [MakeChecks.laidMetH_plain _ _ _ (by kernel_rfl)] at h
  have h1 := Lib.tabIs_of_head gTurns tTurns Tryz.underlying244 Tryz.underlying182 c178 c234 h
  have h2 := Lib.tabIs_of_head gMoves tMoves Tryz.underlying310 Tryz.underlying3 c3 c294 h.tail
  have h3 := Lib.tabIs_of_head gWords tWords Tryz.underlying292 Tryz.underlying182 c178 c280 h.tail.tail
  have k1 : ∀ j, j < 25 → W.cell? ⟨1, j, none⟩ = some (.int .u64 (turnsAt j)) := fun j hj => by
    rw [h1.cell gTurns j (show j < turnsZ.length from hj), turns_cell j hj]
  have k2 : ∀ j, j < 25 → W.cell? ⟨2, j, none⟩ = some (.int .i64 (movesAt j)) := fun j hj => by
    rw [h2.cell gMoves j (show j < movesZ.length from hj), moves_cell j hj]
  have k3 : ∀ j, j < 24 → W.cell? ⟨0, j, none⟩ = some (.int .u64 (wordsAt j)) := fun j hj => by
    rw [h3.cell gWords j (show j < wordsZ.length from hj), words_cell j hj]
  exact ⟨World.block_lt_of_cell? _ _ (k2 0 (by decide)), k3, k1, k2⟩

/-- the door's own heap meets the condition -/
theorem door_met (os : Os) (args : Array Value) : laidMetH Tryz.prog laid3 ((World.doorLaid Tryz.prog 24 os).forCall (fun _ _ => 0) ⟨#[], args, []⟩).memory :=
  laidMetH_of_parts3 (fuel := 8) (laidMet_of_run' 8 (by kernel_rfl) (by kernel_rfl)) (by kernel_rfl) (by kernel_rfl)

end Go.Proofs.YtenmjjpkbcogbaaGreatDoor
