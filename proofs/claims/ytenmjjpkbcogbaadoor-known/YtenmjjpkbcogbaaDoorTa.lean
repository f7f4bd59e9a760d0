import Derived.Test.YtenmjjpkbcogbaaDoorZa
import Derived.Test.YtenmjjpkbcogbaaDoorZc
import Derived.Test.YtenmjjpkbcogbaaDoorZd
import Derived.Test.YtenmjjpkbcogbaaDoorZb

/- TnA -/
namespace Go.Proofs.YtenmjjpkbcogbaaDoor
open Go.RowKit

inductive Nd where
  | nil
  | unread (h : List UInt8)
  | leaf (h p v : List UInt8)
  | ext (h p : List UInt8) (k : Nd)
  | branch (h v : List UInt8) (ks : Nat → Nd)

def Nd.hash : Nd → List UInt8
  | .nil => []
  | .unread h => h
  | .leaf h _ _ => h
  | .ext h _ _ => h
  | .branch h _ _ => h
def Nd.path : Nd → List UInt8
  | .leaf _ p _ => p
  | .ext _ p _ => p
  | _ => []
def Nd.value : Nd → List UInt8
  | .leaf _ _ v => v
  | .branch _ v _ => v
  | _ => []
def Nd.kind : Nd → Nat
  | .leaf _ _ _ => 1
  | .ext _ _ _ => 2
  | .branch _ _ _ => 3
  | _ => 0
def Nd.some : Nd → Prop
  | .nil => False
  | _ => True
/-- A node that was read or made. -/
def Nd.read : Nd → Prop
  | .nil => False
  | .unread _ => False
  | _ => True
def Nd.setHash (h : List UInt8) : Nd → Nd
  | .nil => .nil
  | .unread _ => .unread h
  | .leaf _ p v => .leaf h p v
  | .ext _ p k => .ext h p k
  | .branch _ v ks => .branch h v ks

def hashL (l : List UInt8) : List UInt8 := (hashF (str l)).data.toList
theorem hashL_length (l : List UInt8) : (hashL l).length = 32 := by
  unfold hashL
  have : (hashF (str l)).data.toList.length = (hashF (str l)).size := by simp
  rw [this]; exact sumF_size _
theorem str_hashL (l : List UInt8) : str (hashL l) = hashF (str l) := str_data _

/-- How a parent names a node. -/
def refT (n : Nd) (it : Tree) : Tree := match n with
  | .nil => textT []
  | n => if n.hash = [] then it else textT n.hash
/-- The list that a node is. -/
def Nd.item : Nd → Tree
  | .leaf _ p v => listT [textT (packU p true), textT v]
  | .ext _ p k => listT [textT (packU p false), refT k k.item]
  | .branch _ v ks => listT ((List.range 16).map (fun i => refT (ks i) (ks i).item) ++ [textT v])
  | _ => listT [textT (packU [] false), textT []]
def Nd.ref (n : Nd) : Tree := refT n n.item
def Nd.code (n : Nd) : List UInt8 := codeU 6 n.item
def hashOf (c : List UInt8) : List UInt8 := if 32 ≤ c.length then hashL c else []
/-- A node that was made, with its hash. -/
def Nd.mk (n : Nd) : Nd := n.setHash (hashOf n.code)

theorem item_setHash (h : List UInt8) (n : Nd) : (n.setHash h).item = n.item := by cases n <;> rfl
theorem code_setHash (h : List UInt8) (n : Nd) : (n.setHash h).code = n.code := by unfold Nd.code; rw [item_setHash]

/-- The cells of a node. -/
def ncells (k : Int) (h p v : ByteArray) (kid : Value) (kids : Nat → Value) : Array Value :=
  ([.int .i64 k, .string h, .string p, .string v, kid] ++ (List.range 16).map kids).toArray
theorem ncells_size (k : Int) (h p v : ByteArray) (kid : Value) (kids : Nat → Value) : (ncells k h p v kid kids).size = 21 := by simp [ncells]
theorem ncells_kid (k : Int) (h p v : ByteArray) (kid : Value) (kids : Nat → Value) (i : Nat) (hi : i < 16) : (ncells k h p v kid kids)[5 + i]? = some (kids i) := by
  unfold ncells
  rw [List.getElem?_toArray, List.getElem?_append_right (by simp)]
  simp [hi]

def nilP : Value := .pointer none
def ptr (b : Nat) : Value := .pointer (some ⟨b, 0, none⟩)
/-- Block b has these cells. -/
def Blk (w : World) (b : Nat) (t : Nd) (kid : Value) (kids : Nat → Value) : Prop :=
  w.heap[b]? = some (.cells (ncells t.kind (str t.hash) (str t.path) (str t.value) kid kids) 79 (0, 0))

/-- The tree lies behind the pointer, in blocks of S, none of which serves twice. -/
def At (w : World) : Nd → (Nat → Prop) → Value → Prop
  | .nil, _, p => p = .pointer none
  | .unread h, S, p => ∃ b, p = ptr b ∧ S b ∧ Blk w b (.unread h) nilP (fun _ => nilP)
  | .leaf h q v, S, p => ∃ b, p = ptr b ∧ S b ∧ Blk w b (.leaf h q v) nilP (fun _ => nilP)
  | .ext h q k, S, p => ∃ (b : Nat) (kp : Value) (S' : Nat → Prop), p = ptr b ∧ S b ∧ Blk w b (.ext h q k) kp (fun _ => nilP) ∧ (∀ x, S' x → S x ∧ x ≠ b) ∧ At w k S' kp
  | .branch h v ks, S, p => ∃ (b : Nat) (kps : Nat → Value) (Ss : Nat → Nat → Prop), p = ptr b ∧ S b ∧ Blk w b (.branch h v ks) nilP kps ∧ (∀ i x, i < 16 → Ss i x → S x ∧ x ≠ b) ∧
      (∀ i j x, i < 16 → j < 16 → Ss i x → Ss j x → i = j) ∧ ∀ i, i < 16 → At w (ks i) (Ss i) (kps i)

theorem At.mono {w : World} : ∀ {t : Nd} {S S' : Nat → Prop} {p : Value}, At w t S p → (∀ x, S x → S' x) → At w t S' p
  | .nil, _, _, _, h, _ => h
  | .unread _, _, _, _, ⟨b, e, s, k⟩, hs => ⟨b, e, hs b s, k⟩
  | .leaf _ _ _, _, _, _, ⟨b, e, s, k⟩, hs => ⟨b, e, hs b s, k⟩
  | .ext _ _ _, _, _, _, ⟨b, kp, S1, e, s, k, h1, h2⟩, hs => ⟨b, kp, S1, e, hs b s, k, fun x hx => ⟨hs x (h1 x hx).1, (h1 x hx).2⟩, h2⟩
  | .branch _ _ _, _, _, _, ⟨b, kps, Ss, e, s, k, h1, h2, h3⟩, hs => ⟨b, kps, Ss, e, hs b s, k, fun i x hi hx => ⟨hs x (h1 i x hi hx).1, (h1 i x hi hx).2⟩, h2, h3⟩

/-- Where its blocks are as they were a tree lies as it lay. -/
theorem At.kept {w w' : World} : ∀ {t : Nd} {S : Nat → Prop} {p : Value}, At w t S p → (∀ x, S x → x < w.heap.size → w'.heap[x]? = w.heap[x]?) → At w' t S p := by
  have lt : ∀ {b : Nat} {t : Nd} {k : Value} {ks : Nat → Value}, Blk w b t k ks → b < w.heap.size := fun h => (Array.getElem?_eq_some_iff.1 h).1
  intro t
  induction t with
  | nil => intro S p h _; exact h
  | unread x => intro S p ⟨b, e, s, k⟩ hs; exact ⟨b, e, s, (hs b s (lt k)).trans k⟩
  | leaf x y z => intro S p ⟨b, e, s, k⟩ hs; exact ⟨b, e, s, (hs b s (lt k)).trans k⟩
  | ext x y z ih =>
    intro S p ⟨b, kp, S1, e, s, k, h1, h2⟩ hs
    exact ⟨b, kp, S1, e, s, (hs b s (lt k)).trans k, h1, ih h2 fun x hx => hs x (h1 x hx).1⟩
  | branch x y z ih =>
    intro S p ⟨b, kps, Ss, e, s, k, h1, h2, h3⟩ hs
    exact ⟨b, kps, Ss, e, s, (hs b s (lt k)).trans k, h1, h2, fun i hi => ih i (h3 i hi) fun x hx => hs x (h1 i x hi hx).1⟩
theorem At.below {w w' : World} {t : Nd} {S : Nat → Prop} {p : Value} (h : At w t S p) (k : Below w.heap.size w w') : At w' t S p := h.kept fun x _ hx => k.block x hx

/-- A tree needs no block that is not there. -/
theorem At.cut {w : World} : ∀ {t : Nd} {S : Nat → Prop} {p : Value}, At w t S p → At w t (fun x => S x ∧ x < w.heap.size) p := by
  have lt : ∀ {b : Nat} {t : Nd} {k : Value} {ks : Nat → Value}, Blk w b t k ks → b < w.heap.size := fun h => (Array.getElem?_eq_some_iff.1 h).1
  intro t
  induction t with
  | nil => intro S p h; exact h
  | unread x => intro S p ⟨b, e, s, k⟩; exact ⟨b, e, ⟨s, lt k⟩, k⟩
  | leaf x y z => intro S p ⟨b, e, s, k⟩; exact ⟨b, e, ⟨s, lt k⟩, k⟩
  | ext x y z ih =>
    intro S p ⟨b, kp, S1, e, s, k, h1, h2⟩
    exact ⟨b, kp, _, e, ⟨s, lt k⟩, k, fun x hx => ⟨⟨(h1 x hx.1).1, hx.2⟩, (h1 x hx.1).2⟩, ih h2⟩
  | branch x y z ih =>
    intro S p ⟨b, kps, Ss, e, s, k, h1, h2, h3⟩
    exact ⟨b, kps, fun i x => Ss i x ∧ x < w.heap.size, e, ⟨s, lt k⟩, k, fun i x hi hx => ⟨⟨(h1 i x hi hx.1).1, hx.2⟩, (h1 i x hi hx.1).2⟩, fun i j x hi hj h4 h5 => h2 i j x hi hj h4.1 h5.1, fun i hi => ih i (h3 i hi)⟩

/-- What lies at a node's own block. -/
theorem At.blk {w : World} {t : Nd} {S : Nat → Prop} {p : Value} (h : At w t S p) (hn : t.some) : ∃ b kid kids, p = ptr b ∧ S b ∧ Blk w b t kid kids := by
  cases t with
  | nil => exact hn.elim
  | unread _ => obtain ⟨b, e, s, k⟩ := h; exact ⟨b, _, _, e, s, k⟩
  | leaf _ _ _ => obtain ⟨b, e, s, k⟩ := h; exact ⟨b, _, _, e, s, k⟩
  | ext _ _ _ => obtain ⟨b, kp, _, e, s, k, _⟩ := h; exact ⟨b, _, _, e, s, k⟩
  | branch _ _ _ => obtain ⟨b, kps, _, e, s, k, _⟩ := h; exact ⟨b, _, _, e, s, k⟩

theorem Blk.lt {w : World} {b : Nat} {t : Nd} {kid : Value} {kids : Nat → Value} (h : Blk w b t kid kids) : b < w.heap.size := (Array.getElem?_eq_some_iff.1 h).1
theorem Blk.c0 {w : World} {b : Nat} {t : Nd} {kid : Value} {kids : Nat → Value} (h : Blk w b t kid kids) : w.cell? ⟨b, 0, none⟩ = some (.int .i64 t.kind) := by rw [cell_of_row w b 0 _ _ _ h]; rfl
theorem Blk.c1 {w : World} {b : Nat} {t : Nd} {kid : Value} {kids : Nat → Value} (h : Blk w b t kid kids) : w.cell? ⟨b, 1, none⟩ = some (.string (str t.hash)) := by rw [cell_of_row w b 1 _ _ _ h]; rfl
theorem Blk.c2 {w : World} {b : Nat} {t : Nd} {kid : Value} {kids : Nat → Value} (h : Blk w b t kid kids) : w.cell? ⟨b, 2, none⟩ = some (.string (str t.path)) := by rw [cell_of_row w b 2 _ _ _ h]; rfl
theorem Blk.c3 {w : World} {b : Nat} {t : Nd} {kid : Value} {kids : Nat → Value} (h : Blk w b t kid kids) : w.cell? ⟨b, 3, none⟩ = some (.string (str t.value)) := by rw [cell_of_row w b 3 _ _ _ h]; rfl
theorem Blk.c4 {w : World} {b : Nat} {t : Nd} {kid : Value} {kids : Nat → Value} (h : Blk w b t kid kids) : w.cell? ⟨b, 4, none⟩ = some kid := by rw [cell_of_row w b 4 _ _ _ h]; rfl
theorem Blk.ck {w : World} {b : Nat} {t : Nd} {kid : Value} {kids : Nat → Value} (h : Blk w b t kid kids) (i : Nat) (hi : i < 16) : w.cell? ⟨b, 5 + i, none⟩ = some (kids i) := by rw [cell_of_row w b (5 + i) _ _ _ h, ncells_kid _ _ _ _ _ _ i hi]
/-- Every pointer to a tree is one. -/
theorem At.ptr {w : World} {t : Nd} {S : Nat → Prop} {p : Value} (h : At w t S p) : ∃ u, p = .pointer u := by
  cases t with
  | nil => exact ⟨_, h⟩
  | unread _ => obtain ⟨b, e, _⟩ := h; exact ⟨_, e⟩
  | leaf _ _ _ => obtain ⟨b, e, _⟩ := h; exact ⟨_, e⟩
  | ext _ _ _ => obtain ⟨b, kp, _, e, _⟩ := h; exact ⟨_, e⟩
  | branch _ _ _ => obtain ⟨b, kps, _, e, _⟩ := h; exact ⟨_, e⟩
theorem At.none {w : World} {t : Nd} {S : Nat → Prop} {p : Value} (h : At w t S p) : p = .pointer none ↔ t = .nil := by
  constructor
  · intro e
    cases t with
    | nil => rfl
    | unread _ => obtain ⟨b, e1, _⟩ := h; rw [e] at e1; cases e1
    | leaf _ _ _ => obtain ⟨b, e1, _⟩ := h; rw [e] at e1; cases e1
    | ext _ _ _ => obtain ⟨b, kp, _, e1, _⟩ := h; rw [e] at e1; cases e1
    | branch _ _ _ => obtain ⟨b, kps, _, e1, _⟩ := h; rw [e] at e1; cases e1
  · intro e; subst e; exact h
end Go.Proofs.YtenmjjpkbcogbaaDoor

/- TnB -/
namespace Go.Proofs.YtenmjjpkbcogbaaDoor
open Go.RowKit

def sharedP : List UInt8 → List UInt8 → Nat
  | x :: a, y :: b => if x = y then sharedP a b + 1 else 0
  | _, _ => 0
theorem sharedP_le : ∀ a b, sharedP a b ≤ a.length ∧ sharedP a b ≤ b.length
  | [], _ => ⟨Nat.zero_le _, Nat.zero_le _⟩
  | _ :: _, [] => ⟨Nat.zero_le _, Nat.zero_le _⟩
  | x :: a, y :: b => by
    have := sharedP_le a b
    simp only [sharedP]
    split
    · simp; omega
    · simp
theorem sharedP_step (a b : List UInt8) (k : Nat) (ha : k < a.length) (hb : k < b.length) (h : a[k] = b[k]) : sharedP (a.drop k) (b.drop k) = sharedP (a.drop (k + 1)) (b.drop (k + 1)) + 1 := by
  rw [List.drop_eq_getElem_cons ha, List.drop_eq_getElem_cons hb]
  simp only [sharedP, h, if_true]
theorem sharedP_stop (a b : List UInt8) (k : Nat) (ha : k < a.length) (hb : k < b.length) (h : a[k] ≠ b[k]) : sharedP (a.drop k) (b.drop k) = 0 := by
  rw [List.drop_eq_getElem_cons ha, List.drop_eq_getElem_cons hb]
  simp only [sharedP, h, if_false]
theorem sharedP_endA (a b : List UInt8) (k : Nat) (ha : a.length ≤ k) : sharedP (a.drop k) (b.drop k) = 0 := by
  rw [List.drop_eq_nil_of_le ha]; simp [sharedP]
theorem sharedP_endB (a b : List UInt8) (k : Nat) (hb : b.length ≤ k) : sharedP (a.drop k) (b.drop k) = 0 := by
  rw [List.drop_eq_nil_of_le hb]; cases a.drop k <;> simp [sharedP]

theorem shared_calls (a b : ByteArray) (ha : a.size ≤ maxLen) (hb : b.size ≤ maxLen) (w : World) :
    Calls Tryd.prog 56 #[.string a, .string b] w fun e w' => e = .returned (.int .i64 (sharedP a.data.toList b.data.toList)) ∧ ∃ n, w' = w.drewN n := by
  unfold maxLen at ha hb
  obtain ⟨N, hN⟩ : ∃ N, N = sharedP a.data.toList b.data.toList := ⟨_, rfl⟩
  rw [← hN]
  have HN : Hid (N = sharedP a.data.toList b.data.toList) := hN
  clear hN
  go_enter Tryd.func56, Tryd.ntmps56
  go_wp2_with fail
  go_loopg [5] a.size (fun g r wr => ∃ m k : Nat, wr = w.drewN m ∧ g = a.size - k ∧ k ≤ a.size ∧ k ≤ b.size ∧ r = .int .i64 k ∧ Hid (N = sharedP (a.data.toList.drop k) (b.data.toList.drop k) + k))
  case atStart => exact ⟨0, 0, rfl, rfl, by omega, by omega, rfl, HN.out⟩
  case round =>
    obtain ⟨m, k, rfl, hg, hk, hk2, rfl, hall⟩ := hrel
    have HG : Hid (gk = a.size - k) := hg
    clear hg
    by_cases hlt : k < a.size
    · by_cases hlt2 : k < b.size
      · have hI1 : (k : Int) < (a.size : Int) := by omega
        have hI2 : (k : Int) < (b.size : Int) := by omega
        by_cases hc : a[k] = b[k]
        · have HS : Hid (N = sharedP (a.data.toList.drop (k + 1)) (b.data.toList.drop (k + 1)) + (k + 1)) := by
            show _ = _
            rw [hall.out, sharedP_step _ _ k (by simpa using hlt) (by simpa using hlt2) (by simpa [ByteArray.getElem_eq_getElem_data] using hc)]; omega
          have hci : (((a[k]).toNat : Int) == ((b[k]).toNat : Int)) = true := by rw [hc]; simp
          clear hc
          go_wp2_with fail
          go_quiet (fail)
          go_wp2_with fail
          go_roundg (a.size - (k + 1))
          case measure => have := HG.out; omega
          case rel => exact ⟨_, k + 1, rfl, rfl, by omega, by omega, by go_num, HS.out⟩
        · have HE : Hid (N = k) := by
            show _ = _
            rw [hall.out, sharedP_stop _ _ k (by simpa using hlt) (by simpa using hlt2) (by simpa [ByteArray.getElem_eq_getElem_data] using hc)]; omega
          have hci : (((a[k]).toNat : Int) == ((b[k]).toNat : Int)) = false := by
            rw [beq_eq_false_iff_ne]; intro h; exact hc (UInt8.toNat_inj.1 (by omega))
          clear hc
          go_wp2_with fail
          go_quiet (fail)
          go_wp2_with fail
          go_ret
          exact ⟨by show Ending.returned (Value.int .i64 (k : Int)) = _; rw [HE.out], _, World.drewN_drewN ..⟩
      · have HE : Hid (N = k) := by
          show _ = _
          rw [hall.out, sharedP_endB _ _ k (by simp; omega)]; omega
        have hI1 : (k : Int) < (a.size : Int) := by omega
        have hl2 : decide ((k : Int) < (b.size : Int)) = false := by simp; omega
        go_wp2_with fail
        go_quiet (fail)
        go_wp2_with fail
        go_ret
        exact ⟨by show Ending.returned (Value.int .i64 (k : Int)) = _; rw [HE.out], _, World.drewN_drewN ..⟩
    · have HE : Hid (N = k) := by
        show _ = _
        rw [hall.out, sharedP_endA _ _ k (by simp; omega)]; omega
      have hl2 : decide ((k : Int) < (a.size : Int)) = false := by simp; omega
      go_wp2_with fail
      go_quiet (fail)
      go_wp2_with fail
      go_ret
      exact ⟨by show Ending.returned (Value.int .i64 (k : Int)) = _; rw [HE.out], _, World.drewN_drewN ..⟩

set_option maxRecDepth 100000 in
set_option maxHeartbeats 1000000 in
theorem pathOf_calls (s : ByteArray) (hs : s.size ≤ 4096) (w : World) :
    Calls Tryd.prog 44 #[.string s] w fun e w' => e = .returned (.string (str (halvesU s.data.toList))) ∧ Below w.heap.size w w' := by
  obtain ⟨i0, hi0, hz0, hz1, hz2⟩ := info_parts info5
  have hmk := make_bytes 0 (2 * (s.size : Int)) (by omega) (by omega) (by omega)
  have hlen : s.data.toList.length = s.size := by simp
  have HL : Hid (s.data.toList.length = s.size) := hlen
  have hi63 : (2 * (s.size : Int)).toNat = 2 * s.size := by omega
  clear hlen
  go_enter Tryd.func44, Tryd.ntmps44
  go_upto_region 2 with fail
  have hown := own_made w w.heap.size (2 * s.size) (Nat.le_refl _) (by unfold maxLen; omega)
  have hbel := (Below.refl w.heap.size w).alloc (Nat.le_refl _) (.cells (madeCells #[.int .u8 0] (2 * s.size)) 5)
  generalize hW : w.alloc (.cells (madeCells #[.int .u8 0] (2 * s.size)) 5) = W1 at *
  obtain ⟨g1, hg1⟩ : ∃ g1, g1 = w.heap.size := ⟨_, rfl⟩
  obtain ⟨cap1, hcap1⟩ : ∃ c, c = 2 * s.size := ⟨_, rfl⟩
  have HO2 : Hid (W1.ownsRow w.heap.size 5 1 (.slice (some ⟨g1, 0, none⟩) 0 cap1) 0 (u8c [])) := by rw [hg1, hcap1]; exact hown
  have HB2 : Hid (Below w.heap.size w W1) := hbel
  rw [← hcap1, ← hg1]
  clear hW hown hbel hmk hi63 hg1 hcap1
  go_wp2_with fail
  go_loopg [3, 4] s.size (fun n v r wr => ∃ j gb cap : Nat, n = s.size - j ∧ j ≤ s.size ∧ r = .int .i64 (j : Int) ∧ v = .slice (some ⟨gb, 0, none⟩) (2 * j) cap ∧
      wr.ownsRow w.heap.size 5 1 (.slice (some ⟨gb, 0, none⟩) (2 * j) cap) (2 * j) (u8c (halvesU (s.data.toList.take j))) ∧ Below w.heap.size w wr)
  case atStart => exact ⟨0, g1, cap1, by omega, by omega, rfl, rfl, HO2.out, HB2.out⟩
  case round =>
    obtain ⟨j, gb, cap, hg, hj, rfl, rfl, hown, hbel⟩ := hrel
    have HG : Hid (gk = s.size - j) := hg
    clear hg HO2 HB2
    obtain ⟨N, hN⟩ : ∃ N : Nat, N = 2 * j := ⟨_, rfl⟩
    have HNN : Hid (N = 2 * j) := hN
    rw [← hN]
    rw [← hN] at hown
    clear hN
    by_cases hlt : j < s.size
    · have hd2 := div16 s[j]
      have ha2 := and15 s[j]
      have HS : Hid (halvesU (s.data.toList.take (j + 1)) = halvesU (s.data.toList.take j) ++ [hi s[j], lo s[j]]) := by
        have hll : j < s.data.toList.length := by have := HL.out; omega
        rw [List.take_succ_eq_append_getElem hll, halvesU_append]
        congr 1
      have HOW : Hid (wr.ownsRow w.heap.size 5 1 (.slice (some ⟨gb, 0, none⟩) N cap) N (u8c (halvesU (s.data.toList.take j)))) := hown
      have HBE : Hid (Below w.heap.size w wr) := hbel
      have hjb : N < 8192 := by have := HNN.out; omega
      have hp1 : (j : Int) < (s.size : Int) := by omega
      clear hown hbel
      generalize hi s[j] = cA at *
      generalize lo s[j] = cB at *
      generalize hks : u8c (halvesU (s.data.toList.take j)) = ks at *
      have HK : Hid (u8c (halvesU (s.data.toList.take j)) = ks) := hks
      clear hks
      go_wp2_with fail
      go_region_law (refine step_append_lies _ rfl (.tmp 15) (.tmp 24) 54 rfl w.heap.size 5 i0 (.int .u8 0) 1 1 Tryd.underlying54 hi0 hz0 hz1 hz2 rfl (by decide) (.slice (some ⟨gb, 0, none⟩) N cap) N ks (by simp [Act.eval]) (HOW.out.drew.alloc _) ⟨wr.heap.size, 0, none⟩ 2 2 [.int .u8 (cA.toNat : Int), .int .u8 (cB.toNat : Int)] (by simp [Act.eval]) rfl (own_two _ _ _) (by intro u hu; simp at hu; rcases hu with rfl | rfl <;> rfl) (by omega) (by unfold maxLen; omega) (by omega) (by have := HBE.out.size; simp; omega) _ rfl ?_; intro g2 cap2 W3 hown3 hgrow3 hat3 hlt3)
      all_goals
        have hb3 : Below w.heap.size w W3 := (HBE.out.drew.alloc HBE.out.size _).grown hgrow3 (by have := HBE.out.size; simp; omega) (fun k hk => (HOW.out.lt k hk).1)
        have HO3 : Hid (W3.ownsRow w.heap.size 5 1 (.slice (some ⟨g2, 0, none⟩) (N + 2) cap2) (N + 2) (ks ++ [.int .u8 (cA.toNat : Int), .int .u8 (cB.toNat : Int)])) := hown3
        have HB3 : Hid (Below w.heap.size w W3) := hb3
        clear hown3 hgrow3 hat3 hlt3 hb3
        go_wp2_with fail
        go_roundg (s.size - (j + 1))
        case measure => have := HG.out; omega
        case rel =>
          have hNN := HNN.out
          refine ⟨j + 1, g2, cap2, rfl, by omega, by go_num, by rw [show 2 * (j + 1) = N + 2 by omega], ?_, HB3.out⟩
          have e : u8c (halvesU (s.data.toList.take (j + 1))) = ks ++ [.int .u8 (cA.toNat : Int), .int .u8 (cB.toNat : Int)] := by
            rw [HS.out, ← HK.out]; simp [u8c]
          rw [e, show 2 * (j + 1) = N + 2 by omega]; exact HO3.out
    · have HBE : Hid (Below w.heap.size w wr) := hbel
      have hfin : halvesU (s.data.toList.take j) = halvesU s.data.toList := by
        rw [List.take_of_length_le (by have := HL.out; omega)]
      have hlenP : (halvesU s.data.toList).length = N := by
        have hl := HL.out
        have hNN := HNN.out
        rw [halvesU_length, hl]; omega
      have hconv := run_convert_bytes_arg (P := Tryd.prog) wr 54 5 Tryd.underlying54 Tryd.underlying5 gb 0 N cap ((halvesU s.data.toList).map (fun c => (c.toNat : Int))) (by
          rw [List.length_map, hlenP]) (fun i hi' => by
          have := hown.cellAt i (by rw [Nat.mul_one]; exact hi')
          rw [Nat.zero_add, this, hfin]
          have hlen' : i < (halvesU s.data.toList).length := by rw [hlenP]; exact hi'
          simp [u8c, List.getD, List.getElem?_eq_getElem hlen']) 9 Tryd.underlying9
      rw [strOfNums_bytes] at hconv
      have HP1 : ¬ ((j : Int) < (s.size : Int)) := by omega
      clear hown hbel hfin hlenP
      go_wp2_with fail
      go_ret
      exact ⟨rfl, HBE.out⟩
end Go.Proofs.YtenmjjpkbcogbaaDoor

/- TnC -/
namespace Go.Proofs.YtenmjjpkbcogbaaDoor
open Go.RowKit

def wayV (p : Value) (r : ByteArray) (d : Nat) (bl : Bool) : Value := .agg #[p, .string r, .int .i64 (d : Int), .bool bl]

theorem wres {w w1 : World} {x y z u : Value} {T : TypeId} (hb : Below (w.alloc (.cells #[x, y, z, u] T)).heap.size (w.alloc (.cells #[x, y, z, u] T)) w1) :
    (w1.cell? ⟨w.heap.size, 0, none⟩ = some x ∧ w1.cell? ⟨w.heap.size, 1, none⟩ = some y ∧ w1.cell? ⟨w.heap.size, 2, none⟩ = some z ∧ w1.cell? ⟨w.heap.size, 3, none⟩ = some u) ∧ (w1.frozen? ⟨w.heap.size, 0, none⟩ = false ∧ w1.frozen? ⟨w.heap.size, 1, none⟩ = false ∧ w1.frozen? ⟨w.heap.size, 2, none⟩ = false ∧ w1.frozen? ⟨w.heap.size, 3, none⟩ = false) ∧ Below w.heap.size w w1 := by
  obtain ⟨h1, h2⟩ := bcell hb
  refine ⟨⟨?_, ?_, ?_, ?_⟩, ⟨?_, ?_, ?_, ?_⟩, ((Below.refl w.heap.size w).alloc (Nat.le_refl _) _).trans (hb.mono (by simp))⟩
  · rw [h1 _ _ (by simp)]; simp
  · rw [h1 _ _ (by simp)]; simp
  · rw [h1 _ _ (by simp)]; simp
  · rw [h1 _ _ (by simp)]; simp
  · rw [h2 _ _ (by simp)]; simp
  · rw [h2 _ _ (by simp)]; simp
  · rw [h2 _ _ (by simp)]; simp
  · rw [h2 _ _ (by simp)]; simp
theorem below_set4 {n : Nat} {w w1 : World} (h : Below n w w1) (a b c d : Value) : Below n w ((((w1.setCell ⟨n, 0, none⟩ a).setCell ⟨n, 1, none⟩ b).setCell ⟨n, 2, none⟩ c).setCell ⟨n, 3, none⟩ d) :=
  (((h.setCell (Nat.le_refl _) _).setCell (Nat.le_refl _) _).setCell (Nat.le_refl _) _).setCell (Nat.le_refl _) _

theorem start_calls (u : Option Addr) (s : ByteArray) (hs : s.size ≤ 4096) (w : World) :
    Calls Tryd.prog 51 #[.pointer u, .string s] w fun e w' => e = .returned (wayV (.pointer u) (str (halvesU s.data.toList)) 0 false) ∧ Below w.heap.size w w' := by
  have HP : Hid (∀ w : World, Calls Tryd.prog 44 #[.string s] w fun e w' => e = .returned (.string (str (halvesU s.data.toList))) ∧ Below w.heap.size w w') := pathOf_calls s hs
  go_enter Tryd.func51, Tryd.ntmps51
  go_wp2_with fail
  refine (HP.out _).mono ?_
  rintro e w1 ⟨rfl, B1⟩
  obtain ⟨⟨c0, c1, c2, c3⟩, ⟨f0, f1, f2, f3⟩, hb⟩ := wres B1
  have HB1 : Hid (Below w.heap.size w w1) := hb
  clear B1 hb
  generalize hR : str (halvesU s.data.toList) = R at *
  have HR : Hid (str (halvesU s.data.toList) = R) := hR
  clear hR
  go_wp2_with fail
  exact bodyPost_ret (v := wayV (.pointer u) R 0 false) (by simp [results, Tryd.results51, go_sem, wayV, c0, c1, c2, c3]) rfl ⟨by rw [HR.out], below_set4 HB1.out _ _ _ _⟩

/-- What a key has whose way's last place is t, with r left of its path. -/
def Nd.at (t : Nd) (r : List UInt8) : List UInt8 := if t.kind ≠ 2 ∧ r = t.path then t.value else []

theorem Below.drewN {n : Nat} {w w1 : World} (h : Below n w w1) (m : Nat) : Below n w (w1.drewN m) := ⟨h.os, h.tape, h.output, h.size, h.block⟩
theorem str_beq (a b : List UInt8) : ((str a).toList == (str b).toList) = decide (a = b) := by
  rw [ByteArray.toList_eq, ByteArray.toList_eq, str_list, str_list]
  by_cases h : a = b
  · subst h; simp
  · simp [h]
theorem str_eq_nil (a : List UInt8) : ((str a).toList.isEmpty) = decide (a = []) := by
  rw [ByteArray.toList_eq, str_list]
  cases a <;> simp

theorem next_branch (b : Nat) (h v : List UInt8) (ks : Nat → Nd) (kid : Value) (kids : Nat → Value) (c : UInt8) (r : List UInt8) (hc : c.toNat < 16) (u : Option Addr) (hu : kids c.toNat = .pointer u) (hr : r.length < 4096) (d : Nat) (hd : d < 4096) (bl : Bool) (w : World) (B : Blk w b (.branch h v ks) kid kids) :
    Calls Tryd.prog 53 #[wayV (.pointer (some ⟨b, 0, none⟩)) (str (c :: r)) d bl] w fun e w' => e = .returned (wayV (.pointer u) (str r) (d + 1) false) ∧ Below w.heap.size w w' := by
  have c0 : w.cell? ⟨b, 0, none⟩ = some (.int .i64 3) := B.c0
  have ck : w.cell? ⟨b, 5 + c.toNat, none⟩ = some (.pointer u) := by rw [B.ck _ hc, hu]
  have hlt := B.lt
  obtain ⟨R, hR⟩ : ∃ R, R = str (c :: r) := ⟨_, rfl⟩
  have hsz : R.size = r.length + 1 := by rw [hR, str_size]; rfl
  have hp : 0 < R.size := by omega
  have h0 : R[0]'hp = c := by subst hR; rfl
  have hx : R.extract 1 R.size = str r := by
    subst hR
    apply Go.WideShapes.bytes_inj
    rw [Lib.extract_data, str_list, str_list]
    exact List.take_of_length_le (by rw [hsz]; simp)
  have he : R.toList.isEmpty = false := by rw [hR, str_eq_nil]; simp
  have HX : Hid (R.extract 1 R.size = str r) := hx
  have hp1 : (0 : Int) < (R.size : Int) := by omega
  have hp2 : 1 ≤ R.size := hp
  have ha := and15 c
  have hlo : lo c = c := by apply u8_ext; rw [lo_nat]; omega
  rw [hlo] at ha
  have hcI : (c.toNat : Int) < 16 := by omega
  rw [← hR]
  unfold wayV
  clear B hR hsz hx hlo hu hr
  go_enter Tryd.func53, Tryd.ntmps53
  go_wp2_with fail
  go_region
  all_goals
    go_wp2_with fail
    exact bodyPost_ret (v := wayV (.pointer u) (R.extract 1 R.size) (d + 1) false) (by simp [results, Tryd.results53, go_sem, wayV]) rfl ⟨by rw [HX.out]; rfl, (((Below.refl _ _).alloc (Nat.le_refl _) _).alloc (by simp) _).drew⟩
end Go.Proofs.YtenmjjpkbcogbaaDoor

/- TnD -/
namespace Go.Proofs.YtenmjjpkbcogbaaDoor
open Go.RowKit

theorem below_sets {n g : Nat} {w w1 : World} (h : Below n w w1) (hg : n ≤ g) (a b c d : Value) : Below n w ((((w1.setCell ⟨g, 0, none⟩ a).setCell ⟨g, 1, none⟩ b).setCell ⟨g, 2, none⟩ c).setCell ⟨g, 3, none⟩ d) :=
  (((h.setCell hg _).setCell hg _).setCell hg _).setCell hg _
theorem below_two (w : World) (o p : Obj) : Below w.heap.size w ((w.alloc o).alloc p) := ((Below.refl _ _).alloc (Nat.le_refl _) _).alloc (by simp) _
theorem str_drop (r : List UInt8) (n : Nat) : (str r).extract n (str r).size = str (r.drop n) := by
  apply Go.WideShapes.bytes_inj
  rw [Lib.extract_data, str_list, str_list]
  exact List.take_of_length_le (by rw [str_size]; simp)

set_option maxRecDepth 100000 in
set_option maxHeartbeats 400000 in
theorem next_ext (b : Nat) (h p : List UInt8) (k : Nd) (u : Option Addr) (kids : Nat → Value) (r : List UInt8) (hp : p.length ≤ 4096) (hr : r.length ≤ 4096) (hpr : sharedP r p = p.length) (d : Nat) (hd : d < 4096) (bl : Bool) (w : World) (B : Blk w b (.ext h p k) (.pointer u) kids) :
    Calls Tryd.prog 53 #[wayV (.pointer (some ⟨b, 0, none⟩)) (str r) d bl] w fun e w' => e = .returned (wayV (.pointer u) (str (r.drop p.length)) (d + p.length) true) ∧ Below w.heap.size w w' := by
  have c0 : w.cell? ⟨b, 0, none⟩ = some (.int .i64 2) := B.c0
  have c2 : w.cell? ⟨b, 2, none⟩ = some (.string (str p)) := B.c2
  have c4 : w.cell? ⟨b, 4, none⟩ = some (.pointer u) := B.c4
  have hlt := B.lt
  have HS : Hid (∀ w : World, Calls Tryd.prog 56 #[.string (str r), .string (str p)] w fun e w' => e = .returned (.int .i64 ((str p).size : Int)) ∧ ∃ n, w' = w.drewN n) := fun w => by
    have := shared_calls (str r) (str p) (by rw [str_size]; unfold maxLen; omega) (by rw [str_size]; unfold maxLen; omega) w
    rw [str_list, str_list, hpr] at this
    rw [str_size]; exact this
  have HX : Hid ((str r).extract (str p).size (str r).size = str (r.drop p.length)) := by show _ = _; rw [str_size p, str_drop]
  have hle := (sharedP_le r p).1
  rw [hpr] at hle
  have hle2 : (str p).size ≤ (str r).size := by rw [str_size, str_size]; exact hle
  have hps : (str p).size ≤ 4096 := by rw [str_size]; exact hp
  have HPS : Hid (p.length = (str p).size) := (str_size p).symm
  unfold wayV
  clear B hpr hle hp
  generalize str r = R at *
  generalize str p = P at *
  go_enter Tryd.func53, Tryd.ntmps53
  go_wp2_with fail
  go_quiet ((go_at_call 56; refine Calls.quiet_of (HS.out _)))
  go_wp2_with fail
  go_region
  all_goals
    go_wp2_with fail
    exact bodyPost_ret (v := wayV (.pointer u) (R.extract P.size R.size) (d + P.size) true) (by simp [results, Tryd.results53, go_sem, wayV]) rfl ⟨by rw [HX.out, HPS.out]; rfl, below_sets (Below.drewN (below_two w _ _) _) (Nat.le_succ _) _ _ _ _⟩

set_option maxRecDepth 100000 in
set_option maxHeartbeats 400000 in
theorem next_extEnd (b : Nat) (h p : List UInt8) (k : Nd) (kid : Value) (kids : Nat → Value) (r : List UInt8) (hp : p.length ≤ 4096) (hr : r.length ≤ 4096) (hpr : sharedP r p ≠ p.length) (d : Nat) (bl : Bool) (w : World) (B : Blk w b (.ext h p k) kid kids) :
    Calls Tryd.prog 53 #[wayV (.pointer (some ⟨b, 0, none⟩)) (str r) d bl] w fun e w' => e = .returned (wayV (.pointer none) ⟨#[]⟩ 0 false) ∧ Below w.heap.size w w' := by
  have c0 : w.cell? ⟨b, 0, none⟩ = some (.int .i64 2) := B.c0
  have c2 : w.cell? ⟨b, 2, none⟩ = some (.string (str p)) := B.c2
  have hlt := B.lt
  obtain ⟨m, hm⟩ : ∃ m : Nat, m = sharedP r p := ⟨_, rfl⟩
  have HS : Hid (∀ w : World, Calls Tryd.prog 56 #[.string (str r), .string (str p)] w fun e w' => e = .returned (.int .i64 (m : Int)) ∧ ∃ n, w' = w.drewN n) := fun w => by
    have := shared_calls (str r) (str p) (by rw [str_size]; unfold maxLen; omega) (by rw [str_size]; unfold maxLen; omega) w
    rw [str_list, str_list, ← hm] at this
    exact this
  have hne : ((m : Int) == ((str p).size : Int)) = false := beq_eq_false_iff_ne.2 (by rw [str_size, hm]; omega)
  have hps : (str p).size ≤ 4096 := by rw [str_size]; exact hp
  unfold wayV
  clear B hpr hp hm
  generalize str r = R at *
  generalize str p = P at *
  go_enter Tryd.func53, Tryd.ntmps53
  go_wp2_with fail
  go_quiet ((go_at_call 56; refine Calls.quiet_of (HS.out _)))
  go_wp2_with fail
  exact bodyPost_ret (v := wayV (.pointer none) ⟨#[]⟩ 0 false) (by simp [results, Tryd.results53, go_sem, wayV]) rfl ⟨rfl, below_sets (Below.drewN (below_two w _ _) _) (Nat.le_succ _) _ _ _ _⟩

set_option maxRecDepth 100000 in
set_option maxHeartbeats 400000 in
theorem next_leaf (b : Nat) (h p v : List UInt8) (kid : Value) (kids : Nat → Value) (r : List UInt8) (hp : p.length ≤ 4096) (d : Nat) (bl : Bool) (w : World) (B : Blk w b (.leaf h p v) kid kids) :
    Calls Tryd.prog 53 #[wayV (.pointer (some ⟨b, 0, none⟩)) (str r) d bl] w fun e w' => e = .returned (wayV (.pointer none) ⟨#[]⟩ 0 false) ∧ Below w.heap.size w w' := by
  have c0 : w.cell? ⟨b, 0, none⟩ = some (.int .i64 1) := B.c0
  have c2 : w.cell? ⟨b, 2, none⟩ = some (.string (str p)) := B.c2
  have hlt := B.lt
  have hps : (str p).size ≤ 4096 := by rw [str_size]; exact hp
  unfold wayV
  clear B hp
  generalize str r = R at *
  generalize str p = P at *
  go_enter Tryd.func53, Tryd.ntmps53
  go_wp2_with fail
  go_quiet (fail)
  go_wp2_with fail
  exact bodyPost_ret (v := wayV (.pointer none) ⟨#[]⟩ 0 false) (by simp [results, Tryd.results53, go_sem, wayV]) rfl ⟨rfl, below_sets (Below.drewN (below_two w _ _) _) (Nat.le_succ _) _ _ _ _⟩

set_option maxRecDepth 100000 in
set_option maxHeartbeats 400000 in
theorem next_branchEnd (b : Nat) (h v : List UInt8) (ks : Nat → Nd) (kid : Value) (kids : Nat → Value) (d : Nat) (bl : Bool) (w : World) (B : Blk w b (.branch h v ks) kid kids) :
    Calls Tryd.prog 53 #[wayV (.pointer (some ⟨b, 0, none⟩)) ⟨#[]⟩ d bl] w fun e w' => e = .returned (wayV (.pointer none) ⟨#[]⟩ 0 false) ∧ Below w.heap.size w w' := by
  have c0 : w.cell? ⟨b, 0, none⟩ = some (.int .i64 3) := B.c0
  have c2 : w.cell? ⟨b, 2, none⟩ = some (.string ⟨#[]⟩) := B.c2
  have hlt := B.lt
  unfold wayV
  clear B
  go_enter Tryd.func53, Tryd.ntmps53
  go_wp2_with fail
  go_quiet (fail)
  go_wp2_with fail
  exact bodyPost_ret (v := wayV (.pointer none) ⟨#[]⟩ 0 false) (by simp [results, Tryd.results53, go_sem, wayV]) rfl ⟨rfl, below_sets (Below.drewN (below_two w _ _) _) (Nat.le_succ _) _ _ _ _⟩
end Go.Proofs.YtenmjjpkbcogbaaDoor
