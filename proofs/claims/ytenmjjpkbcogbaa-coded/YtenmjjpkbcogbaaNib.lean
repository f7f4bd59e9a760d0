/-
  Paths and packed paths, as lists of bytes: the plain part.
-/
import Derived.Laws.BitsAllLaws
import Derived.Laws.BytesArg
namespace Go.Proofs.Ytenmjjpkbcogbaa
open Go

def hi (c : UInt8) : UInt8 := UInt8.ofNat (c.toNat / 16)
def lo (c : UInt8) : UInt8 := UInt8.ofNat (c.toNat % 16)
def join (a b : UInt8) : UInt8 := UInt8.ofNat (16 * a.toNat + b.toNat)
theorem hi_nat (c : UInt8) : (hi c).toNat = c.toNat / 16 := by
  have := c.toNat_lt; unfold hi; rw [UInt8.toNat_ofNat']; omega
theorem lo_nat (c : UInt8) : (lo c).toNat = c.toNat % 16 := by
  have := c.toNat_lt; unfold lo; rw [UInt8.toNat_ofNat']; omega
theorem join_nat (a b : UInt8) (ha : a.toNat < 16) (hb : b.toNat < 16) : (join a b).toNat = 16 * a.toNat + b.toNat := by
  unfold join; rw [UInt8.toNat_ofNat']; omega
theorem hi_lt (c : UInt8) : (hi c).toNat < 16 := by have := c.toNat_lt; rw [hi_nat]; omega
theorem lo_lt (c : UInt8) : (lo c).toNat < 16 := by rw [lo_nat]; omega
theorem u8_ext {a b : UInt8} (h : a.toNat = b.toNat) : a = b := UInt8.toNat_inj.1 h
theorem join_halves (c : UInt8) : join (hi c) (lo c) = c := by
  apply u8_ext; rw [join_nat _ _ (hi_lt c) (lo_lt c), hi_nat, lo_nat]; omega
theorem hi_join (a b : UInt8) (ha : a.toNat < 16) (hb : b.toNat < 16) : hi (join a b) = a := by
  apply u8_ext; rw [hi_nat, join_nat a b ha hb]; omega
theorem lo_join (a b : UInt8) (ha : a.toNat < 16) (hb : b.toNat < 16) : lo (join a b) = b := by
  apply u8_ext; rw [lo_nat, join_nat a b ha hb]; omega

def pairs : List UInt8 → List UInt8
  | a :: b :: r => join a b :: pairs r
  | _ => []
def halvesU : List UInt8 → List UInt8
  | [] => []
  | c :: r => hi c :: lo c :: halvesU r
def Nibs (l : List UInt8) : Prop := ∀ x, x ∈ l → x.toNat < 16

theorem halvesU_length : ∀ l : List UInt8, (halvesU l).length = 2 * l.length
  | [] => rfl
  | c :: r => by simp only [halvesU, List.length_cons, halvesU_length r]; omega
theorem halvesU_nibs : ∀ l : List UInt8, Nibs (halvesU l)
  | [] => fun x h => by cases h
  | c :: r => fun x h => by
    simp only [halvesU, List.mem_cons] at h
    rcases h with rfl | rfl | h
    · exact hi_lt c
    · exact lo_lt c
    · exact halvesU_nibs r x h
theorem halvesU_append : ∀ l m : List UInt8, halvesU (l ++ m) = halvesU l ++ halvesU m
  | [], m => rfl
  | c :: r, m => by simp only [List.cons_append, halvesU, halvesU_append r m]
theorem pairs_halves : ∀ l : List UInt8, pairs (halvesU l) = l
  | [] => rfl
  | c :: r => by simp only [halvesU, pairs, join_halves, pairs_halves r]
theorem pairs_append : ∀ l m : List UInt8, l.length % 2 = 0 → pairs (l ++ m) = pairs l ++ pairs m
  | [], m, _ => rfl
  | [a], m, h => by simp at h
  | a :: b :: r, m, h => by
    have := pairs_append r m (by simp at h; omega)
    simp only [List.cons_append, pairs, this]
theorem halves_pairs : ∀ l : List UInt8, l.length % 2 = 0 → Nibs l → halvesU (pairs l) = l
  | [], _, _ => rfl
  | [a], h, _ => by simp at h
  | a :: b :: r, h, n => by
    have ha := n a (by simp)
    have hb := n b (by simp)
    have := halves_pairs r (by simp at h; omega) (fun x hx => n x (by simp [hx]))
    simp only [pairs, halvesU, hi_join a b ha hb, lo_join a b ha hb, this]
theorem pairs_length : ∀ l : List UInt8, (pairs l).length = l.length / 2
  | [] => rfl
  | [a] => by simp [pairs]
  | a :: b :: r => by simp only [pairs, List.length_cons, pairs_length r]; omega
theorem take_two (l : List UInt8) (j : Nat) (h : j + 1 < l.length) : l.take (j + 2) = l.take j ++ [l[j], l[j + 1]] := by
  show l.take ((j + 1) + 1) = _
  rw [List.take_succ_eq_append_getElem (show j + 1 < l.length from h), List.take_succ_eq_append_getElem (show j < l.length by omega), List.append_assoc]
  rfl

/-- the first byte's upper half -/
def markN (odd leaf : Bool) : Nat := (if leaf then 2 else 0) + (if odd then 1 else 0)
def packU (l : List UInt8) (leaf : Bool) : List UInt8 :=
  if l.length % 2 = 1 then join (UInt8.ofNat (markN true leaf)) (l.getD 0 0) :: pairs (l.drop 1) else join (UInt8.ofNat (markN false leaf)) 0 :: pairs l
/-- of which path -/
def pathU (t : List UInt8) : List UInt8 := (if (hi (t.getD 0 0)).toNat % 2 = 1 then [lo (t.getD 0 0)] else []) ++ halvesU (t.drop 1)
def leafU (t : List UInt8) : Bool := decide (2 ≤ (hi (t.getD 0 0)).toNat % 4)
def formU (t : List UInt8) : Prop := t ≠ [] ∧ (hi (t.getD 0 0)).toNat ≤ 3 ∧ ((hi (t.getD 0 0)).toNat % 2 = 0 → (lo (t.getD 0 0)).toNat = 0)

theorem packU_length (l : List UInt8) (leaf : Bool) : (packU l leaf).length = l.length / 2 + 1 := by
  unfold packU
  split
  · simp only [List.length_cons, pairs_length, List.length_drop]; omega
  · simp only [List.length_cons, pairs_length]
theorem mark_nat (odd leaf : Bool) : (UInt8.ofNat (markN odd leaf)).toNat = markN odd leaf := by cases odd <;> cases leaf <;> rfl
theorem mark_lt (odd leaf : Bool) : (UInt8.ofNat (markN odd leaf)).toNat < 16 := by cases odd <;> cases leaf <;> decide

theorem nibs_get (l : List UInt8) (h : Nibs l) (i : Nat) : (l.getD i 0).toNat < 16 := by
  rcases Nat.lt_or_ge i l.length with hi | hi
  · have e : l.getD i 0 = l[i] := by simp [List.getD, List.getElem?_eq_getElem hi]
    rw [e]; exact h _ (List.getElem_mem hi)
  · have e : l.getD i 0 = 0 := by simp [List.getD, List.getElem?_eq_none hi]
    rw [e]; decide

/-- what is packed is of its form, and is unpacked again -/
theorem pack_form (l : List UInt8) (leaf : Bool) (h : Nibs l) : formU (packU l leaf) ∧ pathU (packU l leaf) = l ∧ leafU (packU l leaf) = leaf := by
  by_cases ho : l.length % 2 = 1
  · have e : packU l leaf = join (UInt8.ofNat (markN true leaf)) (l.getD 0 0) :: pairs (l.drop 1) := by unfold packU; rw [if_pos ho]
    have h0 := nibs_get l h 0
    have hh : hi (join (UInt8.ofNat (markN true leaf)) (l.getD 0 0)) = UInt8.ofNat (markN true leaf) := hi_join _ _ (mark_lt _ _) h0
    have hl : lo (join (UInt8.ofNat (markN true leaf)) (l.getD 0 0)) = l.getD 0 0 := lo_join _ _ (mark_lt _ _) h0
    rw [e]
    refine ⟨⟨by simp, ?_, ?_⟩, ?_, ?_⟩
    · rw [List.getD_cons_zero, hh, mark_nat]; cases leaf <;> decide
    · rw [List.getD_cons_zero, hh, mark_nat]; cases leaf <;> simp [markN]
    · unfold pathU
      rw [List.getD_cons_zero, hh, mark_nat, hl, List.drop_succ_cons, List.drop_zero, halves_pairs _ (by simp; omega) (fun x hx => h x (List.mem_of_mem_drop hx))]
      rw [if_pos (by cases leaf <;> rfl)]
      cases l with
      | nil => simp at ho
      | cons a r => rfl
    · unfold leafU
      rw [List.getD_cons_zero, hh, mark_nat]; cases leaf <;> rfl
  · have e : packU l leaf = join (UInt8.ofNat (markN false leaf)) 0 :: pairs l := by unfold packU; rw [if_neg ho]
    have h0 : (0 : UInt8).toNat < 16 := by decide
    have hh : hi (join (UInt8.ofNat (markN false leaf)) 0) = UInt8.ofNat (markN false leaf) := hi_join _ _ (mark_lt _ _) h0
    have hl : lo (join (UInt8.ofNat (markN false leaf)) 0) = 0 := lo_join _ _ (mark_lt _ _) h0
    rw [e]
    refine ⟨⟨by simp, ?_, ?_⟩, ?_, ?_⟩
    · rw [List.getD_cons_zero, hh, mark_nat]; cases leaf <;> decide
    · rw [List.getD_cons_zero, hl]; intro _; rfl
    · unfold pathU
      rw [List.getD_cons_zero, hh, mark_nat, List.drop_succ_cons, List.drop_zero, halves_pairs _ (by omega) h]
      rw [if_neg (by cases leaf <;> decide)]
      rfl
    · unfold leafU
      rw [List.getD_cons_zero, hh, mark_nat]; cases leaf <;> rfl

theorem path_nibs (t : List UInt8) : Nibs (pathU t) := by
  intro x hx
  unfold pathU at hx
  rcases List.mem_append.1 hx with h | h
  · split at h
    · simp only [List.mem_singleton] at h; subst h; exact lo_lt _
    · cases h
  · exact halvesU_nibs _ x h
theorem path_length (t : List UInt8) (_h : t ≠ []) : (pathU t).length = (if (hi (t.getD 0 0)).toNat % 2 = 1 then 1 else 0) + 2 * (t.length - 1) := by
  unfold pathU
  rw [List.length_append, halvesU_length, List.length_drop]
  split <;> simp

/-- what is unpacked is packed again -/
theorem form_pack (t : List UInt8) (h : formU t) : packU (pathU t) (leafU t) = t := by
  obtain ⟨hn, h3, hz⟩ := h
  cases t with
  | nil => exact absurd rfl hn
  | cons c r =>
    simp only [List.getD_cons_zero] at h3 hz
    have hl := path_length (c :: r) (by simp)
    simp only [List.getD_cons_zero, List.length_cons] at hl
    have hcj := join_halves c
    unfold packU
    by_cases ho : (hi c).toNat % 2 = 1
    · rw [if_pos ho] at hl
      rw [if_pos (by omega)]
      have e : pathU (c :: r) = lo c :: halvesU r := by unfold pathU; simp only [List.getD_cons_zero, if_pos ho, List.drop_succ_cons, List.drop_zero, List.singleton_append]
      rw [e]
      simp only [List.getD_cons_zero, List.drop_succ_cons, List.drop_zero, pairs_halves]
      congr 1
      have : UInt8.ofNat (markN true (leafU (c :: r))) = hi c := by
        apply u8_ext
        rw [mark_nat]
        unfold leafU markN
        simp only [List.getD_cons_zero, if_true]
        by_cases h2 : 2 ≤ (hi c).toNat % 4
        · simp only [h2, decide_true, if_true]; omega
        · simp only [h2, decide_false]; simp; omega
      rw [this, hcj]
    · rw [if_neg ho] at hl
      rw [if_neg (by omega)]
      have e : pathU (c :: r) = halvesU r := by unfold pathU; simp only [List.getD_cons_zero, if_neg ho, List.drop_succ_cons, List.drop_zero, List.nil_append]
      rw [e, pairs_halves]
      congr 1
      have hlo : lo c = 0 := u8_ext (hz (by omega))
      have : UInt8.ofNat (markN false (leafU (c :: r))) = hi c := by
        apply u8_ext
        rw [mark_nat]
        unfold leafU markN
        simp only [List.getD_cons_zero]
        by_cases h2 : 2 ≤ (hi c).toNat % 4
        · simp only [h2, decide_true, if_true]; simp; omega
        · simp only [h2, decide_false]; simp; omega
      rw [this]
      rw [hlo] at hcj
      exact hcj
end Go.Proofs.Ytenmjjpkbcogbaa
