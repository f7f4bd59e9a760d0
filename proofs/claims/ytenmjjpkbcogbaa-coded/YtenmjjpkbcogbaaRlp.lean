/-
  Items and their codes: the plain part.
-/
import Derived.Test.YtenmjjpkbcogbaaNib
import GoSem.ClaimJoined
namespace Go.Proofs.Ytenmjjpkbcogbaa
open Go

/-- an item -/
abbrev Tree := DataW Unit
def textT (l : List UInt8) : Tree := .lit (.string l)
def listT (ks : List Tree) : Tree := .slice ks []

/-- the bytes of n, the highest first -/
def digs : Nat → Nat → List UInt8
  | 0, _ => []
  | f + 1, n => if n = 0 then [] else digs f (n / 256) ++ [UInt8.ofNat (n % 256)]
/-- the number that bytes mean -/
def be (l : List UInt8) : Nat := l.foldl (fun a c => a * 256 + c.toNat) 0

theorem digs_zero : ∀ f, digs f 0 = []
  | 0 => rfl
  | f + 1 => by simp [digs]
theorem be_snoc (l : List UInt8) (c : UInt8) : be (l ++ [c]) = be l * 256 + c.toNat := by simp [be]
theorem be_digs : ∀ f n, n < 256 ^ f → be (digs f n) = n
  | 0, n, h => by simp at h; subst h; rfl
  | f + 1, n, h => by
    unfold digs
    by_cases h0 : n = 0
    · rw [if_pos h0, h0]; rfl
    · rw [if_neg h0, be_snoc, be_digs f (n / 256) (by rw [Nat.pow_succ] at h; omega), UInt8.toNat_ofNat']
      omega
theorem digs_length : ∀ f n, (digs f n).length ≤ f
  | 0, _ => by simp [digs]
  | f + 1, n => by
    unfold digs
    split
    · simp
    · rw [List.length_append]; have := digs_length f (n / 256); simp; omega
theorem digs_pos (f n : Nat) (hf : 0 < f) (h : 0 < n) : 0 < (digs f n).length := by
  cases f with
  | zero => omega
  | succ f => unfold digs; rw [if_neg (by omega)]; simp
theorem digs_head : ∀ f n, 0 < n → n < 256 ^ f → ((digs f n).getD 0 0).toNat ≠ 0
  | 0, n, h, h2 => by simp at h2; omega
  | f + 1, n, h, h2 => by
    unfold digs
    rw [if_neg (by omega)]
    by_cases hq : n / 256 = 0
    · rw [hq, digs_zero]
      show (UInt8.ofNat (n % 256)).toNat ≠ 0
      rw [UInt8.toNat_ofNat']; omega
    · have ih := digs_head f (n / 256) (by omega) (by rw [Nat.pow_succ] at h2; omega)
      have hp : 0 < (digs f (n / 256)).length := by
        cases f with
        | zero => simp at h2; omega
        | succ f => exact digs_pos _ _ (by omega) (by omega)
      rw [List.getD_eq_getElem?_getD, List.getElem?_append_left hp, ← List.getD_eq_getElem?_getD]
      exact ih
theorem be_pos (l : List UInt8) (h : l ≠ []) (h0 : (l.getD 0 0).toNat ≠ 0) : 0 < be l := by
  have key : ∀ (l : List UInt8) (a : Nat), a ≤ l.foldl (fun a c => a * 256 + c.toNat) a := by
    intro l
    induction l with
    | nil => intro a; exact Nat.le_refl _
    | cons c r ih => intro a; exact Nat.le_trans (by omega) (ih (a * 256 + c.toNat))
  cases l with
  | nil => exact absurd rfl h
  | cons c r =>
    have := key r (0 * 256 + c.toNat)
    simp only [List.getD_cons_zero] at h0
    have e : be (c :: r) = r.foldl (fun a c => a * 256 + c.toNat) (0 * 256 + c.toNat) := rfl
    rw [e]
    omega
theorem be_lt (l : List UInt8) : be l < 256 ^ l.length := by
  have key : ∀ (l : List UInt8) (a : Nat), l.foldl (fun a c => a * 256 + c.toNat) a < (a + 1) * 256 ^ l.length := by
    intro l
    induction l with
    | nil => intro a; simp
    | cons c r ih =>
      intro a
      have h1 := ih (a * 256 + c.toNat)
      have h2 := c.toNat_lt
      have h3 : (a * 256 + c.toNat + 1) * 256 ^ r.length ≤ ((a + 1) * 256) * 256 ^ r.length := Nat.mul_le_mul_right _ (by omega)
      simp only [List.foldl_cons, List.length_cons, Nat.pow_succ]
      rw [Nat.mul_assoc] at h3
      rw [Nat.mul_comm (256 ^ r.length) 256]
      exact Nat.lt_of_lt_of_le h1 h3
  have := key l 0
  rw [Nat.zero_add, Nat.one_mul] at this
  exact this
theorem digs_be : ∀ (f : Nat) (l : List UInt8), l.length ≤ f → (l ≠ [] → (l.getD 0 0).toNat ≠ 0) → digs f (be l) = l
  | 0, l, h, _ => by
    have : l = [] := List.length_eq_zero_iff.1 (by omega)
    subst this; rfl
  | f + 1, l, h, h0 => by
    rcases List.eq_nil_or_concat l with rfl | ⟨m, c, rfl⟩
    · exact digs_zero _
    · rw [List.concat_eq_append] at *
      have hc := c.toNat_lt
      have hm : m ≠ [] → (m.getD 0 0).toNat ≠ 0 := by
        intro hm
        have := h0 (by simp)
        rwa [List.getD_eq_getElem?_getD, List.getElem?_append_left (List.length_pos_iff.2 hm), ← List.getD_eq_getElem?_getD] at this
      have ih := digs_be f m (by simp at h; omega) hm
      have hne : be (m ++ [c]) ≠ 0 := by
        have := be_pos (m ++ [c]) (by simp) (h0 (by simp))
        omega
      unfold digs
      rw [if_neg hne, be_snoc]
      have e1 : (be m * 256 + c.toNat) / 256 = be m := by omega
      have e2 : UInt8.ofNat ((be m * 256 + c.toNat) % 256) = c := by apply u8_ext; rw [UInt8.toNat_ofNat']; omega
      rw [e1, e2, ih]

def headU (kind n : Nat) : List UInt8 := if n ≤ 55 then [UInt8.ofNat (kind + n)] else UInt8.ofNat (kind + 55 + (digs 8 n).length) :: digs 8 n
def bareB (t : List UInt8) : Bool := decide (t.length = 1) && decide ((t.getD 0 0).toNat < 128)
def textC (t : List UInt8) : List UInt8 := if bareB t = true then t else headU 128 t.length ++ t
def listC (body : List UInt8) : List UInt8 := headU 192 body.length ++ body
def codeU : Nat → Tree → List UInt8
  | _, .lit (.string t) => textC t
  | d + 1, .slice ks _ => listC (ks.map (codeU d)).flatten
  | _, _ => []
def flatU : Nat → Tree → Bool
  | _, .lit (.string _) => true
  | d + 1, .slice ks [] => decide (ks.length ≤ 64) && ks.all (flatU d)
  | _, _ => false

def spanR (s : List UInt8) (list : Bool) (from_ n : Nat) : Except Nat (Bool × Nat × Nat) := if s.length - from_ < n then .error 5 else .ok (list, from_, n)
/-- of an item's head: is it a list, where its content begins, how long it is -/
def headR (s : List UInt8) : Except Nat (Bool × Nat × Nat) :=
  if s.length = 0 then .error 5 else
  if (s.getD 0 0).toNat < 128 then .ok (false, 0, 1) else
  if (s.getD 0 0).toNat - (if 192 ≤ (s.getD 0 0).toNat then 192 else 128) ≤ 55 then spanR s (decide (192 ≤ (s.getD 0 0).toNat)) 1 ((s.getD 0 0).toNat - (if 192 ≤ (s.getD 0 0).toNat then 192 else 128)) else
  if s.length - 1 < (s.getD 0 0).toNat - (if 192 ≤ (s.getD 0 0).toNat then 192 else 128) - 55 then .error 5 else
  if (s.getD 1 0).toNat = 0 ∨ be ((s.drop 1).take ((s.getD 0 0).toNat - (if 192 ≤ (s.getD 0 0).toNat then 192 else 128) - 55)) ≤ 55 then .error 7 else
  spanR s (decide (192 ≤ (s.getD 0 0).toNat)) (1 + ((s.getD 0 0).toNat - (if 192 ≤ (s.getD 0 0).toNat then 192 else 128)) - 55) (be ((s.drop 1).take ((s.getD 0 0).toNat - (if 192 ≤ (s.getD 0 0).toNat then 192 else 128) - 55)))

def takeAll (f : List UInt8 → Except Nat (Tree × Nat)) : Nat → List UInt8 → Except Nat (List Tree)
  | m, body => if body.length = 0 then .ok [] else
    match m with
    | 0 => .error 8
    | m + 1 => match f body with
      | .error e => .error e
      | .ok (k, u) => match takeAll f m (body.drop u) with
        | .error e => .error e
        | .ok ks => .ok (k :: ks)
/-- the first item of s, and how many bytes it takes; d: how many lists may still hold each other -/
def takeR : Nat → List UInt8 → Except Nat (Tree × Nat)
  | d, s => match headR s with
    | .error e => .error e
    | .ok (list, from_, n) =>
      if list = false then (if 0 < from_ ∧ bareB ((s.drop from_).take n) = true then .error 7 else .ok (textT ((s.drop from_).take n), from_ + n))
      else match d with
        | 0 => .error 8
        | d + 1 => match takeAll (takeR d) 64 ((s.drop from_).take n) with
          | .error e => .error e
          | .ok ks => .ok (listT ks, from_ + n)
def decR (s : List UInt8) : Except Nat Tree :=
  if 4096 < s.length then .error 1 else
  match takeR 6 s with
  | .error e => .error e
  | .ok (x, u) => if u < s.length then .error 6 else .ok x
end Go.Proofs.Ytenmjjpkbcogbaa
