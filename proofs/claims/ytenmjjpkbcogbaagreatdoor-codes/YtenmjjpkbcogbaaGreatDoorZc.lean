import Derived.Test.YtenmjjpkbcogbaaGreatDoorZb
import GoSem.ClaimJoined
import Derived.Lib.AppendStr

/- NibB -/
namespace Go.Proofs.YtenmjjpkbcogbaaGreatDoor
open Go.RowKit
theorem str_data (s : ByteArray) : str s.data.toList = s := by unfold str; simp
theorem str_list (l : List UInt8) : (str l).data.toList = l := by unfold str; simp
theorem str_size (l : List UInt8) : (str l).size = l.length := by unfold str; simp [ByteArray.size]

theorem isEmpty_iff (q : ByteArray) : (q.toList.isEmpty = true) = (q.size = 0) := by
  rw [Lib.toList_data q, List.isEmpty_iff]
  have hl : q.data.toList.length = q.size := by simp
  rw [← hl, List.length_eq_zero_iff]
theorem isEmpty_not (q : ByteArray) : (q.toList.isEmpty = false) = ¬ (q.size = 0) := by
  rw [← isEmpty_iff, Bool.not_eq_true]
theorem nibs_extract (q : ByteArray) (h : Nibs q.data.toList) : Nibs (q.extract 1 q.size).data.toList := by
  intro x hx
  simp only [ByteArray.data_extract, Array.toList_extract, List.extract_eq_take_drop] at hx
  exact h x (List.mem_of_mem_drop (List.mem_of_mem_take hx))

end Go.Proofs.YtenmjjpkbcogbaaGreatDoor

/- Rlp -/
namespace Go.Proofs.YtenmjjpkbcogbaaGreatDoor
open Go

/-- an item -/
abbrev Tree := DataW Unit
def textT (l : List UInt8) : Tree := .lit (.string l)
def listT (ks : List Tree) : Tree := .slice ks []

/-- the bytes of n, the highest first -/
def digs : Nat → Nat → List UInt8
  | 0, _ => []
  | f + 1, n => if n = 0 then [] else digs f (n / 256) ++ [UInt8.ofNat (n % 256)]
/-- the number that bytes mean -/
def be (l : List UInt8) : Nat := l.foldl (fun a c => a * 256 + c.toNat) 0

theorem digs_zero : ∀ f, digs f 0 = []
  | 0 => rfl
  | f + 1 => by simp [digs]
theorem be_snoc (l : List UInt8) (c : UInt8) : be (l ++ [c]) = be l * 256 + c.toNat := by simp [be]
theorem be_digs : ∀ f n, n < 256 ^ f → be (digs f n) = n
  | 0, n, h => by simp at h; subst h; rfl
  | f + 1, n, h => by
    unfold digs
    by_cases h0 : n = 0
    · rw [if_pos h0, h0]; rfl
    · rw [if_neg h0, be_snoc, be_digs f (n / 256) (by rw [Nat.pow_succ] at h; omega), UInt8.toNat_ofNat']
      omega
theorem digs_length : ∀ f n, (digs f n).length ≤ f
  | 0, _ => by simp [digs]
  | f + 1, n => by
    unfold digs
    split
    · simp
    · rw [List.length_append]; have := digs_length f (n / 256); simp; omega
theorem digs_pos (f n : Nat) (hf : 0 < f) (h : 0 < n) : 0 < (digs f n).length := by
  cases f with
  | zero => omega
  | succ f => unfold digs; rw [if_neg (by omega)]; simp
theorem digs_head : ∀ f n, 0 < n → n < 256 ^ f → ((digs f n).getD 0 0).toNat ≠ 0
  | 0, n, h, h2 => by simp at h2; omega
  | f + 1, n, h, h2 => by
    unfold digs
    rw [if_neg (by omega)]
    by_cases hq : n / 256 = 0
    · rw [hq, digs_zero]
      show (UInt8.ofNat (n % 256)).toNat ≠ 0
      rw [UInt8.toNat_ofNat']; omega
    · have ih := digs_head f (n / 256) (by omega) (by rw [Nat.pow_succ] at h2; omega)
      have hp : 0 < (digs f (n / 256)).length := by
        cases f with
        | zero => simp at h2; omega
        | succ f => exact digs_pos _ _ (by omega) (by omega)
      rw [List.getD_eq_getElem?_getD, List.getElem?_append_left hp, ← List.getD_eq_getElem?_getD]
      exact ih
theorem be_pos (l : List UInt8) (h : l ≠ []) (h0 : (l.getD 0 0).toNat ≠ 0) : 0 < be l := by
  have key : ∀ (l : List UInt8) (a : Nat), a ≤ l.foldl (fun a c => a * 256 + c.toNat) a := by
    intro l
    induction l with
    | nil => intro a; exact Nat.le_refl _
    | cons c r ih => intro a; exact Nat.le_trans (by omega) (ih (a * 256 + c.toNat))
  cases l with
  | nil => exact absurd rfl h
  | cons c r =>
    have := key r (0 * 256 + c.toNat)
    simp only [List.getD_cons_zero] at h0
    have e : be (c :: r) = r.foldl (fun a c => a * 256 + c.toNat) (0 * 256 + c.toNat) := rfl
    rw [e]
    omega
theorem be_lt (l : List UInt8) : be l < 256 ^ l.length := by
  have key : ∀ (l : List UInt8) (a : Nat), l.foldl (fun a c => a * 256 + c.toNat) a < (a + 1) * 256 ^ l.length := by
    intro l
    induction l with
    | nil => intro a; simp
    | cons c r ih =>
      intro a
      have h1 := ih (a * 256 + c.toNat)
      have h2 := c.toNat_lt
      have h3 : (a * 256 + c.toNat + 1) * 256 ^ r.length ≤ ((a + 1) * 256) * 256 ^ r.length := Nat.mul_le_mul_right _ (by omega)
      simp only [List.foldl_cons, List.length_cons, Nat.pow_succ]
      rw [Nat.mul_assoc] at h3
      rw [Nat.mul_comm (256 ^ r.length) 256]
      exact Nat.lt_of_lt_of_le h1 h3
  have := key l 0
  rw [Nat.zero_add, Nat.one_mul] at this
  exact this
theorem digs_be : ∀ (f : Nat) (l : List UInt8), l.length ≤ f → (l ≠ [] → (l.getD 0 0).toNat ≠ 0) → digs f (be l) = l
  | 0, l, h, _ => by
    have : l = [] := List.length_eq_zero_iff.1 (by omega)
    subst this; rfl
  | f + 1, l, h, h0 => by
    rcases List.eq_nil_or_concat l with rfl | ⟨m, c, rfl⟩
    · exact digs_zero _
    · rw [List.concat_eq_append] at *
      have hc := c.toNat_lt
      have hm : m ≠ [] → (m.getD 0 0).toNat ≠ 0 := by
        intro hm
        have := h0 (by simp)
        rwa [List.getD_eq_getElem?_getD, List.getElem?_append_left (List.length_pos_iff.2 hm), ← List.getD_eq_getElem?_getD] at this
      have ih := digs_be f m (by simp at h; omega) hm
      have hne : be (m ++ [c]) ≠ 0 := by
        have := be_pos (m ++ [c]) (by simp) (h0 (by simp))
        omega
      unfold digs
      rw [if_neg hne, be_snoc]
      have e1 : (be m * 256 + c.toNat) / 256 = be m := by omega
      have e2 : UInt8.ofNat ((be m * 256 + c.toNat) % 256) = c := by apply u8_ext; rw [UInt8.toNat_ofNat']; omega
      rw [e1, e2, ih]

def headU (kind n : Nat) : List UInt8 := if n ≤ 55 then [UInt8.ofNat (kind + n)] else UInt8.ofNat (kind + 55 + (digs 8 n).length) :: digs 8 n
def bareB (t : List UInt8) : Bool := decide (t.length = 1) && decide ((t.getD 0 0).toNat < 128)
def textC (t : List UInt8) : List UInt8 := if bareB t = true then t else headU 128 t.length ++ t
def listC (body : List UInt8) : List UInt8 := headU 192 body.length ++ body
def codeU : Nat → Tree → List UInt8
  | _, .lit (.string t) => textC t
  | d + 1, .slice ks _ => listC (ks.map (codeU d)).flatten
  | _, _ => []
def flatU : Nat → Tree → Bool
  | _, .lit (.string _) => true
  | d + 1, .slice ks [] => decide (ks.length ≤ 64) && ks.all (flatU d)
  | _, _ => false

def spanR (s : List UInt8) (list : Bool) (from_ n : Nat) : Except Nat (Bool × Nat × Nat) := if s.length - from_ < n then .error 5 else .ok (list, from_, n)
/-- of an item's head: is it a list, where its content begins, how long it is -/
def headR (s : List UInt8) : Except Nat (Bool × Nat × Nat) :=
  if s.length = 0 then .error 5 else
  if (s.getD 0 0).toNat < 128 then .ok (false, 0, 1) else
  if (s.getD 0 0).toNat - (if 192 ≤ (s.getD 0 0).toNat then 192 else 128) ≤ 55 then spanR s (decide (192 ≤ (s.getD 0 0).toNat)) 1 ((s.getD 0 0).toNat - (if 192 ≤ (s.getD 0 0).toNat then 192 else 128)) else
  if s.length - 1 < (s.getD 0 0).toNat - (if 192 ≤ (s.getD 0 0).toNat then 192 else 128) - 55 then .error 5 else
  if (s.getD 1 0).toNat = 0 ∨ be ((s.drop 1).take ((s.getD 0 0).toNat - (if 192 ≤ (s.getD 0 0).toNat then 192 else 128) - 55)) ≤ 55 then .error 7 else
  spanR s (decide (192 ≤ (s.getD 0 0).toNat)) (1 + ((s.getD 0 0).toNat - (if 192 ≤ (s.getD 0 0).toNat then 192 else 128)) - 55) (be ((s.drop 1).take ((s.getD 0 0).toNat - (if 192 ≤ (s.getD 0 0).toNat then 192 else 128) - 55)))

def takeAll (f : List UInt8 → Except Nat (Tree × Nat)) : Nat → List UInt8 → Except Nat (List Tree)
  | m, body => if body.length = 0 then .ok [] else
    match m with
    | 0 => .error 8
    | m + 1 => match f body with
      | .error e => .error e
      | .ok (k, u) => match takeAll f m (body.drop u) with
        | .error e => .error e
        | .ok ks => .ok (k :: ks)
/-- the first item of s, and how many bytes it takes; d: how many lists may still hold each other -/
def takeR : Nat → List UInt8 → Except Nat (Tree × Nat)
  | d, s => match headR s with
    | .error e => .error e
    | .ok (list, from_, n) =>
      if list = false then (if 0 < from_ ∧ bareB ((s.drop from_).take n) = true then .error 7 else .ok (textT ((s.drop from_).take n), from_ + n))
      else match d with
        | 0 => .error 8
        | d + 1 => match takeAll (takeR d) 64 ((s.drop from_).take n) with
          | .error e => .error e
          | .ok ks => .ok (listT ks, from_ + n)
def decR (s : List UInt8) : Except Nat Tree :=
  if 4096 < s.length then .error 1 else
  match takeR 6 s with
  | .error e => .error e
  | .ok (x, u) => if u < s.length then .error 6 else .ok x
end Go.Proofs.YtenmjjpkbcogbaaGreatDoor

/- RlpT -/
namespace Go.Proofs.YtenmjjpkbcogbaaGreatDoor
open Go

theorem getD_cons (s : List UInt8) (h : s.length ≠ 0) : s = s.getD 0 0 :: s.drop 1 := by
  cases s with
  | nil => simp at h
  | cons c r => rfl
theorem headU_length_pos (kind n : Nat) : 0 < (headU kind n).length := by unfold headU; split <;> simp

theorem spanR_ok {s : List UInt8} {l l' : Bool} {f n f' n' : Nat} (h : spanR s l f n = .ok (l', f', n')) : l' = l ∧ f' = f ∧ n' = n ∧ ¬ s.length - f < n := by
  unfold spanR at h
  split at h
  · cases h
  · cases h; exact ⟨rfl, rfl, rfl, ‹_›⟩

/-- a head that is read is the content's own -/
theorem headR_ok (s : List UInt8) (l : Bool) (f n : Nat) (h : headR s = .ok (l, f, n)) :
    s.length ≠ 0 ∧ ((l = false ∧ f = 0 ∧ n = 1 ∧ (s.getD 0 0).toNat < 128) ∨ (1 ≤ f ∧ f + n ≤ s.length ∧ s.take f = headU (if l then 192 else 128) n)) := by
  unfold headR at h
  by_cases h0 : s.length = 0
  · rw [if_pos h0] at h; cases h
  rw [if_neg h0] at h
  refine ⟨h0, ?_⟩
  have hc := getD_cons s h0
  have hb := (s.getD 0 0).toNat_lt
  by_cases h1 : (s.getD 0 0).toNat < 128
  · rw [if_pos h1] at h
    cases h
    exact .inl ⟨rfl, rfl, rfl, h1⟩
  rw [if_neg h1] at h
  right
  generalize hbase : (if 192 ≤ (s.getD 0 0).toNat then 192 else 128) = base at h
  have hkind : (if (decide (192 ≤ (s.getD 0 0).toNat)) = true then 192 else 128) = base := by rw [← hbase]; simp
  have hge : base ≤ (s.getD 0 0).toNat := by rw [← hbase]; split <;> omega
  by_cases h2 : (s.getD 0 0).toNat - base ≤ 55
  · rw [if_pos h2] at h
    obtain ⟨rfl, rfl, rfl, h3⟩ := spanR_ok h
    refine ⟨by omega, by omega, ?_⟩
    rw [hkind]
    unfold headU
    rw [if_pos h2, hc]
    show [s.getD 0 0] = _
    congr 1
    apply u8_ext
    rw [UInt8.toNat_ofNat']
    have e : ((s.getD 0 0) :: s.drop 1).getD 0 0 = s.getD 0 0 := rfl
    rw [e]; omega
  rw [if_neg h2] at h
  by_cases h3 : s.length - 1 < (s.getD 0 0).toNat - base - 55
  · rw [if_pos h3] at h; cases h
  rw [if_neg h3] at h
  have hk8 : (s.getD 0 0).toNat - base - 55 ≤ 8 := by rw [← hbase]; split <;> omega
  have hfk : 1 + ((s.getD 0 0).toNat - base) - 55 = 1 + ((s.getD 0 0).toNat - base - 55) := by omega
  rw [hfk] at h
  have hcb : (s.getD 0 0).toNat = base + 55 + ((s.getD 0 0).toNat - base - 55) := by omega
  have hk1 : 1 ≤ (s.getD 0 0).toNat - base - 55 := by omega
  generalize hk : (s.getD 0 0).toNat - base - 55 = k at *
  have hdl : ((s.drop 1).take k).length = k := by rw [List.length_take, List.length_drop]; omega
  by_cases h4 : (s.getD 1 0).toNat = 0 ∨ be ((s.drop 1).take k) ≤ 55
  · rw [if_pos h4] at h; cases h
  rw [if_neg h4] at h
  obtain ⟨rfl, rfl, rfl, h5⟩ := spanR_ok h
  refine ⟨by omega, by omega, ?_⟩
  rw [hkind]
  have hdg : digs 8 (be ((s.drop 1).take k)) = (s.drop 1).take k := digs_be 8 _ (by omega) (fun _ => by
    intro hz
    apply h4
    left
    have e : ((s.drop 1).take k).getD 0 0 = s.getD 1 0 := by
      rw [List.getD_eq_getElem?_getD, List.getElem?_take, if_pos (by omega), List.getElem?_drop, List.getD_eq_getElem?_getD]
    rw [e] at hz; exact hz)
  unfold headU
  rw [if_neg (by omega), hdg, hdl]
  conv => lhs; rw [hc]
  rw [Nat.add_comm 1 k, List.take_succ_cons]
  congr 1
  apply u8_ext
  rw [UInt8.toNat_ofNat']
  omega

theorem takeAll_ok (f : List UInt8 → Except Nat (Tree × Nat)) (code : Tree → List UInt8) (fl : Tree → Bool)
    (hf : ∀ s x u, f s = .ok (x, u) → 0 < u ∧ u ≤ s.length ∧ code x = s.take u ∧ fl x = true) :
    ∀ (m : Nat) (body : List UInt8) (ks : List Tree), takeAll f m body = .ok ks → (ks.map code).flatten = body ∧ ks.all fl = true ∧ ks.length ≤ m
  | 0, body, ks, h => by
    unfold takeAll at h
    by_cases h0 : body.length = 0
    · rw [if_pos h0] at h; cases h
      exact ⟨(List.length_eq_zero_iff.1 h0).symm, rfl, Nat.le_refl _⟩
    · rw [if_neg h0] at h; cases h
  | m + 1, body, ks, h => by
    unfold takeAll at h
    by_cases h0 : body.length = 0
    · rw [if_pos h0] at h; cases h
      exact ⟨(List.length_eq_zero_iff.1 h0).symm, rfl, Nat.zero_le _⟩
    · rw [if_neg h0] at h
      simp only at h
      cases hk : f body with
      | error e => rw [hk] at h; cases h
      | ok ku =>
        obtain ⟨k, u⟩ := ku
        rw [hk] at h
        simp only at h
        cases hr : takeAll f m (body.drop u) with
        | error e => rw [hr] at h; cases h
        | ok ks' =>
          rw [hr] at h
          cases h
          obtain ⟨h1, h2, h3, h4⟩ := hf _ _ _ hk
          obtain ⟨i1, i2, i3⟩ := takeAll_ok f code fl hf m _ _ hr
          refine ⟨?_, ?_, by simp; omega⟩
          · rw [List.map_cons, List.flatten_cons, h3, i1, List.take_append_drop]
          · rw [List.all_cons, h4, i2]; rfl

/-- WHAT IS DECODED IS ENCODED AGAIN -/
theorem takeR_ok : ∀ (d : Nat) (s : List UInt8) (x : Tree) (u : Nat), takeR d s = .ok (x, u) → 0 < u ∧ u ≤ s.length ∧ codeU d x = s.take u ∧ flatU d x = true := by
  intro d
  induction d with
  | zero =>
    intro s x u h
    unfold takeR at h
    cases hh : headR s with
    | error e => rw [hh] at h; cases h
    | ok lfn =>
      obtain ⟨l, f, n⟩ := lfn
      rw [hh] at h
      simp only at h
      obtain ⟨hs0, hcase⟩ := headR_ok s l f n hh
      cases l with
      | true => simp at h
      | false =>
        rw [if_pos rfl] at h
        split at h
        · cases h
        · rename_i hnb
          cases h
          rcases hcase with ⟨_, rfl, rfl, hlt⟩ | ⟨hf1, hfn, hhd⟩
          · refine ⟨by omega, by omega, ?_, rfl⟩
            show textC _ = _
            have hb : bareB ((s.drop 0).take 1) = true := by
              rw [getD_cons s hs0]
              unfold bareB
              simp only [List.drop_zero, List.take_succ_cons, List.take_zero, List.getD_cons_zero]
              simp
              simpa using hlt
            unfold textC; rw [if_pos hb]; simp
          · refine ⟨by omega, hfn, ?_, rfl⟩
            show textC _ = _
            have hb : ¬ bareB ((s.drop f).take n) = true := fun hb => hnb ⟨by omega, hb⟩
            have hl : ((s.drop f).take n).length = n := by rw [List.length_take, List.length_drop]; omega
            unfold textC; rw [if_neg hb, hl, ← (show headU (if false = true then 192 else 128) n = headU 128 n from rfl), ← hhd, List.take_add]
  | succ d ih =>
    intro s x u h
    unfold takeR at h
    cases hh : headR s with
    | error e => rw [hh] at h; cases h
    | ok lfn =>
      obtain ⟨l, f, n⟩ := lfn
      rw [hh] at h
      simp only at h
      obtain ⟨hs0, hcase⟩ := headR_ok s l f n hh
      cases l with
      | true =>
        simp only [Bool.true_eq_false, if_false] at h
        rcases hcase with ⟨hl, _⟩ | ⟨hf1, hfn, hhd⟩
        · cases hl
        cases hk : takeAll (takeR d) 64 ((s.drop f).take n) with
        | error e => rw [hk] at h; cases h
        | ok ks =>
          rw [hk] at h
          cases h
          obtain ⟨i1, i2, i3⟩ := takeAll_ok (takeR d) (codeU d) (flatU d) (fun s x u h => ih s x u h) 64 _ _ hk
          have hl : ((s.drop f).take n).length = n := by rw [List.length_take, List.length_drop]; omega
          refine ⟨by omega, hfn, ?_, ?_⟩
          · show listC _ = _
            rw [i1]; unfold listC; rw [hl, ← (show headU (if true = true then 192 else 128) n = headU 192 n from rfl), ← hhd, List.take_add]
          · show (decide (ks.length ≤ 64) && ks.all (flatU d)) = true
            rw [i2, decide_eq_true i3]; rfl
      | false =>
        rw [if_pos rfl] at h
        split at h
        · cases h
        · rename_i hnb
          cases h
          rcases hcase with ⟨_, rfl, rfl, hlt⟩ | ⟨hf1, hfn, hhd⟩
          · refine ⟨by omega, by omega, ?_, rfl⟩
            show textC _ = _
            have hb : bareB ((s.drop 0).take 1) = true := by
              rw [getD_cons s hs0]
              unfold bareB
              simp only [List.drop_zero, List.take_succ_cons, List.take_zero, List.getD_cons_zero]
              simp
              simpa using hlt
            unfold textC; rw [if_pos hb]; simp
          · refine ⟨by omega, hfn, ?_, rfl⟩
            show textC _ = _
            have hb : ¬ bareB ((s.drop f).take n) = true := fun hb => hnb ⟨by omega, hb⟩
            have hl : ((s.drop f).take n).length = n := by rw [List.length_take, List.length_drop]; omega
            unfold textC; rw [if_neg hb, hl, ← (show headU (if false = true then 192 else 128) n = headU 128 n from rfl), ← hhd, List.take_add]

def kindN (l : Bool) : Nat := if l then 192 else 128
/-- a head that was made is read -/
theorem headR_made (l : Bool) (n : Nat) (rest : List UInt8) (hn : n < 256 ^ 8) (hr : n ≤ rest.length) : headR (headU (kindN l) n ++ rest) = .ok (l, (headU (kindN l) n).length, n) := by
  have hkind : ∀ b : Nat, kindN l ≤ b → (l = false → b < 192) → (if 192 ≤ b then 192 else 128) = kindN l ∧ decide (192 ≤ b) = l := by
    intro b h1 h2
    cases l with
    | false => have := h2 rfl; rw [if_neg (by omega)]; exact ⟨rfl, decide_eq_false (by omega)⟩
    | true => have h1' : 192 ≤ b := h1; rw [if_pos h1']; exact ⟨rfl, decide_eq_true h1'⟩
  have hk192 : kindN l ≤ 192 := by cases l <;> decide
  have hk128 : 128 ≤ kindN l := by cases l <;> decide
  have hkf : l = false → kindN l = 128 := by intro h; rw [h]; rfl
  by_cases h55 : n ≤ 55
  · have e : headU (kindN l) n = [UInt8.ofNat (kindN l + n)] := by unfold headU; rw [if_pos h55]
    have eb : (UInt8.ofNat (kindN l + n)).toNat = kindN l + n := by rw [UInt8.toNat_ofNat']; omega
    obtain ⟨k1, k2⟩ := hkind (kindN l + n) (by omega) (fun h => by rw [hkf h]; omega)
    rw [e]
    unfold headR
    simp only [List.singleton_append, List.getD_cons_zero, eb, k1, k2, List.length_cons]
    rw [if_neg (by omega), if_neg (by omega), if_pos (by omega), show kindN l + n - kindN l = n by omega]
    unfold spanR
    rw [if_neg (by simp; omega)]
    rfl
  · have hp : 0 < (digs 8 n).length := digs_pos 8 n (by omega) (by omega)
    have h8 := digs_length 8 n
    have e : headU (kindN l) n = UInt8.ofNat (kindN l + 55 + (digs 8 n).length) :: digs 8 n := by unfold headU; rw [if_neg h55]
    have eb : (UInt8.ofNat (kindN l + 55 + (digs 8 n).length)).toNat = kindN l + 55 + (digs 8 n).length := by rw [UInt8.toNat_ofNat']; omega
    obtain ⟨k1, k2⟩ := hkind (kindN l + 55 + (digs 8 n).length) (by omega) (fun h => by rw [hkf h]; omega)
    have hbe := be_digs 8 n hn
    have hhd := digs_head 8 n (by omega) hn
    rw [e]
    generalize hD : digs 8 n = D at *
    have e1 : kindN l + 55 + D.length - kindN l = 55 + D.length := by omega
    have e2 : 55 + D.length - 55 = D.length := by omega
    have e3 : 1 + (55 + D.length) - 55 = 1 + D.length := by omega
    unfold headR
    simp only [List.cons_append, List.getD_cons_zero, eb, k1, k2, List.length_cons, List.drop_succ_cons, List.drop_zero, e1, e2, e3, List.take_left, hbe]
    rw [if_neg (by omega), if_neg (by omega), if_neg (by omega), if_neg (by simp), if_neg]
    · unfold spanR
      rw [if_neg (by simp; omega), Nat.add_comm 1]
    · rintro (h | h)
      · apply hhd
        rw [List.getD_cons_succ, List.getD_eq_getElem?_getD, List.getElem?_append_left hp, ← List.getD_eq_getElem?_getD] at h
        exact h
      · omega

theorem textC_pos (t : List UInt8) : 0 < (textC t).length := by
  unfold textC
  split
  · rename_i h; unfold bareB at h; simp at h; omega
  · rw [List.length_append]; have := headU_length_pos 128 t.length; omega
theorem take_text (d : Nat) (t r : List UInt8) (hn : t.length < 256 ^ 8) : takeR d (textC t ++ r) = .ok (textT t, (textC t).length) := by
  by_cases hb : bareB t = true
  · have e : textC t = t := by unfold textC; rw [if_pos hb]
    have hb' := hb
    unfold bareB at hb'
    rw [Bool.and_eq_true, decide_eq_true_eq, decide_eq_true_eq] at hb'
    obtain ⟨hl, hlt⟩ := hb'
    rw [e]
    match t, hl with
    | [c], _ =>
      have hh : headR ([c] ++ r) = .ok (false, 0, 1) := by
        unfold headR
        simp only [List.singleton_append, List.getD_cons_zero, List.length_cons]
        simp only [List.getD_cons_zero] at hlt
        rw [if_neg (by omega), if_pos hlt]
      unfold takeR
      rw [hh]
      simp
  · have e : textC t = headU 128 t.length ++ t := by unfold textC; rw [if_neg hb]
    have hh := headR_made false t.length (t ++ r) hn (by simp)
    have hk : kindN false = 128 := rfl
    rw [hk] at hh
    rw [e, List.append_assoc]
    unfold takeR
    rw [hh]
    simp only
    rw [if_pos trivial, List.drop_left, List.take_left, if_neg (fun h => hb h.2), List.length_append]

theorem flatU_inv (d : Nat) (x : Tree) (h : flatU d x = true) : (∃ t, x = textT t) ∨ (∃ e ks, d = e + 1 ∧ x = listT ks ∧ ks.length ≤ 64 ∧ ks.all (flatU e) = true) := by
  unfold flatU at h
  split at h
  · exact .inl ⟨_, rfl⟩
  · rw [Bool.and_eq_true, decide_eq_true_eq] at h
    exact .inr ⟨_, _, rfl, rfl, h.1, h.2⟩
  · cases h
theorem codeU_text (d : Nat) (t : List UInt8) : codeU d (textT t) = textC t := by unfold textT; simp only [codeU]
theorem codeU_list (d : Nat) (ks : List Tree) : codeU (d + 1) (listT ks) = listC (ks.map (codeU d)).flatten := by unfold listT; simp only [codeU]
theorem codeU_pos (d : Nat) (x : Tree) (h : flatU d x = true) : 0 < (codeU d x).length := by
  rcases flatU_inv d x h with ⟨t, rfl⟩ | ⟨e, ks, rfl, rfl, _, _⟩
  · rw [codeU_text]; exact textC_pos t
  · rw [codeU_list]; unfold listC; rw [List.length_append]; have := headU_length_pos 192 (ks.map (codeU e)).flatten.length; omega

theorem takeAll_made (f : List UInt8 → Except Nat (Tree × Nat)) (code : Tree → List UInt8)
    (ks : List Tree) : ∀ (m : Nat), ks.length ≤ m → (∀ x, x ∈ ks → 0 < (code x).length ∧ ∀ r, f (code x ++ r) = .ok (x, (code x).length)) → takeAll f m (ks.map code).flatten = .ok ks := by
  induction ks with
  | nil => intro m _ _; unfold takeAll; rw [if_pos (by simp)]
  | cons k ks ih =>
    intro m hm hf
    obtain ⟨hp, hk⟩ := hf k (by simp)
    cases m with
    | zero => simp at hm
    | succ m =>
      have hi := ih m (by simp at hm; omega) (fun x hx => hf x (by simp [hx]))
      unfold takeAll
      rw [List.map_cons, List.flatten_cons, if_neg (by rw [List.length_append]; omega)]
      simp only
      rw [hk]
      simp only
      rw [List.drop_left, hi]

theorem part_le (l : List (List UInt8)) : ∀ c, c ∈ l → c.length ≤ l.flatten.length := by
  induction l with
  | nil => intro c h; cases h
  | cons a l ih =>
    intro c h
    rw [List.flatten_cons, List.length_append]
    rcases List.mem_cons.1 h with rfl | h
    · omega
    · have := ih c h; omega

/-- WHAT IS ENCODED IS DECODED AGAIN -/
theorem takeR_made : ∀ (d : Nat) (x : Tree) (r : List UInt8), flatU d x = true → (codeU d x).length < 256 ^ 8 → takeR d (codeU d x ++ r) = .ok (x, (codeU d x).length) := by
  intro d
  induction d with
  | zero =>
    intro x r hx hn
    rcases flatU_inv 0 x hx with ⟨t, rfl⟩ | ⟨e, ks, he, _⟩
    · rw [codeU_text] at hn
      rw [codeU_text]
      refine take_text 0 t r ?_
      unfold textC at hn
      split at hn
      · exact hn
      · rw [List.length_append] at hn; omega
    · omega
  | succ d ih =>
    intro x r hx hn
    rcases flatU_inv (d + 1) x hx with ⟨t, rfl⟩ | ⟨e, ks, he, rfl, h64, hall⟩
    · rw [codeU_text] at hn
      rw [codeU_text]
      refine take_text (d + 1) t r ?_
      unfold textC at hn
      split at hn
      · exact hn
      · rw [List.length_append] at hn; omega
    · obtain rfl : e = d := by omega
      rw [codeU_list] at hn
      rw [codeU_list]
      have hbl : (ks.map (codeU e)).flatten.length < 256 ^ 8 := by unfold listC at hn; rw [List.length_append] at hn; omega
      have hka := takeAll_made (takeR e) (codeU e) ks 64 h64 (fun x hxm => by
        have hf := List.all_eq_true.1 hall x hxm
        refine ⟨codeU_pos e x hf, fun r => ih x r hf ?_⟩
        have := part_le (ks.map (codeU e)) (codeU e x) (List.mem_map_of_mem hxm)
        omega)
      generalize hB : (ks.map (codeU e)).flatten = body at *
      have hh := headR_made true body.length (body ++ r) hbl (by simp)
      have hk : kindN true = 192 := rfl
      rw [hk] at hh
      unfold listC
      rw [List.append_assoc]
      unfold takeR
      rw [hh]
      simp only [Bool.true_eq_false, if_false]
      rw [List.drop_left, List.take_left, hka]
      simp only [List.length_append]

/-- of a whole code -/
theorem decR_made (x : Tree) (h : flatU 6 x = true) (hn : (codeU 6 x).length ≤ 4096) : decR (codeU 6 x) = .ok x := by
  have := takeR_made 6 x [] h (by omega)
  rw [List.append_nil] at this
  unfold decR
  rw [if_neg (by omega), this]
  simp
theorem decR_ok (s : List UInt8) (x : Tree) (h : decR s = .ok x) : codeU 6 x = s ∧ flatU 6 x = true ∧ s.length ≤ 4096 := by
  unfold decR at h
  by_cases h1 : 4096 < s.length
  · rw [if_pos h1] at h; cases h
  rw [if_neg h1] at h
  cases ht : takeR 6 s with
  | error e => rw [ht] at h; cases h
  | ok xu =>
    obtain ⟨y, u⟩ := xu
    rw [ht] at h
    simp only at h
    obtain ⟨_, h2, h3, h4⟩ := takeR_ok 6 s y u ht
    by_cases h5 : u < s.length
    · rw [if_pos h5] at h; cases h
    · rw [if_neg h5] at h; cases h
      refine ⟨?_, h4, by omega⟩
      rw [h3, List.take_of_length_le (by omega)]
end Go.Proofs.YtenmjjpkbcogbaaGreatDoor

/- RlpA -/
namespace Go.Proofs.YtenmjjpkbcogbaaGreatDoor
open Go.RowKit

theorem conv_one (W : World) (x : Int) : (convert 185 9 (.slice (some ⟨W.heap.size, 0, none⟩) 1 1)).run Tryz.prog (W.alloc (.cells #[.int .u8 x] 5)) = .ok (.string (strOfNums [x])) (W.alloc (.cells #[.int .u8 x] 5)) :=
  run_convert_bytes_arg (P := Tryz.prog) _ 185 5 Tryz.underlying185 Tryz.underlying5 W.heap.size 0 1 1 [x] rfl (fun i hi => by
    have : i = 0 := by omega
    subst this
    simp) 9 Tryz.underlying9
theorem nums_one (n : Nat) (h : n < 256) : strOfNums [(n : Int)] = str [UInt8.ofNat n] := by
  have e : ([(n : Int)] : List Int) = [UInt8.ofNat n].map (fun c => (c.toNat : Int)) := by
    simp only [List.map_cons, List.map_nil, UInt8.toNat_ofNat']; congr 1; omega
  rw [e, strOfNums_bytes]
theorem str_append (a b : List UInt8) : str a ++ str b = str (a ++ b) := by
  have h : (str a ++ str b).data.toList = (str (a ++ b)).data.toList := by simp [str_list]
  rw [← str_data (str a ++ str b), h, str_data]

theorem bare_calls (s : ByteArray) (w : World) :
    Calls Tryz.prog 231 #[.string s] w fun e w' => e = .returned (.bool (bareB s.data.toList)) ∧ w' = w := by
  have hl : s.data.toList.length = s.size := by simp
  by_cases h1 : s.size = 1
  · have h1' : ((s.size : Int) == 1) = true := beq_iff_eq.2 (by omega)
    have hp : 0 < s.size := by omega
    have e0 : s.data.toList.getD 0 0 = s[0] := by rw [List.getD_eq_getElem?_getD, List.getElem?_eq_getElem (by simpa using hp)]; rfl
    have hb : bareB s.data.toList = decide (((s[0]).toNat : Int) < 128) := by
      unfold bareB
      rw [hl, e0, decide_eq_true h1, Bool.true_and]
      by_cases h : (s[0]).toNat < 128
      · rw [decide_eq_true h, decide_eq_true (by omega)]
      · rw [decide_eq_false h, decide_eq_false (by omega)]
    have HB : Hid (bareB s.data.toList = decide (((s[0]).toNat : Int) < 128)) := hb
    clear hb hl e0 h1
    go_enter Tryz.func231, Tryz.ntmps231
    go_wp2
    go_ret
    exact ⟨by rw [HB.out]; rfl, rfl⟩
  · have h1' : ((s.size : Int) == 1) = false := beq_eq_false_iff_ne.2 (by omega)
    have hb : bareB s.data.toList = false := by
      unfold bareB
      rw [hl, decide_eq_false h1]; rfl
    have HB : Hid (bareB s.data.toList = false) := hb
    clear hb hl h1
    go_enter Tryz.func231, Tryz.ntmps231
    go_wp2
    go_ret
    exact ⟨by rw [HB.out]; rfl, rfl⟩

set_option maxHeartbeats 400000 in
theorem bytesOf_calls (n : Nat) (hn : n < 140737488355329) (w : World) :
    Calls Tryz.prog 289 #[.int .i64 n] w fun e w' => e = .returned (.string (str (digs 8 n))) ∧ Below w.heap.size w w' := by
  have hconv := fun W x => conv_one W x
  go_enter Tryz.func289, Tryz.ntmps289
  go_wp2_with fail
  go_loopg [0, 3] n (fun g a o wr => ∃ (m f : Nat) (out : ByteArray), g = m ∧ m ≤ n ∧ a = .int .i64 m ∧ o = .string out ∧ Hid (digs 8 n = digs f m ++ out.data.toList ∧ m < 256 ^ f ∧ f ≤ 8 ∧ out.size + f = 8) ∧ Below w.heap.size w wr)
  case atStart => exact ⟨n, 8, ByteArray.empty, rfl, Nat.le_refl _, rfl, rfl, ⟨by simp, by omega, Nat.le_refl _, rfl⟩, Below.refl _ _⟩
  case round =>
    obtain ⟨m, f, out, hg, hm, rfl, rfl, hd, hbel⟩ := hrel
    have HG : Hid (gk = m) := hg
    have HB : Hid (Below w.heap.size w wr) := hbel
    have hsz : out.size ≤ 8 := by have := hd.out.2.2.2; omega
    clear hg hbel
    by_cases h0 : 0 < m
    · have hw : IntKind.u8.wrap ((m : Int) % 256) = ((m % 256 : Nat) : Int) := by rw [IntKind.wrap_u8']; omega
      have h0' : (0 : Int) < (m : Int) := by omega
      have hns := nums_one (m % 256) (by omega)
      have hs1 : (strOfNums [(m : Int) % 256]).size = 1 := by rw [strOfNums_size]; rfl
      have HNS : Hid (strOfNums [((m % 256 : Nat) : Int)] = str [UInt8.ofNat (m % 256)]) := hns
      clear hns
      go_wp2_with fail
      go_roundg (m / 256)
      case measure => have := HG.out; omega
      case rel =>
        obtain ⟨d1, d2, d3, d4⟩ := hd.out
        have e : strOfNums [(m : Int) % 256] ++ out = str (UInt8.ofNat (m % 256) :: out.data.toList) := by
          have e1 : ((m : Int) % 256) = ((m % 256 : Nat) : Int) := by omega
          rw [e1, HNS.out]
          conv => lhs; rw [← str_data out]
          rw [str_append]; rfl
        cases f with
        | zero => simp at d2; omega
        | succ f =>
          refine ⟨m / 256, f, strOfNums [(m : Int) % 256] ++ out, rfl, by omega, by go_num, rfl, ⟨?_, by rw [Nat.pow_succ] at d2; omega, by omega, ?_⟩, HB.out.alloc HB.out.size _⟩
          · rw [d1, e, str_list]
            conv => lhs; unfold digs
            rw [if_neg (by omega), List.append_assoc]; rfl
          · rw [e, str_size]; simp; omega
    · have hm0 : m = 0 := by omega
      subst hm0
      have hfin : str (digs 8 n) = out := by rw [hd.out.1, digs_zero, List.nil_append, str_data]
      have HF : Hid (str (digs 8 n) = out) := hfin
      clear hfin
      go_wp2_with fail
      go_ret
      exact ⟨by rw [HF.out]; rfl, HB.out⟩

theorem digs8 (n : Nat) : (digs 8 n).length ≤ 8 := digs_length 8 n
theorem headU_length (kind n : Nat) : (headU kind n).length ≤ 9 := by
  unfold headU
  split
  · simp
  · have := digs8 n; simp; omega

set_option maxHeartbeats 400000 in
theorem headOf_calls (kind n : Nat) (hk : kind ≤ 192) (hn : n < 140737488355329) (w : World) :
    Calls Tryz.prog 276 #[.int .i64 kind, .int .i64 n] w fun e w' => e = .returned (.string (str (headU kind n))) ∧ Below w.heap.size w w' := by
  have hconv := fun W x => conv_one W x
  by_cases h : n ≤ 55
  · have h' : decide ((n : Int) ≤ 55) = true := by simp; omega
    have hw : IntKind.u8.wrap ((kind : Int) + (n : Int)) = ((kind + n : Nat) : Int) := by rw [IntKind.wrap_u8']; omega
    have hf : str (headU kind n) = strOfNums [((kind + n : Nat) : Int)] := by
      unfold headU; rw [if_pos h, nums_one _ (by omega)]
    have HF : Hid (str (headU kind n) = strOfNums [((kind + n : Nat) : Int)]) := hf
    clear hf
    go_enter Tryz.func276, Tryz.ntmps276
    go_wp2_with fail
    go_ret
    refine ⟨by rw [HF.out]; rfl, (Below.refl _ _).alloc (Nat.le_refl _) _⟩
  · have h' : decide ((n : Int) ≤ 55) = false := by simp; omega
    have hd8 := digs8 n
    have hsz : (str (digs 8 n)).size = (digs 8 n).length := str_size _
    have hf : str (headU kind n) = strOfNums [((kind + 55 + (digs 8 n).length : Nat) : Int)] ++ str (digs 8 n) := by
      unfold headU; rw [if_neg h, nums_one _ (by omega), str_append]; rfl
    have HF : Hid (str (headU kind n) = strOfNums [((kind + 55 + (digs 8 n).length : Nat) : Int)] ++ str (digs 8 n)) := hf
    clear hf
    go_enter Tryz.func276, Tryz.ntmps276
    go_wp2_with fail
    refine (bytesOf_calls n hn _).mono ?_
    rintro e w1 ⟨rfl, B1⟩
    have HB1 : Hid (Below w.heap.size w w1) := B1
    clear B1
    generalize str (digs 8 n) = D at *
    generalize hL : (digs 8 n).length = L at *
    have hw : IntKind.u8.wrap ((kind : Int) + 55 + (L : Int)) = ((kind + 55 + L : Nat) : Int) := by rw [IntKind.wrap_u8']; omega
    have hs1 : ∀ x : Int, (strOfNums [x]).size = 1 := fun x => by rw [strOfNums_size]; rfl
    go_wp2_with fail
    go_ret
    exact ⟨by rw [HF.out]; rfl, HB1.out.alloc HB1.out.size _⟩

def fitsB (kind : Nat) (l : List UInt8) : Bool := decide ((headU kind l.length).length + l.length ≤ 4096)
set_option maxHeartbeats 400000 in
theorem headed_calls (kind : Nat) (s : ByteArray) (hk : kind ≤ 192) (hn : s.size < 140737488355329) (w : World) :
    Calls Tryz.prog 235 #[.int .i64 kind, .string s] w fun e w' => e = .returned (.tuple #[.string (if fitsB kind s.data.toList then str (headU kind s.size ++ s.data.toList) else ByteArray.empty), .bool (fitsB kind s.data.toList)]) ∧ Below w.heap.size w w' := by
  have hl : s.data.toList.length = s.size := by simp
  have hd8 := headU_length kind s.size
  have hsz : (str (headU kind s.size)).size = (headU kind s.size).length := str_size _
  have HF : Hid (str (headU kind s.size ++ s.data.toList) = str (headU kind s.size) ++ s) := by
    conv => rhs; rw [← str_data s]
    exact (str_append _ _).symm
  by_cases h : (headU kind s.size).length + s.size ≤ 4096
  · have hfb : fitsB kind s.data.toList = true := by unfold fitsB; rw [hl]; exact decide_eq_true h
    rw [hfb, if_pos rfl, HF.out]
    have h' : decide ((4096 : Int) < ((headU kind s.size).length : Int) + (s.size : Int)) = false := by simp; omega
    clear hl HF hfb
    go_enter Tryz.func235, Tryz.ntmps235
    go_wp2_with fail
    refine (headOf_calls kind s.size hk hn _).mono ?_
    rintro e w1 ⟨rfl, B1⟩
    have HB1 : Hid (Below w.heap.size w w1) := B1
    clear B1
    generalize hD : str (headU kind s.size) = D at *
    have HD : Hid (str (headU kind s.size) = D) := hD
    clear hD
    generalize (headU kind s.size).length = L at *
    go_wp2_with fail
    go_ret2
    exact ⟨by rw [HD.out]; rfl, HB1.out⟩
  · have hfb : fitsB kind s.data.toList = false := by unfold fitsB; rw [hl]; exact decide_eq_false h
    rw [hfb]
    have h' : decide ((4096 : Int) < ((headU kind s.size).length : Int) + (s.size : Int)) = true := by simp; omega
    clear hl HF hfb
    go_enter Tryz.func235, Tryz.ntmps235
    go_wp2_with fail
    refine (headOf_calls kind s.size hk hn _).mono ?_
    rintro e w1 ⟨rfl, B1⟩
    have HB1 : Hid (Below w.heap.size w w1) := B1
    clear B1
    generalize str (headU kind s.size) = D at *
    generalize (headU kind s.size).length = L at *
    go_wp2_with fail
    go_ret2
    exact ⟨rfl, HB1.out⟩
end Go.Proofs.YtenmjjpkbcogbaaGreatDoor

/- RlpM -/
namespace Go.Proofs.YtenmjjpkbcogbaaGreatDoor
open Go.RowKit

/-- the cells of n items, three each, lie where the slice k says, in a block of S -/
structure RowIs (w : World) (S : Nat → Prop) (k : Value) (n : Nat) (xs : List Value) : Prop where
  len : xs.length = 3 * n
  lie : (n = 0 ∧ ∃ a c, k = .slice a 0 c) ∨ ∃ b o c, k = .slice (some ⟨b, o, none⟩) n c ∧ S b ∧ ∀ j, j < 3 * n → w.cell? ⟨b, o + j, none⟩ = xs[j]?

/-- the three cells cs are the item x, in memory of S -/
def IsSl (k : Value) : Prop := ∃ a n c, k = .slice a n c
def ItemIs : Nat → World → (Nat → Prop) → List Value → Tree → Prop
  | 0, _, _, cs, x => ∃ t k, cs = [.bool false, .string t, k] ∧ x = textT t.data.toList ∧ t.size < 140737488355329 ∧ IsSl k
  | d + 1, w, S, cs, x => (∃ t k, cs = [.bool false, .string t, k] ∧ x = textT t.data.toList ∧ t.size < 140737488355329 ∧ IsSl k) ∨
    (∃ t k ks xs, cs = [.bool true, .string t, k] ∧ x = listT ks ∧ RowIs w S k ks.length xs ∧ ks.length < 140737488355329 ∧ ∀ i, i < ks.length → ItemIs d w S ((xs.drop (3 * i)).take 3) (ks.getD i (textT [])))

theorem item_text (d : Nat) (w : World) (S : Nat → Prop) (t : ByteArray) (k : Value) (h : t.size < 140737488355329) (hk : IsSl k := by exact ⟨_, _, _, rfl⟩) : ItemIs d w S [.bool false, .string t, k] (textT t.data.toList) := by
  cases d with
  | zero => exact ⟨t, k, rfl, rfl, h, hk⟩
  | succ d => exact .inl ⟨t, k, rfl, rfl, h, hk⟩
theorem item_list (d : Nat) (w : World) (S : Nat → Prop) (t : ByteArray) (k : Value) (ks : List Tree) (xs : List Value) (h : RowIs w S k ks.length xs) (hb : ks.length < 140737488355329) (hk : ∀ i, i < ks.length → ItemIs d w S ((xs.drop (3 * i)).take 3) (ks.getD i (textT []))) :
    ItemIs (d + 1) w S [.bool true, .string t, k] (listT ks) := .inr ⟨t, k, ks, xs, rfl, rfl, h, hb, hk⟩

theorem RowIs.move {w w' : World} {S S' : Nat → Prop} {k : Value} {n : Nat} {xs : List Value} (h : RowIs w S k n xs) (hS : ∀ b, S b → b < w.heap.size → S' b ∧ w'.heap[b]? = w.heap[b]?) : RowIs w' S' k n xs := by
  refine ⟨h.len, ?_⟩
  rcases h.lie with h0 | ⟨b, o, c, rfl, hb, hc⟩
  · exact .inl h0
  · by_cases hn : n = 0
    · subst hn; exact .inl ⟨rfl, _, _, rfl⟩
    · have h0 := hc 0 (by omega)
      have hx : xs[0]? = some (xs[0]'(by rw [h.len]; omega)) := List.getElem?_eq_getElem _
      rw [hx] at h0
      have hlt : b < w.heap.size := World.block_lt_of_cell? w _ h0
      obtain ⟨s1, s2⟩ := hS b hb hlt
      exact .inr ⟨b, o, c, rfl, s1, fun j hj => (World.cell?_of_block (w := w) (a := ⟨b, o + j, none⟩) s2).trans (hc j hj)⟩
/-- an item stays where its memory does -/
theorem ItemIs.move {w w' : World} {S S' : Nat → Prop} (hS : ∀ b, S b → b < w.heap.size → S' b ∧ w'.heap[b]? = w.heap[b]?) : ∀ (d : Nat) (cs : List Value) (x : Tree), ItemIs d w S cs x → ItemIs d w' S' cs x := by
  intro d
  induction d with
  | zero => intro cs x h; exact h
  | succ d ih =>
    intro cs x h
    rcases h with h | ⟨t, k, ks, xs, rfl, rfl, hr, hb, hk⟩
    · exact .inl h
    · exact .inr ⟨t, k, ks, xs, rfl, rfl, hr.move hS, hb, fun i hi => ih _ _ (hk i hi)⟩
theorem ItemIs.below {w w' : World} {S : Nat → Prop} {d : Nat} {cs : List Value} {x : Tree} (h : ItemIs d w S cs x) (k : Below w.heap.size w w') : ItemIs d w' S cs x :=
  ItemIs.move (fun b hb hlt => ⟨hb, k.block b hlt⟩) d cs x h
theorem RowIs.below {w w' : World} {S : Nat → Prop} {k : Value} {n : Nat} {xs : List Value} (h : RowIs w S k n xs) (b : Below w.heap.size w w') : RowIs w' S k n xs :=
  h.move (fun c hc hlt => ⟨hc, b.block c hlt⟩)

def fitsC (c : List UInt8) : Bool := decide (c.length ≤ 4096)
def outC (c : List UInt8) : ByteArray := if fitsC c then str c else ByteArray.empty
theorem fits_headed (l : Bool) (t : List UInt8) : fitsB (kindN l) t = fitsC (headU (kindN l) t.length ++ t) := by unfold fitsB fitsC; rw [List.length_append]
theorem outC_data (c : List UInt8) (h : fitsC c = true) : outC c = str c := by unfold outC; rw [h]; rfl

/-- the codes of the kids, as far as i -/
def codesTo (d : Nat) (ks : List Tree) (i : Nat) : List UInt8 := ((ks.take i).map (codeU d)).flatten
theorem codesTo_succ (d : Nat) (ks : List Tree) (i : Nat) (h : i < ks.length) : codesTo d ks (i + 1) = codesTo d ks i ++ codeU d (ks.getD i (textT [])) := by
  unfold codesTo
  have e : ks.getD i (textT []) = ks[i] := by simp [List.getD, List.getElem?_eq_getElem h]
  rw [List.take_succ_eq_append_getElem h, e, List.map_append, List.flatten_append]
  congr 1
  simp only [List.map_cons, List.map_nil, List.flatten_cons, List.flatten_nil, List.append_nil]
theorem codesTo_all (d : Nat) (ks : List Tree) (i : Nat) (h : ks.length ≤ i) : codesTo d ks i = (ks.map (codeU d)).flatten := by unfold codesTo; rw [List.take_of_length_le h]
theorem codesTo_le (d : Nat) (ks : List Tree) (i : Nat) : (codesTo d ks i).length ≤ ((ks.map (codeU d)).flatten).length := by
  have e : (ks.map (codeU d)).flatten = codesTo d ks i ++ ((ks.drop i).map (codeU d)).flatten := by
    unfold codesTo
    rw [← List.flatten_append, ← List.map_append, List.take_append_drop]
  rw [e, List.length_append]; omega
end Go.Proofs.YtenmjjpkbcogbaaGreatDoor

/- RlpE -/
namespace Go.Proofs.YtenmjjpkbcogbaaGreatDoor
open Go.RowKit

/-- what codeOf of items of d levels does -/
def CodeOfSaid (d : Nat) : Prop := ∀ (w : World) (S : Nat → Prop) (v0 v1 v2 : Value) (x : Tree), ItemIs d w S [v0, v1, v2] x →
  Calls Tryz.prog 158 #[.agg #[v0, v1, v2]] w fun e w' => e = .returned (.tuple #[.string (outC (codeU d x)), .bool (fitsC (codeU d x))]) ∧ Below w.heap.size w w'
/-- what listCode of such does -/
def ListCodeSaid (d : Nat) : Prop := ∀ (w : World) (S : Nat → Prop) (k : Value) (ks : List Tree) (xs : List Value), RowIs w S k ks.length xs → ks.length < 140737488355329 → (∀ i, i < ks.length → ItemIs d w S ((xs.drop (3 * i)).take 3) (ks.getD i (textT []))) →
  Calls Tryz.prog 234 #[k] w fun e w' => e = .returned (.tuple #[.string (outC (listC (ks.map (codeU d)).flatten)), .bool (fitsC (listC (ks.map (codeU d)).flatten))]) ∧ Below w.heap.size w w'

set_option maxHeartbeats 400000 in
theorem codeOf_text (w : World) (t : ByteArray) (k : Value) (ht : t.size < 140737488355329) :
    Calls Tryz.prog 158 #[.agg #[.bool false, .string t, k]] w fun e w' => e = .returned (.tuple #[.string (outC (textC t.data.toList)), .bool (fitsC (textC t.data.toList))]) ∧ Below w.heap.size w w' := by
  have hl : t.data.toList.length = t.size := by simp
  cases hb : bareB t.data.toList with
  | true =>
    have e : textC t.data.toList = t.data.toList := by unfold textC; rw [if_pos hb]
    have hf : fitsC t.data.toList = true := by
      unfold bareB at hb; simp at hb; unfold fitsC; rw [hl]; exact decide_eq_true (by omega)
    rw [e, outC_data _ hf, str_data, hf]
    have HB : Hid (bareB t.data.toList = true) := hb
    clear hb e hf hl
    go_enter Tryz.func158, Tryz.ntmps158
    go_wp2_with fail
    refine (bare_calls t _).mono ?_
    rw [HB.out]
    rintro e w1 ⟨rfl, hw1⟩
    subst hw1
    go_wp2_with fail
    go_ret2
    exact ⟨rfl, (Below.refl _ _).alloc (Nat.le_refl _) _⟩
  | false =>
    have e : textC t.data.toList = headU (kindN false) t.size ++ t.data.toList := by unfold textC; rw [if_neg (by rw [hb]; decide), hl]; rfl
    have hf := fits_headed false t.data.toList
    rw [hl, ← e] at hf
    have HB : Hid (bareB t.data.toList = false) := hb
    have ho : (if fitsB 128 t.data.toList then str (headU 128 t.size ++ t.data.toList) else ByteArray.empty) = outC (textC t.data.toList) := by
      unfold outC; rw [← hf, e]; rfl
    have HO : Hid ((if fitsB 128 t.data.toList then str (headU 128 t.size ++ t.data.toList) else ByteArray.empty) = outC (textC t.data.toList)) := ho
    have HFF : Hid (fitsB 128 t.data.toList = fitsC (textC t.data.toList)) := hf
    clear hb e hf hl ho
    go_enter Tryz.func158, Tryz.ntmps158
    go_wp2_with fail
    refine (bare_calls t _).mono ?_
    rw [HB.out]
    rintro e w1 ⟨rfl, hw1⟩
    subst hw1
    go_wp2_with fail
    refine (headed_calls 128 t (by omega) ht _).mono ?_
    rw [HO.out, HFF.out]
    rintro e w2 ⟨rfl, B2⟩
    have HB2 : Hid (Below w.heap.size w w2) := ((Below.refl _ _).alloc (Nat.le_refl _) _).trans (B2.mono (by simp))
    clear B2
    go_wp2_with fail
    go_ret2
    exact ⟨rfl, HB2.out⟩

set_option maxHeartbeats 400000 in
theorem codeOf_of (d : Nat) (ih : ListCodeSaid d) : CodeOfSaid (d + 1) := by
  intro w S v0 v1 v2 x hx
  rcases hx with ⟨t, k, hcs, rfl, ht⟩ | ⟨t, k, ks, xs, hcs, rfl, hr, hb, hk⟩
  · simp only [List.cons.injEq, and_true] at hcs
    obtain ⟨rfl, rfl, rfl⟩ := hcs
    rw [codeU_text]
    exact codeOf_text w t _ ht.1
  · simp only [List.cons.injEq, and_true] at hcs
    obtain ⟨rfl, rfl, rfl⟩ := hcs
    rw [codeU_list]
    have HI := fun (w : World) (h : Below w.heap.size w w) => ih w
    clear HI
    go_enter Tryz.func158, Tryz.ntmps158
    go_wp2_with fail
    have hbel : Below w.heap.size w (w.alloc (.cells #[.bool true, .string t, v2] 56)) := (Below.refl _ _).alloc (Nat.le_refl _) _
    refine (ih _ S v2 ks xs (hr.below hbel) hb (fun i hi => (hk i hi).below hbel)).mono ?_
    rintro e w1 ⟨rfl, B1⟩
    have HB1 : Hid (Below w.heap.size w w1) := hbel.trans (B1.mono (by simp))
    clear B1 hbel hr hk
    go_wp2_with fail
    go_ret2
    exact ⟨rfl, HB1.out⟩
theorem codeOf_zero : CodeOfSaid 0 := by
  intro w S v0 v1 v2 x ⟨t, k, hcs, hx, ht⟩
  subst hx
  simp only [List.cons.injEq, and_true] at hcs
  obtain ⟨rfl, rfl, rfl⟩ := hcs
  rw [codeU_text]
  exact codeOf_text w t _ ht.1
theorem strCells_str (l : List UInt8) : Lib.strCells (str l) = u8c l := by
  unfold Lib.strCells u8c
  simp [str_list]
theorem own_slice {w : World} {base e : Nat} {v : Value} {n : Nat} {xs : List Value} (h : w.ownsRow base e 1 v n xs) : ∃ a cap, v = .slice a n cap ∧ (a = none → n = 0) := by
  rcases h.2 with ⟨rfl, rfl⟩ | ⟨g, cap, cur, rfl, _⟩
  · exact ⟨none, 0, rfl, fun _ => rfl⟩
  · exact ⟨_, cap, rfl, fun h => by cases h⟩
theorem conv_own {w : World} {base : Nat} {v : Value} {n : Nat} {l : List UInt8} (h : w.ownsRow base 5 1 v n (u8c l)) : (convert 185 9 v).run Tryz.prog w = .ok (.string (str l)) w := by
  have hn : l.length = n := by have := h.1; simpa [u8c] using this
  rcases h.2 with ⟨rfl, h0⟩ | ⟨g, cap, cur, rfl, hrest⟩
  · have : l = [] := List.length_eq_zero_iff.1 (by omega)
    subst this
    exact run_convert_bytes_nil (P := Tryz.prog) w 185 5 Tryz.underlying185 Tryz.underlying5 0 0 9 Tryz.underlying9
  · rw [← strOfNums_bytes]
    exact run_convert_bytes_arg (P := Tryz.prog) w 185 5 Tryz.underlying185 Tryz.underlying5 g 0 n cap (l.map (fun c => (c.toNat : Int))) (by rw [List.length_map, hn]) (fun i hi => by
      have := h.cellAt i (by rw [Nat.mul_one]; exact hi)
      rw [Nat.zero_add, this]
      have hlen : i < l.length := by omega
      simp [u8c, List.getD, List.getElem?_eq_getElem hlen]) 9 Tryz.underlying9
theorem own_below {w w1 : World} {base e size : Nat} {v : Value} {n : Nat} {xs : List Value} (h : w.ownsRow base e size v n xs) (b : Below w.heap.size w w1) : w1.ownsRow base e size v n xs := by
  refine ⟨h.1, ?_⟩
  rcases h.2 with h0 | ⟨g, cap, cur, hv, hg, hh, hr⟩
  · exact .inl h0
  · refine .inr ⟨g, cap, cur, hv, hg, ?_, hr⟩
    have hlt : g < w.heap.size := by
      rcases Nat.lt_or_ge g w.heap.size with h | h
      · exact h
      · rw [Array.getElem?_eq_none h] at hh; cases hh
    rw [b.block g hlt]; exact hh
theorem own_nil (w : World) (base : Nat) : w.ownsRow base 5 1 (.slice none 0 0) 0 (u8c []) := ⟨rfl, .inl ⟨rfl, rfl⟩⟩

set_option maxRecDepth 100000 in
set_option maxHeartbeats 1000000 in
theorem listCode_of (d : Nat) (ih : CodeOfSaid d) : ListCodeSaid d := by
  intro w S k ks xs hr hb hk
  obtain ⟨i0, hi0, hz0, hz1, hz2⟩ := info_parts info5
  obtain ⟨ka, kc, hkv⟩ : ∃ ka kc, k = .slice ka ks.length kc := by
    rcases hr.lie with ⟨h0, a, c, rfl⟩ | ⟨b, o, c, rfl, _⟩
    · exact ⟨a, c, by rw [h0]⟩
    · exact ⟨_, c, rfl⟩
  subst hkv
  have HR : Hid (RowIs w S (.slice ka ks.length kc) ks.length xs) := hr
  have HK : Hid (∀ i, i < ks.length → ItemIs d w S ((xs.drop (3 * i)).take 3) (ks.getD i (textT []))) := hk
  have HI : Hid (CodeOfSaid d) := ih
  obtain ⟨n, hn⟩ : ∃ n, n = ks.length := ⟨_, rfl⟩
  have HN : Hid (n = ks.length) := hn
  obtain ⟨T, hT⟩ : ∃ T, T = listC (ks.map (codeU d)).flatten := ⟨_, rfl⟩
  have HT : Hid (T = listC (ks.map (codeU d)).flatten) := hT
  rw [← hn, ← hT]
  rw [← hn] at hb
  clear hr hk ih hn hT
  go_enter Tryz.func234, Tryz.ntmps234
  go_wp2_with fail
  go_loopg [4, 5] n (fun g v r wr => ∃ (i : Nat) (m : Nat) (a : Option Addr) (cap : Nat), g = n - i ∧ i ≤ n ∧ r = .int .i64 i ∧ v = .slice a m cap ∧ m ≤ 4096 ∧ wr.ownsRow w.heap.size 5 1 (.slice a m cap) m (u8c (codesTo d ks i)) ∧ Below w.heap.size w wr)
  case atStart => exact ⟨0, 0, none, 0, rfl, by omega, rfl, rfl, by omega, own_nil _ _, Below.refl _ _⟩
  case round =>
    obtain ⟨i, m, a, cap, hg, hi, rfl, rfl, hm, hown, hbel⟩ := hrel
    have HG : Hid (gk = n - i) := hg
    have HO : Hid (wr.ownsRow w.heap.size 5 1 (.slice a m cap) m (u8c (codesTo d ks i))) := hown
    have HB : Hid (Below w.heap.size w wr) := hbel
    have hM : (codesTo d ks i).length = m := by have := hown.1; simpa [u8c] using this
    have HM : Hid ((codesTo d ks i).length = m) := hM
    clear hM
    clear hg hown hbel
    by_cases hlt : i < n
    · have hlt' := hlt
      rw [HN.out] at hlt'
      have hrow := HR.out.below HB.out
      rcases hrow.lie with ⟨h0, _⟩ | ⟨b, o, c, hkv, hSb, hcell⟩
      · omega
      have hka : ka = some ⟨b, o, none⟩ := by cases hkv; rfl
      subst hka
      have hx3 : 3 * i + 2 < xs.length := by rw [hrow.len]; omega
      have g0 : wr.cell? ⟨b, o + i * 3, none⟩ = some (xs[3 * i]'(by omega)) := by rw [← List.getElem?_eq_getElem, ← hcell (3 * i) (by omega), Nat.mul_comm]
      have g1 : wr.cell? ⟨b, o + i * 3 + 1, none⟩ = some (xs[3 * i + 1]'(by omega)) := by rw [← List.getElem?_eq_getElem, ← hcell (3 * i + 1) (by omega), Nat.mul_comm, Nat.add_assoc]
      have g2 : wr.cell? ⟨b, o + i * 3 + 2, none⟩ = some (xs[3 * i + 2]'(by omega)) := by rw [← List.getElem?_eq_getElem, ← hcell (3 * i + 2) (by omega), Nat.mul_comm, Nat.add_assoc]
      have hit := (HK.out i hlt').below HB.out
      have e3 : (xs.drop (3 * i)).take 3 = [xs[3 * i]'(by omega), xs[3 * i + 1]'(by omega), xs[3 * i + 2]'(by omega)] := by
        apply List.ext_getElem?
        intro j
        rw [List.getElem?_take]
        split
        · rw [List.getElem?_drop]
          match j with
          | 0 => simp [List.getElem?_eq_getElem (show 3 * i < xs.length by omega)]
          | 1 => simp [List.getElem?_eq_getElem (show 3 * i + 1 < xs.length by omega)]
          | 2 => simp [List.getElem?_eq_getElem (show 3 * i + 2 < xs.length by omega)]
          | j + 3 => omega
        · rw [List.getElem?_eq_none (by simp; omega)]
      rw [e3] at hit
      generalize xs[3 * i]'(by omega) = v0 at *
      generalize xs[3 * i + 1]'(by omega) = v1 at *
      generalize xs[3 * i + 2]'(by omega) = v2 at *
      have HIT : Hid (ItemIs d wr S [v0, v1, v2] (ks.getD i (textT []))) := hit
      clear hit e3 hx3 hcell hrow hlt' hkv
      have hlong : 4096 < (codesTo d ks (i + 1)).length → fitsC T = false ∧ outC T = ByteArray.empty := by
        intro h
        have h1 := codesTo_le d ks (i + 1)
        have h2 : fitsC T = false := by
          unfold fitsC; rw [HT.out]; unfold listC; rw [List.length_append]; exact decide_eq_false (by omega)
        exact ⟨h2, by unfold outC; rw [h2]; rfl⟩
      have HLO : Hid (4096 < (codesTo d ks (i + 1)).length → fitsC T = false ∧ outC T = ByteArray.empty) := hlong
      have HSU : Hid (codesTo d ks (i + 1) = codesTo d ks i ++ codeU d (ks.getD i (textT []))) := codesTo_succ d ks i (by rw [← HN.out]; exact hlt)
      clear hlong
      generalize hc : codeU d (ks.getD i (textT [])) = c at *
      go_wp2_with fail
      refine (HI.out _ S v0 v1 v2 _ HIT.out).mono ?_
      rw [hc]
      rintro e w1 ⟨rfl, B1⟩
      have HB1 : Hid (Below w.heap.size w w1) := HB.out.trans (B1.mono HB.out.size)
      have HO1 : Hid (w1.ownsRow w.heap.size 5 1 (.slice a m cap) m (u8c (codesTo d ks i))) := own_below HO.out B1
      clear B1 hc g0 g1 g2 HIT
      cases hf : fitsC c with
      | false =>
        have hl : 4096 < c.length := by unfold fitsC at hf; simpa using hf
        obtain ⟨q1, q2⟩ := HLO.out (by rw [HSU.out, List.length_append]; omega)
        have HQ1 : Hid (fitsC T = false) := q1
        have HQ2 : Hid (outC T = ByteArray.empty) := q2
        clear q1 q2 hf
        go_wp2_with fail
        go_ret2
        exact ⟨by rw [HQ1.out, HQ2.out]; rfl, HB1.out⟩
      | true =>
        have hl : c.length ≤ 4096 := by unfold fitsC at hf; simpa using hf
        have HOC : Hid (outC c = str c) := outC_data c hf
        rw [HOC.out]
        clear hf
        have hsz : (str c).size = c.length := str_size c
        go_upto_region 8 with fail
        go_wp2_with (at_builtin; refine Lib.wpList_append_own_string _ rfl (.tmp 24) (.tmp 25) 185 9 rfl w.heap.size 5 i0 Tryz.underlying185 Tryz.underlying9 hi0 hz0 hz1 hz2 (.slice a m cap) m (u8c (codesTo d ks i)) rfl HO1.out (str c) rfl ?d1 ?d2 ?d3 ?d4)
        case d1 => rw [hsz]; unfold maxLen; omega
        case d2 => rw [hsz]; omega
        case d3 => exact HB1.out.size
        intro v2' w2 hown2 hgrow2 _
        rw [strCells_str] at hown2
        have hown2' : w2.ownsRow w.heap.size 5 1 v2' (m + c.length) (u8c (codesTo d ks (i + 1))) := by
          have e : u8c (codesTo d ks (i + 1)) = u8c (codesTo d ks i) ++ u8c c := by rw [HSU.out]; simp [u8c]
          rw [e]; exact hown2
        obtain ⟨a2, cap2, rfl, _⟩ := own_slice hown2'
        have HO2 : Hid (w2.ownsRow w.heap.size 5 1 (.slice a2 (m + c.length) cap2) (m + c.length) (u8c (codesTo d ks (i + 1)))) := hown2'
        have HB2 : Hid (Below w.heap.size w w2) := HB1.out.grown hgrow2 HB1.out.size (fun k hk => (HO1.out.lt k hk).1)
        have HML : Hid ((codesTo d ks (i + 1)).length = m + c.length) := by
          rw [HSU.out, List.length_append, HM.out]; rfl
        clear hown2 hown2' hgrow2
        obtain ⟨M, hM⟩ : ∃ M, M = m + c.length := ⟨_, rfl⟩
        rw [← hM]
        have HMM : Hid (M = m + c.length) := hM
        clear hM
        by_cases hlong : 4096 < M
        · have hl' : decide ((4096 : Int) < (M : Int)) = true := by simp; omega
          obtain ⟨q1, q2⟩ := HLO.out (by rw [HML.out, ← HMM.out]; exact hlong)
          have HQ1 : Hid (fitsC T = false) := q1
          have HQ2 : Hid (outC T = ByteArray.empty) := q2
          clear q1 q2
          go_wp2_with fail
          go_ret2
          exact ⟨by rw [HQ1.out, HQ2.out]; rfl, HB2.out⟩
        · have hl' : decide ((4096 : Int) < (M : Int)) = false := by simp; omega
          go_wp2_with fail
          go_roundg (n - (i + 1))
          case measure => have := HG.out; omega
          case rel => exact ⟨i + 1, M, a2, cap2, rfl, by omega, by go_num, rfl, by omega, by rw [HMM.out]; exact HO2.out, HB2.out⟩
    · have hfin : codesTo d ks i = (ks.map (codeU d)).flatten := codesTo_all d ks i (by rw [← HN.out]; omega)
      have hconv := conv_own HO.out
      rw [hfin] at hconv
      have hml := HM.out
      rw [hfin] at hml
      generalize hF : (ks.map (codeU d)).flatten = F at *
      have hsz : (str F).size = F.length := str_size F
      have hf := fits_headed true F
      have ho : (if fitsB 192 (str F).data.toList then str (headU 192 (str F).size ++ (str F).data.toList) else ByteArray.empty) = outC T := by
        rw [str_list, hsz, HT.out]; unfold outC listC; rw [← (show kindN true = 192 from rfl), ← hf]
      have HOO : Hid ((if fitsB 192 (str F).data.toList then str (headU 192 (str F).size ++ (str F).data.toList) else ByteArray.empty) = outC T) := ho
      have HFF : Hid (fitsB 192 (str F).data.toList = fitsC T) := by rw [str_list, HT.out]; unfold listC; exact hf
      have HSZ : Hid ((str F).size < 140737488355329) := by rw [hsz, hml]; exact (show m < 140737488355329 by omega)
      clear hfin hF hf ho hml hsz
      have hlt' : ¬ ((i : Int) < (n : Int)) := by omega
      go_wp2_with fail
      refine (headed_calls 192 (str F) (by omega) HSZ.out _).mono ?_
      rw [HOO.out, HFF.out]
      rintro e w2 ⟨rfl, B2⟩
      have HB2 : Hid (Below w.heap.size w w2) := HB.out.trans (B2.mono HB.out.size)
      clear B2
      go_wp2_with fail
      go_ret2
      exact ⟨rfl, HB2.out⟩

theorem code_all : ∀ d, CodeOfSaid d ∧ ListCodeSaid d
  | 0 => ⟨codeOf_zero, listCode_of 0 codeOf_zero⟩
  | d + 1 => ⟨codeOf_of d (code_all d).2, listCode_of (d + 1) (codeOf_of d (code_all d).2)⟩
end Go.Proofs.YtenmjjpkbcogbaaGreatDoor

/- RlpW -/
namespace Go.Proofs.YtenmjjpkbcogbaaGreatDoor
open Go.RowKit

def WithinSaid (d : Nat) : Prop := ∀ (w : World) (S : Nat → Prop) (k : Value) (ks : List Tree) (xs : List Value) (l : Nat), 1 ≤ l → l ≤ 7 → RowIs w S k ks.length xs → ks.length < 140737488355329 → (∀ i, i < ks.length → ItemIs d w S ((xs.drop (3 * i)).take 3) (ks.getD i (textT []))) →
  Calls Tryz.prog 157 #[k, .int .i64 l] w fun e w' => e = .returned (.bool (flatU (7 - l) (listT ks))) ∧ w' = w

theorem flat_list (L : Nat) (ks : List Tree) : flatU (L + 1) (listT ks) = (decide (ks.length ≤ 64) && ks.all (flatU L)) := by
  unfold listT; simp only [flatU]
theorem flat_text (L : Nat) (t : List UInt8) : flatU L (textT t) = true := by unfold textT; simp only [flatU]
theorem flat_zero (ks : List Tree) : flatU 0 (listT ks) = false := by unfold listT; simp only [flatU]

/-- the three cells of item i -/
theorem three {xs : List Value} {i : Nat} (h : 3 * i + 2 < xs.length) : (xs.drop (3 * i)).take 3 = [xs[3 * i]'(by omega), xs[3 * i + 1]'(by omega), xs[3 * i + 2]'(by omega)] := by
  apply List.ext_getElem?
  intro j
  rw [List.getElem?_take]
  split
  · rw [List.getElem?_drop]
    match j with
    | 0 => simp [List.getElem?_eq_getElem (show 3 * i < xs.length by omega)]
    | 1 => simp [List.getElem?_eq_getElem (show 3 * i + 1 < xs.length by omega)]
    | 2 => simp [List.getElem?_eq_getElem (show 3 * i + 2 < xs.length by omega)]
    | j + 3 => omega
  · rw [List.getElem?_eq_none (by simp; omega)]

/-- an item of the row: its cells, and what it is -/
theorem row_item {w : World} {S : Nat → Prop} {d : Nat} {ka : Option Addr} {n kc : Nat} {ks : List Tree} {xs : List Value} (hr : RowIs w S (.slice ka n kc) ks.length xs) (hn : n = ks.length)
    (hk : ∀ i, i < ks.length → ItemIs d w S ((xs.drop (3 * i)).take 3) (ks.getD i (textT []))) (i : Nat) (hi : i < n) :
    ∃ b o v0 v1 v2, ka = some ⟨b, o, none⟩ ∧ w.cell? ⟨b, o + i * 3, none⟩ = some v0 ∧ w.cell? ⟨b, o + i * 3 + 1, none⟩ = some v1 ∧ w.cell? ⟨b, o + i * 3 + 2, none⟩ = some v2 ∧ ItemIs d w S [v0, v1, v2] (ks.getD i (textT [])) := by
  have hi' := hi
  rw [hn] at hi'
  rcases hr.lie with ⟨h0, _⟩ | ⟨b, o, c, hkv, hSb, hcell⟩
  · omega
  have hx3 : 3 * i + 2 < xs.length := by rw [hr.len]; omega
  have hit := hk i hi'
  rw [three hx3] at hit
  refine ⟨b, o, _, _, _, ?_, ?_, ?_, ?_, hit⟩
  · cases hkv; rfl
  · rw [← List.getElem?_eq_getElem, ← hcell (3 * i) (by omega), Nat.mul_comm]
  · rw [← List.getElem?_eq_getElem, ← hcell (3 * i + 1) (by omega), Nat.mul_comm, Nat.add_assoc]
  · rw [← List.getElem?_eq_getElem, ← hcell (3 * i + 2) (by omega), Nat.mul_comm, Nat.add_assoc]

theorem item_inv {d : Nat} {w : World} {S : Nat → Prop} {v0 v1 v2 : Value} {x : Tree} (h : ItemIs d w S [v0, v1, v2] x) :
    (∃ t, v0 = .bool false ∧ v1 = .string t ∧ x = textT t.data.toList ∧ t.size < 140737488355329) ∨
    (∃ e t ks xs, d = e + 1 ∧ v0 = .bool true ∧ v1 = .string t ∧ x = listT ks ∧ RowIs w S v2 ks.length xs ∧ ks.length < 140737488355329 ∧ ∀ i, i < ks.length → ItemIs e w S ((xs.drop (3 * i)).take 3) (ks.getD i (textT []))) := by
  cases d with
  | zero =>
    obtain ⟨t, k, hcs, hx, ht, _⟩ := h
    simp only [List.cons.injEq, and_true] at hcs
    exact .inl ⟨t, hcs.1, hcs.2.1, hx, ht⟩
  | succ d =>
    rcases h with ⟨t, k, hcs, hx, ht, _⟩ | ⟨t, k, ks, xs, hcs, hx, hr, hb, hk⟩
    · simp only [List.cons.injEq, and_true] at hcs
      exact .inl ⟨t, hcs.1, hcs.2.1, hx, ht⟩
    · simp only [List.cons.injEq, and_true] at hcs
      obtain ⟨h1, h2, h3⟩ := hcs
      subst h3
      exact .inr ⟨d, t, ks, xs, rfl, h1, h2, hx, hr, hb, hk⟩

theorem RowIs.slice {w : World} {S : Nat → Prop} {k : Value} {n : Nat} {xs : List Value} (h : RowIs w S k n xs) : ∃ a c, k = .slice a n c := by
  rcases h.lie with ⟨rfl, a, c, e⟩ | ⟨b, o, c, e, _⟩
  · exact ⟨a, c, e⟩
  · exact ⟨_, c, e⟩
/-- the third cell of an item is a slice -/
theorem item_slice {d : Nat} {w : World} {S : Nat → Prop} {v0 v1 v2 : Value} {x : Tree} (h : ItemIs d w S [v0, v1, v2] x) : IsSl v2 := by
  cases d with
  | zero =>
    obtain ⟨t, k, hcs, _, _, hs⟩ := h
    simp only [List.cons.injEq, and_true] at hcs
    rw [hcs.2.2]; exact hs
  | succ d =>
    rcases h with ⟨t, k, hcs, _, _, hs⟩ | ⟨t, k, ks, xs, hcs, _, hr, _⟩
    · simp only [List.cons.injEq, and_true] at hcs
      rw [hcs.2.2]; exact hs
    · simp only [List.cons.injEq, and_true] at hcs
      obtain ⟨a, c, e⟩ := hr.slice
      rw [hcs.2.2]; exact ⟨a, _, c, e⟩

set_option maxRecDepth 100000 in
set_option maxHeartbeats 1000000 in
theorem within_of (d : Nat) (ih : ∀ e, d = e + 1 → WithinSaid e) : WithinSaid d := by
  intro w S k ks xs l h1 h7 hr hb hk
  obtain ⟨ka, kc, hkv⟩ : ∃ ka kc, k = .slice ka ks.length kc := by
    rcases hr.lie with ⟨h0, a, c, rfl⟩ | ⟨b, o, c, rfl, _⟩
    · exact ⟨a, c, by rw [h0]⟩
    · exact ⟨_, c, rfl⟩
  subst hkv
  have HK : Hid (∀ i, i < ks.length → ItemIs d w S ((xs.drop (3 * i)).take 3) (ks.getD i (textT []))) := hk
  have HI : Hid (∀ e, d = e + 1 → WithinSaid e) := ih
  obtain ⟨n, hn⟩ : ∃ n, n = ks.length := ⟨_, rfl⟩
  have HN : Hid (n = ks.length) := hn
  have HR : Hid (RowIs w S (.slice ka n kc) ks.length xs) := by rw [hn]; exact hr
  obtain ⟨R, hR⟩ : ∃ R, R = flatU (7 - l) (listT ks) := ⟨_, rfl⟩
  have HRR : Hid (R = flatU (7 - l) (listT ks)) := hR
  rw [← hn, ← hR]
  rw [← hn] at hb
  clear hr hk ih hn hR
  by_cases hl6 : 6 < l
  · have hl' : decide ((6 : Int) < (l : Int)) = true := by simp; omega
    have hf : R = false := by rw [HRR.out, show 7 - l = 0 by omega, flat_zero]
    have HF : Hid (R = false) := hf
    clear hf
    go_enter Tryz.func157, Tryz.ntmps157
    go_wp2_with fail
    go_ret
    exact ⟨by rw [HF.out]; rfl, rfl⟩
  · have hl' : decide ((6 : Int) < (l : Int)) = false := by simp; omega
    have e7 : 7 - l = (6 - l) + 1 := by omega
    by_cases h64 : 64 < n
    · have hl2 : decide ((64 : Int) < (n : Int)) = true := by simp; omega
      have hf : R = false := by rw [HRR.out, e7, flat_list, decide_eq_false (by rw [← HN.out]; omega)]; rfl
      have HF : Hid (R = false) := hf
      clear hf
      go_enter Tryz.func157, Tryz.ntmps157
      go_wp2_with fail
      go_ret
      exact ⟨by rw [HF.out]; rfl, rfl⟩
    · have hl2 : decide ((64 : Int) < (n : Int)) = false := by simp; omega
      have hall : R = ks.all (flatU (6 - l)) := by rw [HRR.out, e7, flat_list, decide_eq_true (by rw [← HN.out]; omega)]; rfl
      have HA : Hid (R = ks.all (flatU (6 - l))) := hall
      clear hall e7
      go_enter Tryz.func157, Tryz.ntmps157
      go_wp2_with fail
      go_loopg [5] n (fun g r wr => wr = w ∧ ∃ i : Nat, g = n - i ∧ i ≤ n ∧ r = .int .i64 i ∧ Hid (∀ j, j < i → flatU (6 - l) (ks.getD j (textT [])) = true))
      case atStart => exact ⟨rfl, 0, rfl, by omega, rfl, fun j h => by omega⟩
      case round =>
        obtain ⟨hw, i, hg, hi, rfl, hd⟩ := hrel
        subst hw
        have HG : Hid (gk = n - i) := hg
        clear hg
        by_cases hlt : i < n
        · obtain ⟨b, o, v0, v1, v2, hka, g0, g1, g2, hit⟩ := row_item HR.out HN.out HK.out i hlt
          subst hka
          have hmem : ks.getD i (textT []) ∈ ks := by
            have hi' := hlt
            rw [HN.out] at hi'
            have e : ks.getD i (textT []) = ks[i] := by simp [List.getD, List.getElem?_eq_getElem hi']
            rw [e]; exact List.getElem_mem hi'
          have HMM : Hid (ks.getD i (textT []) ∈ ks) := hmem
          clear hmem
          rcases item_inv hit with ⟨t, rfl, rfl, hx, ht⟩ | ⟨e, t, ks2, xs2, hde, rfl, rfl, hx, hr2, hb2, hk2⟩
          · have HX : Hid (ks.getD i (textT []) = textT t.data.toList) := hx
            clear hx hit
            go_wp2_with fail
            go_roundg (n - (i + 1))
            case measure => have := HG.out; omega
            case rel => exact ⟨rfl, i + 1, rfl, by omega, by go_num, fun j hj => by
                by_cases e : j = i
                · subst e; rw [HX.out]; exact flat_text _ _
                · exact hd.out j (by omega)⟩
          · have HX : Hid (ks.getD i (textT []) = listT ks2) := hx
            have hcall := HI.out e hde wr S v2 ks2 xs2 (l + 1) (by omega) (by omega) hr2 hb2 hk2
            have ecast : ((l + 1 : Nat) : Int) = (l : Int) + 1 := by omega
            rw [ecast] at hcall
            have HC : Hid (Calls Tryz.prog 157 #[v2, .int .i64 ((l : Int) + 1)] wr fun e w' => e = .returned (.bool (flatU (7 - (l + 1)) (listT ks2))) ∧ w' = wr) := hcall
            clear hx hit hcall hr2 hk2 hde
            go_wp2_with fail
            refine HC.out.mono ?_
            have e6 : 7 - (l + 1) = 6 - l := by omega
            rw [e6]
            cases hfl : flatU (6 - l) (listT ks2) with
            | true =>
              have HFL : Hid (flatU (6 - l) (listT ks2) = true) := hfl
              clear hfl HC ecast e6
              rintro e w' ⟨rfl, hw'⟩
              subst hw'
              go_wp2_with fail
              go_roundg (n - (i + 1))
              case measure => have := HG.out; omega
              case rel => exact ⟨rfl, i + 1, rfl, by omega, by go_num, fun j hj => by
                  by_cases e : j = i
                  · subst e; rw [HX.out]; exact HFL.out
                  · exact hd.out j (by omega)⟩
            | false =>
              have hf : R = false := by
                rw [HA.out]
                cases hq : ks.all (flatU (6 - l)) with
                | false => rfl
                | true => have := List.all_eq_true.1 hq _ HMM.out; rw [HX.out, hfl] at this; cases this
              have HF : Hid (R = false) := hf
              clear hfl HC ecast e6 hf
              rintro e w' ⟨rfl, hw'⟩
              subst hw'
              go_wp2_with fail
              go_ret
              exact ⟨by rw [HF.out]; rfl, rfl⟩
        · have ht : R = true := by
            rw [HA.out]
            refine List.all_eq_true.2 fun x hx => ?_
            obtain ⟨j, hj, rfl⟩ := List.getElem_of_mem hx
            have := hd.out j (by have := HN.out; omega)
            have e : ks.getD j (textT []) = ks[j] := by simp [List.getD, List.getElem?_eq_getElem hj]
            rw [e] at this; exact this
          have HT : Hid (R = true) := ht
          clear ht
          go_wp2_with fail
          go_ret
          exact ⟨by rw [HT.out]; rfl, rfl⟩

theorem within_all : ∀ d, WithinSaid d
  | 0 => within_of 0 (fun e h => by omega)
  | d + 1 => within_of (d + 1) (fun e h => by
      have : e = d := by omega
      subst this
      exact within_all e)
end Go.Proofs.YtenmjjpkbcogbaaGreatDoor

/- RlpN -/
namespace Go.Proofs.YtenmjjpkbcogbaaGreatDoor
open Go.RowKit

def encErr (x : Tree) : Int := if flatU 6 x = true then (if fitsC (codeU 6 x) = true then 0 else 1) else 8
def encOut (x : Tree) : ByteArray := if flatU 6 x = true then outC (codeU 6 x) else ByteArray.empty

set_option maxRecDepth 100000 in
set_option maxHeartbeats 1000000 in
theorem encode_calls (w : World) (S : Nat → Prop) (v0 v1 v2 : Value) (x : Tree) (hx : ItemIs 6 w S [v0, v1, v2] x) :
    Calls Tryz.prog 63 #[.agg #[v0, v1, v2]] w fun e w' => e = .returned (.tuple #[.string (encOut x), .int .i64 (encErr x)]) ∧ Below w.heap.size w w' := by
  have hbel : Below w.heap.size w (w.alloc (.cells #[v0, v1, v2] 56)) := (Below.refl _ _).alloc (Nat.le_refl _) _
  have HX : Hid (ItemIs 6 (w.alloc (.cells #[v0, v1, v2] 56)) S [v0, v1, v2] x) := hx.below hbel
  have HB : Hid (Below w.heap.size w (w.alloc (.cells #[v0, v1, v2] 56))) := hbel
  rcases item_inv hx with ⟨t, rfl, rfl, rfl, ht⟩ | ⟨e, t, ks, xs, he, rfl, rfl, rfl, hr, hb, hk⟩
  · have hfl := flat_text 6 t.data.toList
    have ho : encOut (textT t.data.toList) = outC (codeU 6 (textT t.data.toList)) := by unfold encOut; rw [if_pos hfl]
    have he : encErr (textT t.data.toList) = (if fitsC (codeU 6 (textT t.data.toList)) = true then 0 else 1) := by unfold encErr; rw [if_pos hfl]
    have HEO : Hid (encOut (textT t.data.toList) = outC (codeU 6 (textT t.data.toList))) := ho
    have HEE : Hid (encErr (textT t.data.toList) = (if fitsC (codeU 6 (textT t.data.toList)) = true then 0 else 1)) := he
    clear hx hbel ho he hfl
    go_enter Tryz.func63, Tryz.ntmps63
    go_wp2_with fail
    refine ((code_all 6).1 _ S _ _ _ _ HX.out).mono ?_
    rintro e w1 ⟨rfl, B1⟩
    have HB1 : Hid (Below w.heap.size w w1) := HB.out.trans (B1.mono HB.out.size)
    clear B1
    generalize codeU 6 (textT t.data.toList) = c at *
    cases hf : fitsC c with
    | true =>
      have HF : Hid (fitsC c = true) := hf
      clear hf
      go_wp2_with fail
      go_ret2
      exact ⟨by rw [HEO.out, HEE.out, HF.out]; rfl, HB1.out⟩
    | false =>
      have HF : Hid (fitsC c = false) := hf
      have HO : Hid (outC c = ByteArray.empty) := by unfold outC; rw [hf]; rfl
      clear hf
      go_wp2_with fail
      go_ret2
      exact ⟨by rw [HEO.out, HEE.out, HF.out, HO.out]; rfl, HB1.out⟩
  · obtain rfl : e = 5 := by omega
    have hw := within_all 5 _ S v2 ks xs 1 (by omega) (by omega) (hr.below hbel) hb (fun i hi => (hk i hi).below hbel)
    have HW : Hid (Calls Tryz.prog 157 #[v2, .int .i64 1] (w.alloc (.cells #[.bool true, .string t, v2] 56)) fun e w' => e = .returned (.bool (flatU 6 (listT ks))) ∧ w' = w.alloc (.cells #[.bool true, .string t, v2] 56)) := hw
    cases hfl : flatU 6 (listT ks) with
    | false =>
      have ho : encOut (listT ks) = ByteArray.empty := by unfold encOut; rw [hfl]; rfl
      have he : encErr (listT ks) = 8 := by unfold encErr; rw [hfl]; rfl
      rw [ho, he]
      have HFL : Hid (flatU 6 (listT ks) = false) := hfl
      clear hx hbel ho he hfl hr hk hw
      go_enter Tryz.func63, Tryz.ntmps63
      go_wp2_with fail
      refine HW.out.mono ?_
      rw [HFL.out]
      rintro e w1 ⟨rfl, hw1⟩
      subst hw1
      go_wp2_with fail
      go_ret2
      exact ⟨rfl, HB.out⟩
    | true =>
      have ho : encOut (listT ks) = outC (codeU 6 (listT ks)) := by unfold encOut; rw [if_pos hfl]
      have he : encErr (listT ks) = (if fitsC (codeU 6 (listT ks)) = true then 0 else 1) := by unfold encErr; rw [if_pos hfl]
      have HEO : Hid (encOut (listT ks) = outC (codeU 6 (listT ks))) := ho
      have HEE : Hid (encErr (listT ks) = (if fitsC (codeU 6 (listT ks)) = true then 0 else 1)) := he
      have HFL : Hid (flatU 6 (listT ks) = true) := hfl
      clear hx hbel ho he hfl hr hk hw
      go_enter Tryz.func63, Tryz.ntmps63
      go_wp2_with fail
      refine HW.out.mono ?_
      rw [HFL.out]
      rintro e w1 ⟨rfl, hw1⟩
      subst hw1
      go_wp2_with fail
      refine ((code_all 6).1 _ S _ _ _ _ HX.out).mono ?_
      rintro e w1 ⟨rfl, B1⟩
      have HB1 : Hid (Below w.heap.size w w1) := HB.out.trans (B1.mono HB.out.size)
      clear B1
      generalize codeU 6 (listT ks) = c at *
      cases hf : fitsC c with
      | true =>
        have HF : Hid (fitsC c = true) := hf
        clear hf
        go_wp2_with fail
        go_ret2
        exact ⟨by rw [HEO.out, HEE.out, HF.out]; rfl, HB1.out⟩
      | false =>
        have HF : Hid (fitsC c = false) := hf
        have HO : Hid (outC c = ByteArray.empty) := by unfold outC; rw [hf]; rfl
        clear hf
        go_wp2_with fail
        go_ret2
        exact ⟨by rw [HEO.out, HEE.out, HF.out, HO.out]; rfl, HB1.out⟩
end Go.Proofs.YtenmjjpkbcogbaaGreatDoor

/- RlpF -/
namespace Go.Proofs.YtenmjjpkbcogbaaGreatDoor
open Go.RowKit

def spanV (l : Bool) (f t : Nat) : Value := .agg #[.bool l, .int .i64 f, .int .i64 t]

set_option maxHeartbeats 400000 in
theorem spanOf_bad (s : ByteArray) (l : Bool) (f n : Nat) (hs : s.size ≤ 4096) (hf : f ≤ s.size) (hn : s.size - f < n) (w : World) :
    Calls Tryz.prog 273 #[.string s, .bool l, .int .i64 f, .int .u64 n] w fun e w' => e = .returned (.tuple #[spanV false 0 0, .int .i64 5]) ∧ Below w.heap.size w w' := by
  have hw : IntKind.u64.wrap ((s.size : Int) - (f : Int)) = (s.size : Int) - (f : Int) := by rw [IntKind.wrap_u64]; omega
  have hlt : decide ((s.size : Int) - (f : Int) < (n : Int)) = true := by simp; omega
  go_enter Tryz.func273, Tryz.ntmps273
  go_wp2
  exact bodyPost_ret (v := .tuple #[.agg #[.bool false, .int .i64 0, .int .i64 0], .int .i64 5]) (by simp [results, Tryz.results273, go_sem]) rfl ⟨rfl, (Below.refl _ _).alloc (Nat.le_refl _) _⟩

set_option maxHeartbeats 400000 in
theorem spanOf_ok (s : ByteArray) (l : Bool) (f n : Nat) (hs : s.size ≤ 4096) (hf : f ≤ s.size) (hn : ¬ s.size - f < n) (w : World) :
    Calls Tryz.prog 273 #[.string s, .bool l, .int .i64 f, .int .u64 n] w fun e w' => e = .returned (.tuple #[spanV l f (f + n), .int .i64 0]) ∧ Below w.heap.size w w' := by
  have hw : IntKind.u64.wrap ((s.size : Int) - (f : Int)) = (s.size : Int) - (f : Int) := by rw [IntKind.wrap_u64]; omega
  have hlt : decide ((s.size : Int) - (f : Int) < (n : Int)) = false := by simp; omega
  have hn4 : n ≤ 4096 := by omega
  have hw2 : IntKind.i64.wrap (n : Int) = (n : Int) := by rw [IntKind.wrap_i64]; omega
  have HE : Hid (((f + n : Nat) : Int) = (f : Int) + (n : Int)) := by exact Int.natCast_add f n
  go_enter Tryz.func273, Tryz.ntmps273
  go_wp2
  exact bodyPost_ret (v := .tuple #[.agg #[.bool l, .int .i64 f, .int .i64 ((f : Int) + (n : Int))], .int .i64 0]) (by simp [results, Tryz.results273, go_sem]) rfl ⟨by unfold spanV; rw [HE.out], (Below.refl _ _).alloc (Nat.le_refl _) _⟩

theorem or256 (m c : Nat) (hm : m * 256 < 18446744073709551616) (hc : c < 256) : bits .or .u64 (IntKind.u64.wrap ((m : Int) * 256)) (c : Int) = ((m * 256 + c : Nat) : Int) := by
  have e : IntKind.u64.wrap ((m : Int) * 256) = ((m * 256 : Nat) : Int) := by rw [IntKind.wrap_u64]; omega
  rw [e, u64_or_nat _ _ hm (by omega), nat_join 8 (m * 256) c (by omega) (by omega)]
theorem be_take_succ (s : ByteArray) (k : Nat) (h : k < s.size) : be (s.data.toList.take (k + 1)) = be (s.data.toList.take k) * 256 + (s[k]).toNat := by
  have e : s.data.toList.take (k + 1) = s.data.toList.take k ++ [s[k]] := by
    rw [List.take_succ_eq_append_getElem (by simpa using h)]; rfl
  rw [e, be_snoc]
theorem pow256 (k : Nat) (h : k ≤ 7) : 256 ^ k ≤ 72057594037927936 := by
  have : 256 ^ k ≤ 256 ^ 7 := Nat.pow_le_pow_right (by omega) h
  exact this

def lenErr (s : List UInt8) (n : Nat) : Nat := if s.length < n then 5 else if (s.getD 0 0).toNat = 0 ∨ be (s.take n) ≤ 55 then 7 else 0
def lenVal (s : List UInt8) (n : Nat) : Nat := if lenErr s n = 0 then be (s.take n) else 0

set_option maxRecDepth 100000 in
set_option maxHeartbeats 1000000 in
theorem lengthOf_calls (s : ByteArray) (n : Nat) (hs : s.size ≤ 4096) (h1 : 1 ≤ n) (h8 : n ≤ 8) (w : World) :
    Calls Tryz.prog 274 #[.string s, .int .i64 n] w fun e w' => e = .returned (.tuple #[.int .u64 (lenVal s.data.toList n), .int .i64 (lenErr s.data.toList n)]) ∧ w' = w := by
  have hl : s.data.toList.length = s.size := by simp
  by_cases hlt : s.size < n
  · have he : lenErr s.data.toList n = 5 := by unfold lenErr; rw [hl, if_pos hlt]
    have hv : lenVal s.data.toList n = 0 := by unfold lenVal; rw [he]; rfl
    have HE : Hid (lenErr s.data.toList n = 5 ∧ lenVal s.data.toList n = 0) := ⟨he, hv⟩
    have hlt' : decide ((s.size : Int) < (n : Int)) = true := by simp; omega
    clear he hv hl
    go_enter Tryz.func274, Tryz.ntmps274
    go_wp2_with fail
    go_ret2
    exact ⟨by rw [HE.out.1, HE.out.2]; rfl, rfl⟩
  · have hlt' : decide ((s.size : Int) < (n : Int)) = false := by simp; omega
    have hp : 0 < s.size := by omega
    have HL : Hid (s.data.toList.length = s.size) := hl
    clear hl
    go_enter Tryz.func274, Tryz.ntmps274
    go_wp2_with fail
    go_loopg [6, 7] n (fun g z r wr => wr = w ∧ ∃ k : Nat, g = n - k ∧ k ≤ n ∧ r = .int .i64 k ∧ z = .int .u64 (be (s.data.toList.take k)))
    case atStart => exact ⟨rfl, 0, rfl, by omega, rfl, rfl⟩
    case round =>
      obtain ⟨hw, k, hg, hk, rfl, rfl⟩ := hrel
      subst hw
      have HG : Hid (gk = n - k) := hg
      clear hg
      by_cases hkn : k < n
      · have hks : k < s.size := by omega
        have HS : Hid (be (s.data.toList.take (k + 1)) = be (s.data.toList.take k) * 256 + (s[k]).toNat) := be_take_succ s k hks
        have hblt := be_lt (s.data.toList.take k)
        have hp7 := pow256 k (by omega)
        have hlk : (s.data.toList.take k).length = k := by rw [List.length_take, HL.out]; omega
        rw [hlk] at hblt
        have hb : be (s.data.toList.take k) < 72057594037927936 := by omega
        clear hblt hp7 hlk
        generalize be (s.data.toList.take k) = m at *
        have hcb : (s[k]).toNat < 256 := (s[k]).toNat_lt
        have hv := or256 m (s[k]).toNat (by omega) hcb
        have hcw : IntKind.u64.wrap ((s[k]).toNat : Int) = ((s[k]).toNat : Int) := by rw [IntKind.wrap_u64]; omega
        obtain ⟨M, hM⟩ : ∃ M : Nat, M = m * 256 + (s[k]).toNat := ⟨_, rfl⟩
        rw [← hM] at hv
        have HM : Hid (M = m * 256 + (s[k]).toNat) := hM
        clear hM hb hcb
        have hkn' : (k : Int) < (n : Int) := by omega
        go_wp2_with fail
        go_roundg (n - (k + 1))
        case measure => have := HG.out; omega
        case rel => exact ⟨rfl, k + 1, rfl, by omega, by go_num, by rw [HS.out, ← HM.out]⟩
      · have : k = n := by omega
        subst this
        have e0 : s.data.toList.getD 0 0 = s[0] := by rw [List.getD_eq_getElem?_getD, List.getElem?_eq_getElem (by rw [HL.out]; exact hp)]; rfl
        have hee : lenErr s.data.toList k = if (s[0]).toNat = 0 ∨ be (s.data.toList.take k) ≤ 55 then 7 else 0 := by
          unfold lenErr; rw [HL.out, if_neg hlt, e0]
        have hkn' : ¬ ((k : Int) < (k : Int)) := by omega
        have HEE : Hid (lenErr s.data.toList k = if (s[0]).toNat = 0 ∨ be (s.data.toList.take k) ≤ 55 then 7 else 0) := hee
        have HVV : Hid (lenVal s.data.toList k = if lenErr s.data.toList k = 0 then be (s.data.toList.take k) else 0) := rfl
        clear hee e0
        generalize be (s.data.toList.take k) = m at *
        by_cases hz : (s[0]).toNat = 0
        · have hz' : (((s[0]).toNat : Int) == 0) = true := beq_iff_eq.2 (by omega)
          have he : lenErr s.data.toList k = 7 := by rw [HEE.out, if_pos (.inl hz)]
          have HE : Hid (lenErr s.data.toList k = 7 ∧ lenVal s.data.toList k = 0) := ⟨he, by rw [HVV.out, he]; rfl⟩
          clear he HEE HVV hz
          go_wp2_with fail
          go_ret2
          exact ⟨by rw [HE.out.1, HE.out.2]; rfl, rfl⟩
        · have hz' : (((s[0]).toNat : Int) == 0) = false := beq_eq_false_iff_ne.2 (by omega)
          by_cases h55 : m ≤ 55
          · have h55' : decide ((m : Int) ≤ 55) = true := by simp; omega
            have he : lenErr s.data.toList k = 7 := by rw [HEE.out, if_pos (.inr h55)]
            have HE : Hid (lenErr s.data.toList k = 7 ∧ lenVal s.data.toList k = 0) := ⟨he, by rw [HVV.out, he]; rfl⟩
            clear he HEE HVV hz
            go_wp2_with fail
            go_ret2
            exact ⟨by rw [HE.out.1, HE.out.2]; rfl, rfl⟩
          · have h55' : decide ((m : Int) ≤ 55) = false := by simp; omega
            have he : lenErr s.data.toList k = 0 := by rw [HEE.out, if_neg (by omega)]
            have HE : Hid (lenErr s.data.toList k = 0 ∧ lenVal s.data.toList k = m) := ⟨he, by rw [HVV.out, he]; rfl⟩
            clear he HEE HVV hz
            go_wp2_with fail
            go_ret2
            exact ⟨by rw [HE.out.1, HE.out.2]; rfl, rfl⟩
end Go.Proofs.YtenmjjpkbcogbaaGreatDoor

/- RlpG -/
namespace Go.Proofs.YtenmjjpkbcogbaaGreatDoor
open Go.RowKit

def findA : Except Nat (Bool × Nat × Nat) → Value
  | .error _ => spanV false 0 0
  | .ok (l, f, n) => spanV l f (f + n)
def findE : Except Nat (Bool × Nat × Nat) → Nat
  | .error e => e
  | .ok _ => 0

theorem bcell {W w1 : World} (hb : Below W.heap.size W w1) : (∀ b o, b < W.heap.size → w1.cell? ⟨b, o, none⟩ = W.cell? ⟨b, o, none⟩) ∧ (∀ b o, b < W.heap.size → w1.frozen? ⟨b, o, none⟩ = W.frozen? ⟨b, o, none⟩) :=
  ⟨fun b o h => hb.cell (p := ⟨b, o, none⟩) h, fun b o h => hb.frozen (p := ⟨b, o, none⟩) h⟩
theorem res3 {w w1 : World} {x y z : Value} {T : TypeId} (hb : Below (w.alloc (.cells #[x, y, z] T)).heap.size (w.alloc (.cells #[x, y, z] T)) w1) :
    w1.cell? ⟨w.heap.size, 0, none⟩ = some x ∧ w1.cell? ⟨w.heap.size, 1, none⟩ = some y ∧ w1.cell? ⟨w.heap.size, 2, none⟩ = some z ∧ w1.frozen? ⟨w.heap.size, 0, none⟩ = false ∧ w1.frozen? ⟨w.heap.size, 1, none⟩ = false ∧ w1.frozen? ⟨w.heap.size, 2, none⟩ = false := by
  obtain ⟨h1, h2⟩ := bcell hb
  refine ⟨?_, ?_, ?_, ?_, ?_, ?_⟩
  · rw [h1 _ _ (by simp)]; simp
  · rw [h1 _ _ (by simp)]; simp
  · rw [h1 _ _ (by simp)]; simp
  · rw [h2 _ _ (by simp)]; simp
  · rw [h2 _ _ (by simp)]; simp
  · rw [h2 _ _ (by simp)]; simp
theorem drop1 (s : ByteArray) : (s.extract 1 s.size).data.toList = s.data.toList.drop 1 := by
  rw [Lib.extract_data, List.take_of_length_le (by simp)]

/-- what headR tells, by the first byte -/
theorem headR_nil (s : List UInt8) (h : s.length = 0) : headR s = .error 5 := by unfold headR; rw [if_pos h]
theorem headR_low (s : List UInt8) (h : s.length ≠ 0) (c : Nat) (hc : (s.getD 0 0).toNat = c) (h1 : c < 128) : headR s = .ok (false, 0, 1) := by
  unfold headR; rw [if_neg h, hc, if_pos h1]
theorem headR_short (s : List UInt8) (h : s.length ≠ 0) (c base : Nat) (hc : (s.getD 0 0).toNat = c) (h1 : ¬ c < 128) (hb : base = if 192 ≤ c then 192 else 128) (h2 : c - base ≤ 55) : headR s = spanR s (decide (192 ≤ c)) 1 (c - base) := by
  unfold headR; rw [if_neg h, hc, if_neg h1, ← hb, if_pos h2]
theorem headR_long (s : List UInt8) (h : s.length ≠ 0) (c base : Nat) (hc : (s.getD 0 0).toNat = c) (h1 : ¬ c < 128) (hb : base = if 192 ≤ c then 192 else 128) (h2 : ¬ c - base ≤ 55) :
    headR s = if lenErr (s.drop 1) (c - base - 55) = 0 then spanR s (decide (192 ≤ c)) (1 + (c - base) - 55) (lenVal (s.drop 1) (c - base - 55)) else .error (lenErr (s.drop 1) (c - base - 55)) := by
  have e1 : (s.drop 1).getD 0 0 = s.getD 1 0 := by rw [List.getD_eq_getElem?_getD, List.getElem?_drop, List.getD_eq_getElem?_getD]
  have hL : lenErr (s.drop 1) (c - base - 55) = if s.length - 1 < c - base - 55 then 5 else if (s.getD 1 0).toNat = 0 ∨ be ((s.drop 1).take (c - base - 55)) ≤ 55 then 7 else 0 := by
    unfold lenErr; rw [List.length_drop, e1]
  have hV : lenVal (s.drop 1) (c - base - 55) = if lenErr (s.drop 1) (c - base - 55) = 0 then be ((s.drop 1).take (c - base - 55)) else 0 := rfl
  unfold headR
  rw [if_neg h, hc, if_neg h1, ← hb, if_neg h2]
  by_cases h3 : s.length - 1 < c - base - 55
  · rw [if_pos h3]
    rw [if_pos h3] at hL
    rw [hL]; rfl
  · rw [if_neg h3]
    rw [if_neg h3] at hL
    by_cases h4 : (s.getD 1 0).toNat = 0 ∨ be ((s.drop 1).take (c - base - 55)) ≤ 55
    · rw [if_pos h4]
      rw [if_pos h4] at hL
      rw [hL]; rfl
    · rw [if_neg h4]
      rw [if_neg h4] at hL
      rw [hV, hL, if_pos rfl, if_pos rfl]

set_option maxRecDepth 100000 in
set_option maxHeartbeats 1000000 in
theorem find_calls (s : ByteArray) (hs : s.size ≤ 4096) (w : World) :
    Calls Tryz.prog 230 #[.string s] w fun e w' => e = .returned (.tuple #[findA (headR s.data.toList), .int .i64 (findE (headR s.data.toList))]) ∧ Below w.heap.size w w' := by
  have hl : s.data.toList.length = s.size := by simp
  by_cases h0 : s.size = 0
  · rw [headR_nil _ (by rw [hl]; exact h0)]
    have h0' : ((s.size : Int) == 0) = true := beq_iff_eq.2 (by omega)
    clear hl h0
    go_enter Tryz.func230, Tryz.ntmps230
    go_wp2_with fail
    exact bodyPost_ret (v := .tuple #[.agg #[.bool false, .int .i64 0, .int .i64 0], .int .i64 5]) (by simp [results, Tryz.results230, go_sem]) rfl ⟨rfl, (Below.refl _ _).alloc (Nat.le_refl _) _⟩
  have h0' : ((s.size : Int) == 0) = false := beq_eq_false_iff_ne.2 (by omega)
  have hp : 0 < s.size := by omega
  have hln : s.data.toList.length ≠ 0 := by rw [hl]; exact h0
  obtain ⟨c, hcc⟩ : ∃ c : Nat, (s[0]).toNat = c := ⟨_, rfl⟩
  have hcb : c < 256 := by rw [← hcc]; exact (s[0]).toNat_lt
  have hc : (s.data.toList.getD 0 0).toNat = c := by rw [List.getD_eq_getElem?_getD, List.getElem?_eq_getElem (by rw [hl]; exact hp)]; exact hcc
  by_cases h1 : c < 128
  · rw [headR_low _ hln c hc h1]
    have h1' : decide ((c : Int) < 128) = true := by simp; omega
    clear hl hln hc
    go_enter Tryz.func230, Tryz.ntmps230
    go_wp2_with fail
    exact bodyPost_ret (v := .tuple #[.agg #[.bool false, .int .i64 0, .int .i64 1], .int .i64 0]) (by simp [results, Tryz.results230, go_sem]) rfl ⟨rfl, (Below.refl _ _).alloc (Nat.le_refl _) _⟩
  have h1' : decide ((c : Int) < 128) = false := by simp; omega
  by_cases h2 : 192 ≤ c
  · have h2' : decide ((192 : Int) ≤ (c : Int)) = true := by simp; omega
    have hbase : 192 = if 192 ≤ c then 192 else 128 := by rw [if_pos h2]
    have hdl : decide (192 ≤ c) = true := decide_eq_true h2
    obtain ⟨n, hn⟩ : ∃ n : Nat, n = c - 192 := ⟨_, rfl⟩
    have hni : (c : Int) - 192 = (n : Int) := by omega
    have hnw : IntKind.u64.wrap (n : Int) = (n : Int) := by rw [IntKind.wrap_u64]; omega
    by_cases h55 : n ≤ 55
    · have h55' : decide ((n : Int) ≤ 55) = true := by simp; omega
      have hR := headR_short s.data.toList hln c 192 hc h1 hbase (by omega)
      rw [hdl, ← hn] at hR
      unfold spanR at hR
      rw [hl] at hR
      by_cases hsp : s.size - 1 < n
      · rw [if_pos hsp] at hR
        rw [hR]
        have HSP : Hid (s.size - 1 < n) := hsp
        clear hl hln hc hR hbase hdl hn hsp
        go_enter Tryz.func230, Tryz.ntmps230
        go_wp2_with fail
        refine (spanOf_bad s true 1 n hs hp HSP.out _).mono ?_
        rintro e w1 ⟨rfl, B1⟩
        obtain ⟨k0, k1, k2, f0, f1, f2⟩ := res3 B1
        have HB1 : Hid (Below w.heap.size w w1) := ((Below.refl _ _).alloc (Nat.le_refl _) _).trans (B1.mono (by simp))
        clear B1
        unfold spanV
        go_wp2_with fail
        exact bodyPost_ret (v := .tuple #[.agg #[.bool false, .int .i64 0, .int .i64 0], .int .i64 5]) (by simp [results, Tryz.results230, go_sem, k0, k1, k2]) rfl ⟨rfl, ((HB1.out.setCell (Nat.le_refl _) _).setCell (Nat.le_refl _) _).setCell (Nat.le_refl _) _⟩
      · rw [if_neg hsp] at hR
        rw [hR]
        have HSP : Hid (¬ s.size - 1 < n) := hsp
        clear hl hln hc hR hbase hdl hn hsp
        go_enter Tryz.func230, Tryz.ntmps230
        go_wp2_with fail
        refine (spanOf_ok s true 1 n hs hp HSP.out _).mono ?_
        rintro e w1 ⟨rfl, B1⟩
        obtain ⟨k0, k1, k2, f0, f1, f2⟩ := res3 B1
        have HB1 : Hid (Below w.heap.size w w1) := ((Below.refl _ _).alloc (Nat.le_refl _) _).trans (B1.mono (by simp))
        clear B1
        unfold spanV
        go_wp2_with fail
        exact bodyPost_ret (v := .tuple #[.agg #[.bool true, .int .i64 ((1 : Nat) : Int), .int .i64 ((1 + n : Nat) : Int)], .int .i64 0]) (by simp [results, Tryz.results230, go_sem, k0, k1, k2]) rfl ⟨rfl, ((HB1.out.setCell (Nat.le_refl _) _).setCell (Nat.le_refl _) _).setCell (Nat.le_refl _) _⟩
    · have h55' : decide ((n : Int) ≤ 55) = false := by simp; omega
      have hn64 : n ≤ 63 := by omega
      obtain ⟨q, hq⟩ : ∃ q : Nat, q = n - 55 := ⟨_, rfl⟩
      have hqi : (n : Int) - 55 = (q : Int) := by omega
      have hq1 : 1 ≤ q := by omega
      have hq8 : q ≤ 8 := by omega
      have hfi : 1 + (n : Int) - 55 = ((1 + q : Nat) : Int) := by omega
      have hR := headR_long s.data.toList hln c 192 hc h1 hbase (by omega)
      rw [hdl, ← hn, ← hq, show 1 + n - 55 = 1 + q by omega] at hR
      have hez : (s.extract 1 s.size).size ≤ 4096 := by simp only [ByteArray.size_extract]; omega
      have hlen := lengthOf_calls (s.extract 1 s.size) q hez hq1 hq8
      rw [drop1] at hlen
      have HLC : Hid (∀ w : World, Calls Tryz.prog 274 #[.string (s.extract 1 s.size), .int .i64 q] w fun e w' => e = .returned (.tuple #[.int .u64 (lenVal (s.data.toList.drop 1) q), .int .i64 (lenErr (s.data.toList.drop 1) q)]) ∧ w' = w) := hlen
      have hfq : lenErr (s.data.toList.drop 1) q = 0 → 1 + q ≤ s.size := by
        intro he
        unfold lenErr at he
        rw [List.length_drop, hl] at he
        by_cases h : s.size - 1 < q
        · rw [if_pos h] at he; cases he
        · omega
      generalize lenErr (s.data.toList.drop 1) q = E at *
      generalize lenVal (s.data.toList.drop 1) q = V at *
      by_cases hE : E = 0
      · subst hE
        rw [if_pos rfl] at hR
        unfold spanR at hR
        rw [hl] at hR
        have hfs := hfq rfl
        by_cases hsp : s.size - (1 + q) < V
        · rw [if_pos hsp] at hR
          rw [hR]
          have HSP : Hid (s.size - (1 + q) < V) := hsp
          have HFS : Hid (1 + q ≤ s.size) := hfs
          clear hl hln hc hR hbase hdl hn hsp hlen hq hfq hfs hez
          go_enter Tryz.func230, Tryz.ntmps230
          go_wp2_with fail
          refine (HLC.out _).mono ?_
          rintro e w0 ⟨rfl, hw0⟩
          subst hw0
          go_wp2_with fail
          refine (spanOf_bad s true (1 + q) V hs HFS.out HSP.out _).mono ?_
          rintro e w1 ⟨rfl, B1⟩
          obtain ⟨k0, k1, k2, f0, f1, f2⟩ := res3 B1
          have HB1 : Hid (Below w.heap.size w w1) := ((Below.refl _ _).alloc (Nat.le_refl _) _).trans (B1.mono (by simp))
          clear B1
          unfold spanV
          go_wp2_with fail
          exact bodyPost_ret (v := .tuple #[.agg #[.bool false, .int .i64 0, .int .i64 0], .int .i64 5]) (by simp [results, Tryz.results230, go_sem, k0, k1, k2]) rfl ⟨rfl, ((HB1.out.setCell (Nat.le_refl _) _).setCell (Nat.le_refl _) _).setCell (Nat.le_refl _) _⟩
        · rw [if_neg hsp] at hR
          rw [hR]
          have HSP : Hid (¬ s.size - (1 + q) < V) := hsp
          have HFS : Hid (1 + q ≤ s.size) := hfs
          clear hl hln hc hR hbase hdl hn hsp hlen hq hfq hfs hez
          go_enter Tryz.func230, Tryz.ntmps230
          go_wp2_with fail
          refine (HLC.out _).mono ?_
          rintro e w0 ⟨rfl, hw0⟩
          subst hw0
          go_wp2_with fail
          refine (spanOf_ok s true (1 + q) V hs HFS.out HSP.out _).mono ?_
          rintro e w1 ⟨rfl, B1⟩
          obtain ⟨k0, k1, k2, f0, f1, f2⟩ := res3 B1
          have HB1 : Hid (Below w.heap.size w w1) := ((Below.refl _ _).alloc (Nat.le_refl _) _).trans (B1.mono (by simp))
          clear B1
          unfold spanV
          go_wp2_with fail
          exact bodyPost_ret (v := .tuple #[.agg #[.bool true, .int .i64 ((1 + q : Nat) : Int), .int .i64 ((1 + q + V : Nat) : Int)], .int .i64 0]) (by simp [results, Tryz.results230, go_sem, k0, k1, k2]) rfl ⟨rfl, ((HB1.out.setCell (Nat.le_refl _) _).setCell (Nat.le_refl _) _).setCell (Nat.le_refl _) _⟩
      · rw [if_neg hE] at hR
        rw [hR]
        have hE' : ((E : Int) != 0) = true := by simp; omega
        clear hl hln hc hR hbase hdl hn hlen hq hfq hez
        go_enter Tryz.func230, Tryz.ntmps230
        go_wp2_with fail
        refine (HLC.out _).mono ?_
        rintro e w0 ⟨rfl, hw0⟩
        subst hw0
        go_wp2_with fail
        exact bodyPost_ret (v := .tuple #[.agg #[.bool false, .int .i64 0, .int .i64 0], .int .i64 (E : Int)]) (by simp [results, Tryz.results230, go_sem]) rfl ⟨rfl, (Below.refl _ _).alloc (Nat.le_refl _) _⟩
  · have h2' : decide ((192 : Int) ≤ (c : Int)) = false := by simp; omega
    have hbase : 128 = if 192 ≤ c then 192 else 128 := by rw [if_neg h2]
    have hdl : decide (192 ≤ c) = false := decide_eq_false h2
    obtain ⟨n, hn⟩ : ∃ n : Nat, n = c - 128 := ⟨_, rfl⟩
    have hni : (c : Int) - 128 = (n : Int) := by omega
    have hnw : IntKind.u64.wrap (n : Int) = (n : Int) := by rw [IntKind.wrap_u64]; omega
    by_cases h55 : n ≤ 55
    · have h55' : decide ((n : Int) ≤ 55) = true := by simp; omega
      have hR := headR_short s.data.toList hln c 128 hc h1 hbase (by omega)
      rw [hdl, ← hn] at hR
      unfold spanR at hR
      rw [hl] at hR
      by_cases hsp : s.size - 1 < n
      · rw [if_pos hsp] at hR
        rw [hR]
        have HSP : Hid (s.size - 1 < n) := hsp
        clear hl hln hc hR hbase hdl hn hsp
        go_enter Tryz.func230, Tryz.ntmps230
        go_wp2_with fail
        refine (spanOf_bad s false 1 n hs hp HSP.out _).mono ?_
        rintro e w1 ⟨rfl, B1⟩
        obtain ⟨k0, k1, k2, f0, f1, f2⟩ := res3 B1
        have HB1 : Hid (Below w.heap.size w w1) := ((Below.refl _ _).alloc (Nat.le_refl _) _).trans (B1.mono (by simp))
        clear B1
        unfold spanV
        go_wp2_with fail
        exact bodyPost_ret (v := .tuple #[.agg #[.bool false, .int .i64 0, .int .i64 0], .int .i64 5]) (by simp [results, Tryz.results230, go_sem, k0, k1, k2]) rfl ⟨rfl, ((HB1.out.setCell (Nat.le_refl _) _).setCell (Nat.le_refl _) _).setCell (Nat.le_refl _) _⟩
      · rw [if_neg hsp] at hR
        rw [hR]
        have HSP : Hid (¬ s.size - 1 < n) := hsp
        clear hl hln hc hR hbase hdl hn hsp
        go_enter Tryz.func230, Tryz.ntmps230
        go_wp2_with fail
        refine (spanOf_ok s false 1 n hs hp HSP.out _).mono ?_
        rintro e w1 ⟨rfl, B1⟩
        obtain ⟨k0, k1, k2, f0, f1, f2⟩ := res3 B1
        have HB1 : Hid (Below w.heap.size w w1) := ((Below.refl _ _).alloc (Nat.le_refl _) _).trans (B1.mono (by simp))
        clear B1
        unfold spanV
        go_wp2_with fail
        exact bodyPost_ret (v := .tuple #[.agg #[.bool false, .int .i64 ((1 : Nat) : Int), .int .i64 ((1 + n : Nat) : Int)], .int .i64 0]) (by simp [results, Tryz.results230, go_sem, k0, k1, k2]) rfl ⟨rfl, ((HB1.out.setCell (Nat.le_refl _) _).setCell (Nat.le_refl _) _).setCell (Nat.le_refl _) _⟩
    · have h55' : decide ((n : Int) ≤ 55) = false := by simp; omega
      have hn64 : n ≤ 63 := by omega
      obtain ⟨q, hq⟩ : ∃ q : Nat, q = n - 55 := ⟨_, rfl⟩
      have hqi : (n : Int) - 55 = (q : Int) := by omega
      have hq1 : 1 ≤ q := by omega
      have hq8 : q ≤ 8 := by omega
      have hfi : 1 + (n : Int) - 55 = ((1 + q : Nat) : Int) := by omega
      have hR := headR_long s.data.toList hln c 128 hc h1 hbase (by omega)
      rw [hdl, ← hn, ← hq, show 1 + n - 55 = 1 + q by omega] at hR
      have hez : (s.extract 1 s.size).size ≤ 4096 := by simp only [ByteArray.size_extract]; omega
      have hlen := lengthOf_calls (s.extract 1 s.size) q hez hq1 hq8
      rw [drop1] at hlen
      have HLC : Hid (∀ w : World, Calls Tryz.prog 274 #[.string (s.extract 1 s.size), .int .i64 q] w fun e w' => e = .returned (.tuple #[.int .u64 (lenVal (s.data.toList.drop 1) q), .int .i64 (lenErr (s.data.toList.drop 1) q)]) ∧ w' = w) := hlen
      have hfq : lenErr (s.data.toList.drop 1) q = 0 → 1 + q ≤ s.size := by
        intro he
        unfold lenErr at he
        rw [List.length_drop, hl] at he
        by_cases h : s.size - 1 < q
        · rw [if_pos h] at he; cases he
        · omega
      generalize lenErr (s.data.toList.drop 1) q = E at *
      generalize lenVal (s.data.toList.drop 1) q = V at *
      by_cases hE : E = 0
      · subst hE
        rw [if_pos rfl] at hR
        unfold spanR at hR
        rw [hl] at hR
        have hfs := hfq rfl
        by_cases hsp : s.size - (1 + q) < V
        · rw [if_pos hsp] at hR
          rw [hR]
          have HSP : Hid (s.size - (1 + q) < V) := hsp
          have HFS : Hid (1 + q ≤ s.size) := hfs
          clear hl hln hc hR hbase hdl hn hsp hlen hq hfq hfs hez
          go_enter Tryz.func230, Tryz.ntmps230
          go_wp2_with fail
          refine (HLC.out _).mono ?_
          rintro e w0 ⟨rfl, hw0⟩
          subst hw0
          go_wp2_with fail
          refine (spanOf_bad s false (1 + q) V hs HFS.out HSP.out _).mono ?_
          rintro e w1 ⟨rfl, B1⟩
          obtain ⟨k0, k1, k2, f0, f1, f2⟩ := res3 B1
          have HB1 : Hid (Below w.heap.size w w1) := ((Below.refl _ _).alloc (Nat.le_refl _) _).trans (B1.mono (by simp))
          clear B1
          unfold spanV
          go_wp2_with fail
          exact bodyPost_ret (v := .tuple #[.agg #[.bool false, .int .i64 0, .int .i64 0], .int .i64 5]) (by simp [results, Tryz.results230, go_sem, k0, k1, k2]) rfl ⟨rfl, ((HB1.out.setCell (Nat.le_refl _) _).setCell (Nat.le_refl _) _).setCell (Nat.le_refl _) _⟩
        · rw [if_neg hsp] at hR
          rw [hR]
          have HSP : Hid (¬ s.size - (1 + q) < V) := hsp
          have HFS : Hid (1 + q ≤ s.size) := hfs
          clear hl hln hc hR hbase hdl hn hsp hlen hq hfq hfs hez
          go_enter Tryz.func230, Tryz.ntmps230
          go_wp2_with fail
          refine (HLC.out _).mono ?_
          rintro e w0 ⟨rfl, hw0⟩
          subst hw0
          go_wp2_with fail
          refine (spanOf_ok s false (1 + q) V hs HFS.out HSP.out _).mono ?_
          rintro e w1 ⟨rfl, B1⟩
          obtain ⟨k0, k1, k2, f0, f1, f2⟩ := res3 B1
          have HB1 : Hid (Below w.heap.size w w1) := ((Below.refl _ _).alloc (Nat.le_refl _) _).trans (B1.mono (by simp))
          clear B1
          unfold spanV
          go_wp2_with fail
          exact bodyPost_ret (v := .tuple #[.agg #[.bool false, .int .i64 ((1 + q : Nat) : Int), .int .i64 ((1 + q + V : Nat) : Int)], .int .i64 0]) (by simp [results, Tryz.results230, go_sem, k0, k1, k2]) rfl ⟨rfl, ((HB1.out.setCell (Nat.le_refl _) _).setCell (Nat.le_refl _) _).setCell (Nat.le_refl _) _⟩
      · rw [if_neg hE] at hR
        rw [hR]
        have hE' : ((E : Int) != 0) = true := by simp; omega
        clear hl hln hc hR hbase hdl hn hlen hq hfq hez
        go_enter Tryz.func230, Tryz.ntmps230
        go_wp2_with fail
        refine (HLC.out _).mono ?_
        rintro e w0 ⟨rfl, hw0⟩
        subst hw0
        go_wp2_with fail
        exact bodyPost_ret (v := .tuple #[.agg #[.bool false, .int .i64 0, .int .i64 0], .int .i64 (E : Int)]) (by simp [results, Tryz.results230, go_sem]) rfl ⟨rfl, (Below.refl _ _).alloc (Nat.le_refl _) _⟩
end Go.Proofs.YtenmjjpkbcogbaaGreatDoor

/- RlpR -/
namespace Go.Proofs.YtenmjjpkbcogbaaGreatDoor
open Go.RowKit

/-- what read leaves -/
def ReadOut (d : Nat) (w : World) (r : Except Nat (Tree × Nat)) (e : Ending) (w' : World) : Prop :=
  match r with
  | .error c => e = .returned (.tuple #[.agg #[.bool false, .string ByteArray.empty, .slice none 0 0], .int .i64 0, .int .i64 c])
  | .ok (x, u) => ∃ l t a m c, e = .returned (.tuple #[.agg #[.bool l, .string t, .slice a m c], .int .i64 u, .int .i64 0]) ∧ ItemIs d w' (fun b => w.heap.size ≤ b) [.bool l, .string t, .slice a m c] x
def ReadSaid (d : Nat) : Prop := ∀ (w : World) (s : ByteArray) (lv : Nat), s.size ≤ 4096 → lv + d = 7 →
  Calls Tryz.prog 155 #[.string s, .int .i64 lv] w fun e w' => ReadOut d w (takeR d s.data.toList) e w' ∧ Below w.heap.size w w'
/-- what readAll leaves -/
def AllOut (d : Nat) (w : World) (r : Except Nat (List Tree)) (e : Ending) (w' : World) : Prop :=
  match r with
  | .error c => e = .returned (.tuple #[.slice none 0 0, .int .i64 c]) ∧ c ≠ 0
  | .ok ks => ∃ k xs, e = .returned (.tuple #[k, .int .i64 0]) ∧ RowIs w' (fun b => w.heap.size ≤ b) k ks.length xs ∧ ks.length ≤ 64 ∧ ∀ i, i < ks.length → ItemIs d w' (fun b => w.heap.size ≤ b) ((xs.drop (3 * i)).take 3) (ks.getD i (textT []))
def ReadAllSaid (d : Nat) : Prop := ∀ (w : World) (s : ByteArray) (lv : Nat), s.size ≤ 4096 → lv + d = 7 →
  Calls Tryz.prog 232 #[.string s, .int .i64 lv] w fun e w' => AllOut d w (takeAll (takeR d) 64 s.data.toList) e w' ∧ Below w.heap.size w w'

theorem spanR_err (s : List UInt8) (l : Bool) (f n c : Nat) (h : spanR s l f n = .error c) : c = 5 := by
  unfold spanR at h
  by_cases h1 : s.length - f < n
  · rw [if_pos h1] at h; cases h; rfl
  · rw [if_neg h1] at h; cases h
theorem headR_err (s : List UInt8) (c : Nat) (h : headR s = .error c) : c = 5 ∨ c = 7 := by
  by_cases h0 : s.length = 0
  · rw [headR_nil s h0] at h; cases h; exact .inl rfl
  by_cases h1 : (s.getD 0 0).toNat < 128
  · rw [headR_low s h0 _ rfl h1] at h; cases h
  by_cases h2 : (s.getD 0 0).toNat - (if 192 ≤ (s.getD 0 0).toNat then 192 else 128) ≤ 55
  · rw [headR_short s h0 _ _ rfl h1 rfl h2] at h
    exact .inl (spanR_err _ _ _ _ _ h)
  rw [headR_long s h0 _ _ rfl h1 rfl h2] at h
  generalize (s.getD 0 0).toNat - (if 192 ≤ (s.getD 0 0).toNat then 192 else 128) - 55 = q at h
  by_cases h3 : lenErr (s.drop 1) q = 0
  · rw [if_pos h3] at h
    exact .inl (spanR_err _ _ _ _ _ h)
  · rw [if_neg h3] at h
    cases h
    unfold lenErr at h3 ⊢
    by_cases h4 : (s.drop 1).length < q
    · rw [if_pos h4]; exact .inl rfl
    · rw [if_neg h4] at h3 ⊢
      by_cases h5 : ((s.drop 1).getD 0 0).toNat = 0 ∨ be ((s.drop 1).take q) ≤ 55
      · rw [if_pos h5]; exact .inr rfl
      · rw [if_neg h5] at h3; exact absurd rfl h3
theorem takeR_err (d : Nat) (s : List UInt8) (c : Nat) (h : headR s = .error c) : takeR d s = .error c := by unfold takeR; rw [h]
theorem takeR_bare (d : Nat) (s : List UInt8) (f n : Nat) (h : headR s = .ok (false, f, n)) (hf : 0 < f) (hb : bareB ((s.drop f).take n) = true) : takeR d s = .error 7 := by
  unfold takeR; rw [h]; simp only; rw [if_pos trivial, if_pos ⟨hf, hb⟩]
theorem takeR_text (d : Nat) (s : List UInt8) (f n : Nat) (h : headR s = .ok (false, f, n)) (hb : ¬ (0 < f ∧ bareB ((s.drop f).take n) = true)) : takeR d s = .ok (textT ((s.drop f).take n), f + n) := by
  unfold takeR; rw [h]; simp only; rw [if_pos trivial, if_neg hb]
theorem takeR_deep (s : List UInt8) (f n : Nat) (h : headR s = .ok (true, f, n)) : takeR 0 s = .error 8 := by
  unfold takeR; rw [h]; simp
theorem takeR_kids_err (d : Nat) (s : List UInt8) (f n c : Nat) (h : headR s = .ok (true, f, n)) (hk : takeAll (takeR d) 64 ((s.drop f).take n) = .error c) : takeR (d + 1) s = .error c := by
  conv => lhs; unfold takeR
  rw [h]; simp only [Bool.true_eq_false, if_false]; rw [hk]
theorem takeR_kids_ok (d : Nat) (s : List UInt8) (f n : Nat) (ks : List Tree) (h : headR s = .ok (true, f, n)) (hk : takeAll (takeR d) 64 ((s.drop f).take n) = .ok ks) : takeR (d + 1) s = .ok (listT ks, f + n) := by
  conv => lhs; unfold takeR
  rw [h]; simp only [Bool.true_eq_false, if_false]; rw [hk]
theorem cut_data (s : ByteArray) (f t : Nat) : (s.extract f t).data.toList = (s.data.toList.drop f).take (t - f) := Lib.extract_data s f t

theorem res4 {w w1 w2 : World} {x y z p q r : Value} {T : TypeId} (hz : w.heap.size < w1.heap.size) (k0 : w1.cell? ⟨w.heap.size, 0, none⟩ = some x) (k1 : w1.cell? ⟨w.heap.size, 1, none⟩ = some y) (k2 : w1.cell? ⟨w.heap.size, 2, none⟩ = some z)
    (f0 : w1.frozen? ⟨w.heap.size, 0, none⟩ = false) (f1 : w1.frozen? ⟨w.heap.size, 1, none⟩ = false) (f2 : w1.frozen? ⟨w.heap.size, 2, none⟩ = false)
    (hb : Below (w1.alloc (.cells #[p, q, r] T)).heap.size (w1.alloc (.cells #[p, q, r] T)) w2) :
    w2.cell? ⟨w.heap.size, 0, none⟩ = some x ∧ w2.cell? ⟨w.heap.size, 1, none⟩ = some y ∧ w2.cell? ⟨w.heap.size, 2, none⟩ = some z ∧ w2.frozen? ⟨w.heap.size, 0, none⟩ = false ∧ w2.frozen? ⟨w.heap.size, 1, none⟩ = false ∧ w2.frozen? ⟨w.heap.size, 2, none⟩ = false ∧ w2.cell? ⟨w1.heap.size, 2, none⟩ = some r := by
  obtain ⟨h1, h2⟩ := bcell hb
  have hlt : w.heap.size < (w1.alloc (.cells #[p, q, r] T)).heap.size := by simp; omega
  refine ⟨?_, ?_, ?_, ?_, ?_, ?_, ?_⟩
  · rw [h1 _ _ hlt, World.cell?_alloc_lt _ _ _ hz]; exact k0
  · rw [h1 _ _ hlt, World.cell?_alloc_lt _ _ _ hz]; exact k1
  · rw [h1 _ _ hlt, World.cell?_alloc_lt _ _ _ hz]; exact k2
  · rw [h2 _ _ hlt, World.frozen?_alloc_past _ _ _ hz]; exact f0
  · rw [h2 _ _ hlt, World.frozen?_alloc_past _ _ _ hz]; exact f1
  · rw [h2 _ _ hlt, World.frozen?_alloc_past _ _ _ hz]; exact f2
  · rw [h1 _ _ (by simp)]; simp
theorem below_set3 {n : Nat} {w w1 : World} (h : Below n w w1) (a b c : Value) : Below n w (((w1.setCell ⟨n, 0, none⟩ a).setCell ⟨n, 1, none⟩ b).setCell ⟨n, 2, none⟩ c) :=
  ((h.setCell (Nat.le_refl _) _).setCell (Nat.le_refl _) _).setCell (Nat.le_refl _) _
theorem below_set3_alloc {n : Nat} {w w1 : World} (h : Below n w w1) (hn : n < w1.heap.size) (a b c : Value) (o : Obj) : Below n w ((((w1.setCell ⟨n, 0, none⟩ a).setCell ⟨n, 1, none⟩ b).setCell ⟨n, 2, none⟩ c).alloc o) :=
  (below_set3 h a b c).alloc (by simp [World.setCell]; omega) o

set_option maxRecDepth 100000 in
set_option maxHeartbeats 1000000 in
theorem read_of (d : Nat) (ih : ∀ e, d = e + 1 → ReadAllSaid e) : ReadSaid d := by
  intro w s lv hs hlv
  have hl : s.data.toList.length = s.size := by simp
  have hfind := fun w => find_calls s hs w
  cases hh : headR s.data.toList with
  | error c =>
    rw [takeR_err d _ c hh]
    have hcc := headR_err _ _ hh
    rw [hh] at hfind
    have HF : Hid (∀ w, Calls Tryz.prog 230 #[.string s] w fun e w' => e = .returned (.tuple #[.agg #[.bool false, .int .i64 0, .int .i64 0], .int .i64 c]) ∧ Below w.heap.size w w') := hfind
    have hc' : ((c : Int) != 0) = true := by simp; omega
    clear hfind hh hl hcc
    go_enter Tryz.func155, Tryz.ntmps155
    go_wp2_with fail
    refine (HF.out _).mono ?_
    rintro e w1 ⟨rfl, B1⟩
    obtain ⟨k0, k1, k2, f0, f1, f2⟩ := res3 B1
    have HB1 : Hid (Below w.heap.size w w1) := ((Below.refl _ _).alloc (Nat.le_refl _) _).trans (B1.mono (by simp))
    have hz : w.heap.size < w1.heap.size := by have := B1.size; simp at this; omega
    clear B1
    go_wp2_with fail
    exact bodyPost_ret (v := .tuple #[.agg #[.bool false, .string ⟨#[]⟩, .slice none 0 0], .int .i64 0, .int .i64 (c : Int)]) (by simp [results, Tryz.results155, go_sem, k0, k1, k2, hz]) rfl ⟨rfl, below_set3_alloc HB1.out hz _ _ _ _⟩
  | ok lfn =>
    obtain ⟨l, f, n⟩ := lfn
    obtain ⟨hs0, hcase⟩ := headR_ok _ l f n hh
    have hfn : f + n ≤ s.size := by
      rcases hcase with ⟨_, rfl, rfl, _⟩ | ⟨_, h, _⟩
      · rw [hl] at hs0; omega
      · rw [hl] at h; exact h
    rw [hh] at hfind
    have HF : Hid (∀ w, Calls Tryz.prog 230 #[.string s] w fun e w' => e = .returned (.tuple #[.agg #[.bool l, .int .i64 f, .int .i64 ((f + n : Nat) : Int)], .int .i64 0]) ∧ Below w.heap.size w w') := hfind
    have hcd : (s.extract f (f + n)).data.toList = (s.data.toList.drop f).take n := by rw [cut_data, Nat.add_sub_cancel_left]
    have hcz : (s.extract f (f + n)).size = n := by simp only [ByteArray.size_extract]; omega
    have HCD : Hid ((s.extract f (f + n)).data.toList = (s.data.toList.drop f).take n) := hcd
    obtain ⟨t, ht⟩ : ∃ t : Nat, t = f + n := ⟨_, rfl⟩
    rw [← ht] at hfn
    have hft : f ≤ t := by omega
    have HFT : Hid (t = f + n) := ht
    cases l with
    | false =>
      by_cases hb : 0 < f ∧ bareB ((s.data.toList.drop f).take n) = true
      · rw [takeR_bare d _ f n hh hb.1 hb.2]
        have hf0 : (0 : Int) < (f : Int) := by omega
        have hbare := fun w => bare_calls (s.extract f t) w
        rw [ht, hcd, hb.2] at hbare
        have HBA : Hid (∀ w, Calls Tryz.prog 231 #[.string (s.extract f t)] w fun e w' => e = .returned (.bool true) ∧ w' = w) := by rw [ht]; exact hbare
        clear hfind hh hl hs0 hcase hb hbare hcd hcz ih
        rw [← ht] at HF
        clear ht
        go_enter Tryz.func155, Tryz.ntmps155
        go_wp2_with fail
        refine (HF.out _).mono ?_
        rintro e w1 ⟨rfl, B1⟩
        obtain ⟨k0, k1, k2, f0, f1, f2⟩ := res3 B1
        have HB1 : Hid (Below w.heap.size w w1) := ((Below.refl _ _).alloc (Nat.le_refl _) _).trans (B1.mono (by simp))
        have hz : w.heap.size < w1.heap.size := by have := B1.size; simp at this; omega
        clear B1
        go_wp2_with fail
        refine (HBA.out _).mono ?_
        rintro e w2 ⟨rfl, hw2⟩
        subst hw2
        go_wp2_with fail
        exact bodyPost_ret (v := .tuple #[.agg #[.bool false, .string ⟨#[]⟩, .slice none 0 0], .int .i64 0, .int .i64 7]) (by simp [results, Tryz.results155, go_sem, k0, k1, k2, hz]) rfl ⟨rfl, below_set3_alloc HB1.out hz _ _ _ _⟩
      · rw [takeR_text d _ f n hh hb]
        have HTS : Hid (∀ W : World, ItemIs d W (fun b => w.heap.size ≤ b) [.bool false, .string (s.extract f t), .slice none 0 0] (textT ((s.data.toList.drop f).take n))) := by
          intro W
          have := item_text d W (fun b => w.heap.size ≤ b) (s.extract f t) (.slice none 0 0) (by rw [ht, hcz]; omega)
          rw [ht, hcd, ← ht] at this; exact this
        by_cases hf0 : f = 0
        · subst hf0
          rw [← ht] at HF
          clear hfind hh hl hs0 hcase hb hcd hcz ih ht
          go_enter Tryz.func155, Tryz.ntmps155
          go_wp2_with fail
          refine (HF.out _).mono ?_
          rintro e w1 ⟨rfl, B1⟩
          obtain ⟨k0, k1, k2, f0, f1, f2⟩ := res3 B1
          have HB1 : Hid (Below w.heap.size w w1) := ((Below.refl _ _).alloc (Nat.le_refl _) _).trans (B1.mono (by simp))
          have hz : w.heap.size < w1.heap.size := by have := B1.size; simp at this; omega
          clear B1
          go_wp2_with fail
          go_region
          all_goals go_wp2_with fail
          all_goals exact bodyPost_ret (v := .tuple #[.agg #[.bool false, .string (s.extract 0 t), .slice none 0 0], .int .i64 (t : Int), .int .i64 0]) (by simp [results, Tryz.results155, go_sem, k0, k1, k2, hz]) rfl ⟨⟨false, s.extract 0 t, none, 0, 0, by rw [← HFT.out], HTS.out _⟩, (below_set3_alloc HB1.out hz _ _ _ _).drew⟩
        · have hbf : bareB ((s.data.toList.drop f).take n) = false := by
            cases h : bareB ((s.data.toList.drop f).take n) with
            | false => rfl
            | true => exact absurd ⟨by omega, h⟩ hb
          have hf0' : (0 : Int) < (f : Int) := by omega
          have hbare := fun w => bare_calls (s.extract f t) w
          rw [ht, hcd, hbf] at hbare
          have HBA : Hid (∀ w, Calls Tryz.prog 231 #[.string (s.extract f t)] w fun e w' => e = .returned (.bool false) ∧ w' = w) := by rw [ht]; exact hbare
          rw [← ht] at HF
          clear hfind hh hl hs0 hcase hb hcd hcz ih ht hbare hbf
          go_enter Tryz.func155, Tryz.ntmps155
          go_wp2_with fail
          refine (HF.out _).mono ?_
          rintro e w1 ⟨rfl, B1⟩
          obtain ⟨k0, k1, k2, f0, f1, f2⟩ := res3 B1
          have HB1 : Hid (Below w.heap.size w w1) := ((Below.refl _ _).alloc (Nat.le_refl _) _).trans (B1.mono (by simp))
          have hz : w.heap.size < w1.heap.size := by have := B1.size; simp at this; omega
          clear B1
          go_wp2_with fail
          refine (HBA.out _).mono ?_
          rintro e w2 ⟨rfl, hw2⟩
          subst hw2
          go_wp2_with fail
          go_region
          all_goals go_wp2_with fail
          all_goals exact bodyPost_ret (v := .tuple #[.agg #[.bool false, .string (s.extract f t), .slice none 0 0], .int .i64 (t : Int), .int .i64 0]) (by simp [results, Tryz.results155, go_sem, k0, k1, k2, hz]) rfl ⟨⟨false, s.extract f t, none, 0, 0, by rw [← HFT.out], HTS.out _⟩, (below_set3_alloc HB1.out hz _ _ _ _).drew⟩
    | true =>
      cases d with
      | zero =>
        rw [takeR_deep _ f n hh]
        have hl6 : (6 : Int) < (lv : Int) := by omega
        rw [← ht] at HF
        clear hfind hh hl hs0 hcase hcd hcz ih ht
        go_enter Tryz.func155, Tryz.ntmps155
        go_wp2_with fail
        refine (HF.out _).mono ?_
        rintro e w1 ⟨rfl, B1⟩
        obtain ⟨k0, k1, k2, f0, f1, f2⟩ := res3 B1
        have HB1 : Hid (Below w.heap.size w w1) := ((Below.refl _ _).alloc (Nat.le_refl _) _).trans (B1.mono (by simp))
        have hz : w.heap.size < w1.heap.size := by have := B1.size; simp at this; omega
        clear B1
        go_wp2_with fail
        exact bodyPost_ret (v := .tuple #[.agg #[.bool false, .string ⟨#[]⟩, .slice none 0 0], .int .i64 0, .int .i64 8]) (by simp [results, Tryz.results155, go_sem, k0, k1, k2, hz]) rfl ⟨rfl, below_set3_alloc HB1.out hz _ _ _ _⟩
      | succ d =>
        have hl6 : ¬ ((6 : Int) < (lv : Int)) := by omega
        have hall := fun w => ih d rfl w (s.extract f t) (lv + 1) (by rw [ht, hcz]; omega) (by omega)
        have ecast : ((lv + 1 : Nat) : Int) = (lv : Int) + 1 := by omega
        rw [ht, hcd, ← ht, ecast] at hall
        cases hk : takeAll (takeR d) 64 ((s.data.toList.drop f).take n) with
        | error c =>
          rw [takeR_kids_err d _ f n c hh hk]
          rw [hk] at hall
          have HAL : Hid (∀ w : World, Calls Tryz.prog 232 #[.string (s.extract f t), .int .i64 ((lv : Int) + 1)] w fun e w' => AllOut d w (.error c) e w' ∧ Below w.heap.size w w') := hall
          rw [← ht] at HF
          clear hfind hh hl hs0 hcase hcd hcz ih ht hall hk ecast
          go_enter Tryz.func155, Tryz.ntmps155
          go_wp2_with fail
          refine (HF.out _).mono ?_
          rintro e w1 ⟨rfl, B1⟩
          obtain ⟨k0, k1, k2, f0, f1, f2⟩ := res3 B1
          have HB1 : Hid (Below w.heap.size w w1) := ((Below.refl _ _).alloc (Nat.le_refl _) _).trans (B1.mono (by simp))
          have hz : w.heap.size < w1.heap.size := by have := B1.size; simp at this; omega
          clear B1
          go_wp2_with fail
          refine (HAL.out _).mono ?_
          rintro e w2 ⟨⟨rfl, hc0⟩, B2⟩
          have hc0' : ((c : Int) != 0) = true := by simp; omega
          obtain ⟨m0, m1, m2, q0, q1, q2, a2⟩ := res4 hz k0 k1 k2 f0 f1 f2 B2
          have HB2 : Hid (Below w.heap.size w w2) := (HB1.out.alloc (Nat.le_of_lt hz) _).trans (B2.mono (by simp; omega))
          have hz2 : w.heap.size < w2.heap.size := by have := B2.size; simp at this; omega
          clear B2 HB1
          go_wp2_with fail
          exact bodyPost_ret (v := .tuple #[.agg #[.bool false, .string ⟨#[]⟩, .slice none 0 0], .int .i64 0, .int .i64 (c : Int)]) (by simp [results, Tryz.results155, go_sem, m0, m1, m2]) rfl ⟨rfl, below_set3 HB2.out _ _ _⟩
        | ok ks =>
          rw [takeR_kids_ok d _ f n ks hh hk]
          rw [hk] at hall
          have HAL : Hid (∀ w : World, Calls Tryz.prog 232 #[.string (s.extract f t), .int .i64 ((lv : Int) + 1)] w fun e w' => AllOut d w (.ok ks) e w' ∧ Below w.heap.size w w') := hall
          rw [← ht] at HF
          clear hfind hh hl hs0 hcase hcd hcz ih ht hall hk ecast
          go_enter Tryz.func155, Tryz.ntmps155
          go_wp2_with fail
          refine (HF.out _).mono ?_
          rintro e w1 ⟨rfl, B1⟩
          obtain ⟨k0, k1, k2, f0, f1, f2⟩ := res3 B1
          have HB1 : Hid (Below w.heap.size w w1) := ((Below.refl _ _).alloc (Nat.le_refl _) _).trans (B1.mono (by simp))
          have hz : w.heap.size < w1.heap.size := by have := B1.size; simp at this; omega
          clear B1
          go_wp2_with fail
          refine (HAL.out _).mono ?_
          rintro e w2 ⟨⟨k, xs, rfl, hrow, h64, hkids⟩, B2⟩
          obtain ⟨ka, kc, hkv⟩ : ∃ ka kc, k = .slice ka ks.length kc := by
            rcases hrow.lie with ⟨h0, a, c, rfl⟩ | ⟨b, o, c, rfl, _⟩
            · exact ⟨a, c, by rw [h0]⟩
            · exact ⟨_, c, rfl⟩
          subst hkv
          obtain ⟨kn, hkn⟩ : ∃ kn, kn = ks.length := ⟨_, rfl⟩
          have HKN : Hid (kn = ks.length) := hkn
          obtain ⟨m0, m1, m2, q0, q1, q2, a2⟩ := res4 hz k0 k1 k2 f0 f1 f2 B2
          have HB2 : Hid (Below w.heap.size w w2) := (HB1.out.alloc (Nat.le_of_lt hz) _).trans (B2.mono (by simp; omega))
          have hz2 : w.heap.size < w2.heap.size := by have := B2.size; simp at this; omega
          have hmv : ∀ (W3 : World), (∀ b, b ≠ w.heap.size → W3.heap[b]? = w2.heap[b]?) → ItemIs (d + 1) W3 (fun b => w.heap.size ≤ b) [.bool true, .string ⟨#[]⟩, .slice ka ks.length kc] (listT ks) := fun W3 h3 => by
            have hS : ∀ b, (w1.heap.size + 1 ≤ b) → b < w2.heap.size → (w.heap.size ≤ b) ∧ W3.heap[b]? = w2.heap[b]? := fun b hb _ => ⟨by omega, h3 b (by omega)⟩
            have hrow' : RowIs w2 (fun b => w1.heap.size + 1 ≤ b) (.slice ka ks.length kc) ks.length xs := by simpa using hrow
            refine item_list d W3 _ _ (.slice ka ks.length kc) ks xs (hrow'.move hS) (by omega) (fun i hi => ItemIs.move (w := w2) (S := fun b => w1.heap.size + 1 ≤ b) hS d _ _ (by simpa using hkids i hi))
          have HMV : Hid (∀ (W3 : World), (∀ b, b ≠ w.heap.size → W3.heap[b]? = w2.heap[b]?) → ItemIs (d + 1) W3 (fun b => w.heap.size ≤ b) [.bool true, .string ⟨#[]⟩, .slice ka kn kc] (listT ks)) := by rw [hkn]; exact hmv
          rw [← hkn]
          clear B2 HB1 hrow hkids hmv hkn
          go_wp2_with fail
          go_region
          all_goals go_wp2_with fail
          all_goals exact bodyPost_ret (v := .tuple #[.agg #[.bool true, .string ⟨#[]⟩, .slice ka kn kc], .int .i64 (t : Int), .int .i64 0]) (by simp [results, Tryz.results155, go_sem, m0, m1, m2]) rfl ⟨⟨true, ⟨#[]⟩, ka, kn, kc, by rw [← HFT.out], HMV.out _ (fun b hb => by simp [heap_setCell_other, hb, World.drew])⟩, (below_set3 HB2.out _ _ _).drew⟩
end Go.Proofs.YtenmjjpkbcogbaaGreatDoor

/- RlpS -/
namespace Go.Proofs.YtenmjjpkbcogbaaGreatDoor
open Go.RowKit

theorem takeAll_ne (f : List UInt8 → Except Nat (Tree × Nat)) (hf : ∀ s c, f s = .error c → c ≠ 0) : ∀ (m : Nat) (body : List UInt8) (c : Nat), takeAll f m body = .error c → c ≠ 0
  | 0, body, c, h => by
    unfold takeAll at h
    by_cases h0 : body.length = 0
    · rw [if_pos h0] at h; cases h
    · rw [if_neg h0] at h; cases h; decide
  | m + 1, body, c, h => by
    unfold takeAll at h
    by_cases h0 : body.length = 0
    · rw [if_pos h0] at h; cases h
    · rw [if_neg h0] at h
      simp only at h
      cases hk : f body with
      | error e => rw [hk] at h; cases h; exact hf _ _ hk
      | ok ku =>
        obtain ⟨k, u⟩ := ku
        rw [hk] at h
        simp only at h
        cases hr : takeAll f m (body.drop u) with
        | error e => rw [hr] at h; cases h; exact takeAll_ne f hf m _ _ hr
        | ok ks' => rw [hr] at h; cases h
theorem takeR_ne : ∀ (d : Nat) (s : List UInt8) (c : Nat), takeR d s = .error c → c ≠ 0 := by
  intro d
  induction d with
  | zero =>
    intro s c h
    cases hh : headR s with
    | error e => rw [takeR_err 0 s e hh] at h; cases h; have := headR_err _ _ hh; omega
    | ok lfn =>
      obtain ⟨l, f, n⟩ := lfn
      cases l with
      | true => rw [takeR_deep s f n hh] at h; cases h; decide
      | false =>
        by_cases hb : 0 < f ∧ bareB ((s.drop f).take n) = true
        · rw [takeR_bare 0 s f n hh hb.1 hb.2] at h; cases h; decide
        · rw [takeR_text 0 s f n hh hb] at h; cases h
  | succ d ih =>
    intro s c h
    cases hh : headR s with
    | error e => rw [takeR_err (d + 1) s e hh] at h; cases h; have := headR_err _ _ hh; omega
    | ok lfn =>
      obtain ⟨l, f, n⟩ := lfn
      cases l with
      | true =>
        cases hk : takeAll (takeR d) 64 ((s.drop f).take n) with
        | error e => rw [takeR_kids_err d s f n e hh hk] at h; cases h; exact takeAll_ne _ ih _ _ _ hk
        | ok ks => rw [takeR_kids_ok d s f n ks hh hk] at h; cases h
      | false =>
        by_cases hb : 0 < f ∧ bareB ((s.drop f).take n) = true
        · rw [takeR_bare (d + 1) s f n hh hb.1 hb.2] at h; cases h; decide
        · rw [takeR_text (d + 1) s f n hh hb] at h; cases h

def joinR (ks : List Tree) (r : Except Nat (List Tree)) : Except Nat (List Tree) := match r with
  | .error e => .error e
  | .ok rs => .ok (ks ++ rs)
theorem takeAll_nil (f : List UInt8 → Except Nat (Tree × Nat)) (m : Nat) (body : List UInt8) (h : body.length = 0) : takeAll f m body = .ok [] := by unfold takeAll; rw [if_pos h]
theorem takeAll_full (f : List UInt8 → Except Nat (Tree × Nat)) (body : List UInt8) (h : body.length ≠ 0) : takeAll f 0 body = .error 8 := by unfold takeAll; rw [if_neg h]
theorem takeAll_err (f : List UInt8 → Except Nat (Tree × Nat)) (m : Nat) (body : List UInt8) (c : Nat) (h : body.length ≠ 0) (hf : f body = .error c) : takeAll f (m + 1) body = .error c := by
  unfold takeAll; rw [if_neg h]; simp only; rw [hf]
theorem takeAll_step (f : List UInt8 → Except Nat (Tree × Nat)) (m : Nat) (body : List UInt8) (k : Tree) (u : Nat) (h : body.length ≠ 0) (hf : f body = .ok (k, u)) : takeAll f (m + 1) body = joinR [k] (takeAll f m (body.drop u)) := by
  conv => lhs; unfold takeAll
  rw [if_neg h]; simp only; rw [hf]; simp only
  unfold joinR
  cases takeAll f m (body.drop u) <;> rfl
theorem joinR_joinR (ks : List Tree) (k : Tree) (r : Except Nat (List Tree)) : joinR ks (joinR [k] r) = joinR (ks ++ [k]) r := by
  unfold joinR; cases r <;> simp

theorem info25 : (Tryz.prog.info? 56).map (fun i => (i.zero, i.size, i.bytes)) = some (some (.agg #[.bool false, .string ⟨#[]⟩, .slice none 0 0]), 3, 48) := by kernel_rfl

theorem own_three (W : World) (x y z : Value) {H : Nat} (hH : W.heap.size = H) : ∀ j u, [x, y, z][j]? = some u → (W.alloc (.cells #[x, y, z] 56)).cell? ((⟨H, 0, none⟩ : Addr).add j) = some u := by
  subst hH
  intro j u hj
  match j, hj with
  | 0, hj => simp at hj; subst hj; simp [Addr.add]
  | 1, hj => simp at hj; subst hj; simp [Addr.add]
  | 2, hj => simp at hj; subst hj; simp [Addr.add]
  | (j + 3), hj => simp at hj
theorem own_row {w : World} {base : Nat} {v : Value} {n : Nat} {xs : List Value} (h : w.ownsRow base 56 3 v n xs) : RowIs w (fun b => base ≤ b) v n xs := by
  refine ⟨by rw [h.1]; omega, ?_⟩
  rcases h.2 with ⟨rfl, rfl⟩ | ⟨g, cap, cur, rfl, hb, _⟩
  · exact .inl ⟨rfl, _, _, rfl⟩
  · refine .inr ⟨g, 0, cap, rfl, hb, fun j hj => ?_⟩
    rw [Nat.zero_add]; exact h.cellAt j (by omega)

set_option maxRecDepth 100000 in
set_option maxHeartbeats 1000000 in
theorem readAll_of (d : Nat) (ih : ReadSaid d) : ReadAllSaid d := by
  intro w s lv hs hlv
  obtain ⟨i0, hi0, hz0, hz1, hz2⟩ := info_parts info25
  have HI : Hid (ReadSaid d) := ih
  have HLV : Hid (lv + d = 7) := hlv
  obtain ⟨R, hR⟩ : ∃ R, R = takeAll (takeR d) 64 s.data.toList := ⟨_, rfl⟩
  rw [← hR]
  have HNE : Hid (∀ c, R = .error c → c ≠ 0) := fun c h => by rw [hR] at h; exact takeAll_ne _ (takeR_ne d) _ _ _ h
  have hR0 : R = joinR [] (takeAll (takeR d) (64 - 0) s.data.toList) := by
    rw [hR]; unfold joinR; cases takeAll (takeR d) 64 s.data.toList <;> rfl
  have HR0 : Hid (R = joinR [] (takeAll (takeR d) (64 - 0) s.data.toList)) := hR0
  clear ih hR hR0 hlv
  go_enter Tryz.func232, Tryz.ntmps232
  go_wp2_with fail
  go_loopg [0, 6] s.size (fun g c v wr => ∃ (b : ByteArray) (m : Nat) (a : Option Addr) (cap : Nat) (ks : List Tree) (xs : List Value), g = b.size ∧ b.size ≤ 4096 ∧ m ≤ 64 ∧ c = .string b ∧ v = .slice a m cap ∧
    Hid (R = joinR ks (takeAll (takeR d) (64 - m) b.data.toList)) ∧ Hid (ks.length = m) ∧ wr.ownsRow w.heap.size 56 3 (.slice a m cap) m xs ∧
    Hid (∀ i, i < m → ItemIs d wr (fun q => w.heap.size ≤ q ∧ (Value.slice a m cap).ownBlock ≠ some q) ((xs.drop (3 * i)).take 3) (ks.getD i (textT []))) ∧ Below w.heap.size w wr)
  case atStart => exact ⟨s, 0, none, 0, [], [], rfl, hs, by omega, rfl, rfl, HR0.out, rfl, ⟨rfl, .inl ⟨rfl, rfl⟩⟩, fun i h => by omega, Below.refl _ _⟩
  case round =>
    obtain ⟨b, m, a, cap, ks, xs, hg, hb, hm, rfl, rfl, hRR, hkl, hown, hit, hbel⟩ := hrel
    have HG : Hid (gk = b.size) := hg
    have HO : Hid (wr.ownsRow w.heap.size 56 3 (.slice a m cap) m xs) := hown
    have HB : Hid (Below w.heap.size w wr) := hbel
    have hbl : b.data.toList.length = b.size := by simp
    have HBL : Hid (b.data.toList.length = b.size) := hbl
    clear hg hown hbel hbl HR0
    by_cases h0 : 0 < b.size
    · have h0' : (0 : Int) < (b.size : Int) := by omega
      by_cases h64 : m = 64
      · have h64' : ((m : Int) == 64) = true := beq_iff_eq.2 (by omega)
        have hE : R = .error 8 := by
          rw [hRR.out, h64, Nat.sub_self, takeAll_full _ _ (by rw [HBL.out]; omega)]; rfl
        have HE : Hid (R = .error 8) := hE
        clear hE
        go_wp2_with fail
        go_ret2
        exact ⟨by rw [HE.out]; exact ⟨rfl, by decide⟩, HB.out⟩
      · have h64' : ((m : Int) == 64) = false := beq_eq_false_iff_ne.2 (by omega)
        have e64 : 64 - m = (64 - (m + 1)) + 1 := by omega
        cases hT : takeR d b.data.toList with
        | error c =>
          have hE : R = .error c := by
            rw [hRR.out, e64, takeAll_err _ _ _ c (by rw [HBL.out]; omega) hT]; rfl
          have hc0 : ((c : Int) != 0) = true := by have := HNE.out c hE; simp; omega
          have HE : Hid (R = .error c) := hE
          have HT : Hid (takeR d b.data.toList = .error c) := hT
          clear hE hT
          go_wp2_with fail
          refine (HI.out _ b lv hb HLV.out).mono ?_
          rw [HT.out]
          rintro e w1 ⟨rfl, B1⟩
          have HB1 : Hid (Below w.heap.size w w1) := HB.out.trans (B1.mono HB.out.size)
          clear B1
          go_wp2_with fail
          go_ret2
          refine ⟨by rw [HE.out]; exact ⟨rfl, HNE.out c HE.out⟩, ?_⟩
          exact HB1.out.alloc HB1.out.size _
        | ok xu =>
          obtain ⟨x, u⟩ := xu
          have HS : Hid (R = joinR (ks ++ [x]) (takeAll (takeR d) (64 - (m + 1)) (b.data.toList.drop u))) := by
            rw [hRR.out, e64, takeAll_step _ _ _ x u (by rw [HBL.out]; omega) hT, joinR_joinR]; rfl
          obtain ⟨u1, u2, _, _⟩ := takeR_ok d _ x u hT
          have hub : u ≤ b.size := by rw [HBL.out] at u2; exact u2
          have HT : Hid (takeR d b.data.toList = .ok (x, u)) := hT
          clear hT e64
          go_wp2_with fail
          refine (HI.out _ b lv hb HLV.out).mono ?_
          rw [HT.out]
          rintro e w1 ⟨⟨kl, kt, ka, km, kc, rfl, hkid⟩, B1⟩
          have HKID : Hid (ItemIs d w1 (fun q => wr.heap.size ≤ q) [.bool kl, .string kt, .slice ka km kc] x) := hkid
          have HB1 : Hid (Below w.heap.size w w1) := HB.out.trans (B1.mono HB.out.size)
          have HBW : Hid (Below wr.heap.size wr w1) := B1
          have HO1 : Hid (w1.ownsRow w.heap.size 56 3 (.slice a m cap) m xs) := own_below HO.out B1
          clear hkid B1
          go_upto_region 8 with fail
          go_wp2_with (at_builtin; refine wpList_append_lies _ rfl (.tmp 26) (.tmp 28) 46 rfl w.heap.size 56 i0 _ 3 48 Tryz.underlying46 hi0 hz0 hz1 hz2 rfl (by decide) (.slice a m cap) m xs rfl ((HO1.out.alloc _).alloc _) ⟨w1.heap.size + 1, 0, none⟩ 1 1 [.bool kl, .string kt, .slice ka km kc] rfl rfl ?c1 ?c2 (by omega) ?c3 ?c4 ?c5 _ rfl ?c6)
          case c1 => exact own_three (w1.alloc _) _ _ _ (by simp)
          case c2 => intro v hv; simp at hv; rcases hv with rfl | rfl | rfl <;> rfl
          case c3 => unfold maxLen; omega
          case c4 => omega
          case c5 => have := HB1.out.size; simp; omega
          intro g2 cap2 w2 hown2 hgrow2 hat2 hlt2
          have hW : ∀ q, q < w1.heap.size → ((w1.alloc (.cells #[.bool kl, .string kt, .slice ka km kc] 56)).alloc (.cells #[.bool kl, .string kt, .slice ka km kc] 56)).heap[q]? = w1.heap[q]? := fun q hq => by
            rw [Below.heap_alloc _ _ _ (by simp; omega), Below.heap_alloc _ _ _ hq]
          have hgr : ∀ q, q < w1.heap.size → (Value.slice a m cap).ownBlock ≠ some q → w2.heap[q]? = w1.heap[q]? := fun q hq hne => by
            rw [← hW q hq]; exact hgrow2.block q (by simp; omega) (fun h => hne h.symm)
          have hg2 : ∀ q, q < w1.heap.size → (Value.slice a m cap).ownBlock ≠ some q → (Value.slice (some ⟨g2, 0, none⟩) (m + 1) cap2).ownBlock ≠ some q := fun q hq hne h => by
            have hgq : g2 = q := by simpa [Value.ownBlock] using h
            rcases hat2 with h2 | h2
            · rw [hgq] at h2; exact hne h2
            · omega
          have hbel2 : Below w.heap.size w w2 := ((HB1.out.alloc HB1.out.size _).alloc (by have := HB1.out.size; simp; omega) _).grown hgrow2 (by have := HB1.out.size; simp; omega) (fun k hk => (HO1.out.lt k hk).1)
          have hwr : wr.heap.size ≤ w1.heap.size := HBW.out.size
          have hit2 : ∀ i, i < m + 1 → ItemIs d w2 (fun q => w.heap.size ≤ q ∧ (Value.slice (some ⟨g2, 0, none⟩) (m + 1) cap2).ownBlock ≠ some q) (((xs ++ [Value.bool kl, Value.string kt, Value.slice ka km kc]).drop (3 * i)).take 3) ((ks ++ [x]).getD i (textT [])) := by
            intro i hi
            have hxl : xs.length = 3 * m := by have := HO1.out.1; omega
            by_cases him : i < m
            · have e1 : ((xs ++ [Value.bool kl, Value.string kt, Value.slice ka km kc]).drop (3 * i)).take 3 = (xs.drop (3 * i)).take 3 := by
                rw [List.drop_append_of_le_length (by omega), List.take_append_of_le_length (by rw [List.length_drop]; omega)]
              have e2 : (ks ++ [x]).getD i (textT []) = ks.getD i (textT []) := by
                rw [List.getD_eq_getElem?_getD, List.getElem?_append_left (by have := hkl.out; omega), List.getD_eq_getElem?_getD]
              rw [e1, e2]
              refine ItemIs.move (w := wr) (fun q hq hlt => ?_) d _ _ (hit.out i him)
              have hq1 : q < w1.heap.size := by omega
              exact ⟨⟨hq.1, hg2 q hq1 hq.2⟩, (hgr q hq1 hq.2).trans (HBW.out.block q hlt)⟩
            · have him' : i = m := by omega
              subst him'
              have e1 : ((xs ++ [Value.bool kl, Value.string kt, Value.slice ka km kc]).drop (3 * i)).take 3 = [.bool kl, .string kt, .slice ka km kc] := by
                rw [← hxl, List.drop_left]; rfl
              have e2 : (ks ++ [x]).getD i (textT []) = x := by
                rw [List.getD_eq_getElem?_getD, ← hkl.out, List.getElem?_append_right (Nat.le_refl _), Nat.sub_self]; rfl
              rw [e1, e2]
              refine ItemIs.move (w := w1) (fun q hq hlt => ?_) d _ _ HKID.out
              have hne : (Value.slice a i cap).ownBlock ≠ some q := fun h => by have := (HO.out.lt q h).2; omega
              exact ⟨⟨Nat.le_trans HB.out.size hq, hg2 q hlt hne⟩, hgr q hlt hne⟩
          have HI2 : Hid (∀ i, i < m + 1 → ItemIs d w2 (fun q => w.heap.size ≤ q ∧ (Value.slice (some ⟨g2, 0, none⟩) (m + 1) cap2).ownBlock ≠ some q) (((xs ++ [Value.bool kl, Value.string kt, Value.slice ka km kc]).drop (3 * i)).take 3) ((ks ++ [x]).getD i (textT []))) := hit2
          have HO2 : Hid (w2.ownsRow w.heap.size 56 3 (.slice (some ⟨g2, 0, none⟩) (m + 1) cap2) (m + 1) (xs ++ [Value.bool kl, Value.string kt, Value.slice ka km kc])) := hown2
          have HB2 : Hid (Below w.heap.size w w2) := hbel2
          clear hW hgr hg2 hbel2 hit2 hown2 hgrow2 hat2 hlt2 hwr
          have hui : (u : Int) ≤ (b.size : Int) := by omega
          go_wp2_with fail
          go_roundg (b.size - u)
          case measure => have := HG.out; omega
          case rel =>
            refine ⟨b.extract u b.size, m + 1, some ⟨g2, 0, none⟩, cap2, ks ++ [x], xs ++ [Value.bool kl, Value.string kt, Value.slice ka km kc], by simp, by simp; omega, by omega, rfl, rfl, ?_, by show (ks ++ [x]).length = m + 1; rw [List.length_append, hkl.out]; rfl, HO2.out, HI2.out, HB2.out⟩
            have e : (b.extract u b.size).data.toList = b.data.toList.drop u := by rw [Lib.extract_data, List.take_of_length_le (by simp)]
            show R = _
            rw [e]; exact HS.out
    · have h0' : ¬ ((0 : Int) < (b.size : Int)) := by omega
      have hE : R = .ok ks := by
        rw [hRR.out, takeAll_nil _ _ _ (by rw [HBL.out]; omega)]; unfold joinR; simp
      have HE : Hid (R = .ok ks) := hE
      clear hE
      go_wp2_with fail
      go_ret2
      refine ⟨?_, HB.out⟩
      rw [HE.out]
      refine ⟨.slice a m cap, xs, rfl, ?_, by rw [hkl.out]; exact hm, fun i hi => ItemIs.move (w := wr) (fun q hq _ => ⟨hq.1, rfl⟩) d _ _ (hit.out i (by rw [← hkl.out]; exact hi))⟩
      rw [hkl.out]
      exact own_row HO.out

theorem read_all : ∀ d, ReadSaid d ∧ ReadAllSaid d
  | 0 => ⟨read_of 0 (fun e h => by omega), readAll_of 0 (read_of 0 (fun e h => by omega))⟩
  | d + 1 =>
    have h : ReadSaid (d + 1) := read_of (d + 1) (fun e h => by
      have : e = d := by omega
      subst this
      exact (read_all e).2)
    ⟨h, readAll_of (d + 1) h⟩
end Go.Proofs.YtenmjjpkbcogbaaGreatDoor

/- RlpD -/
namespace Go.Proofs.YtenmjjpkbcogbaaGreatDoor
open Go.RowKit

def DecOut (w : World) (r : Except Nat Tree) (e : Ending) (w' : World) : Prop :=
  match r with
  | .error c => e = .returned (.tuple #[.agg #[.bool false, .string ByteArray.empty, .slice none 0 0], .int .i64 c]) ∧ c ≠ 0
  | .ok x => ∃ l t a m c, e = .returned (.tuple #[.agg #[.bool l, .string t, .slice a m c], .int .i64 0]) ∧ ItemIs 6 w' (fun b => w.heap.size ≤ b) [.bool l, .string t, .slice a m c] x

theorem decR_long (s : List UInt8) (h : 4096 < s.length) : decR s = .error 1 := by unfold decR; rw [if_pos h]
theorem decR_err (s : List UInt8) (h : ¬ 4096 < s.length) (c : Nat) (ht : takeR 6 s = .error c) : decR s = .error c := by unfold decR; rw [if_neg h, ht]
theorem decR_extra (s : List UInt8) (h : ¬ 4096 < s.length) (x : Tree) (u : Nat) (ht : takeR 6 s = .ok (x, u)) (hu : u < s.length) : decR s = .error 6 := by unfold decR; rw [if_neg h, ht]; simp only; rw [if_pos hu]
theorem decR_done (s : List UInt8) (h : ¬ 4096 < s.length) (x : Tree) (u : Nat) (ht : takeR 6 s = .ok (x, u)) (hu : ¬ u < s.length) : decR s = .ok x := by unfold decR; rw [if_neg h, ht]; simp only; rw [if_neg hu]

set_option maxRecDepth 100000 in
set_option maxHeartbeats 1000000 in
theorem decode_calls (w : World) (s : ByteArray) (hs : s.size ≤ maxLen) :
    Calls Tryz.prog 59 #[.string s] w fun e w' => DecOut w (decR s.data.toList) e w' ∧ Below w.heap.size w w' := by
  unfold maxLen at hs
  have hl : s.data.toList.length = s.size := by simp
  by_cases h4 : 4096 < s.size
  · rw [decR_long _ (by rw [hl]; exact h4)]
    have h4' : (4096 : Int) < (s.size : Int) := by omega
    clear hl
    go_enter Tryz.func59, Tryz.ntmps59
    go_wp2_with fail
    exact bodyPost_ret (v := .tuple #[.agg #[.bool false, .string ⟨#[]⟩, .slice none 0 0], .int .i64 1]) (by simp [results, Tryz.results59, go_sem]) rfl ⟨⟨rfl, by decide⟩, (Below.refl _ _).alloc (Nat.le_refl _) _⟩
  have h4' : ¬ ((4096 : Int) < (s.size : Int)) := by omega
  have h4l : ¬ 4096 < s.data.toList.length := by rw [hl]; exact h4
  have hread := fun w => (read_all 6).1 w s 1 (by omega) rfl
  cases hT : takeR 6 s.data.toList with
  | error c =>
    rw [decR_err _ h4l c hT]
    have hc0 := takeR_ne 6 _ _ hT
    have hc0' : ((c : Int) != 0) = true := by simp; omega
    rw [hT] at hread
    have HR : Hid (∀ w : World, Calls Tryz.prog 155 #[.string s, .int .i64 1] w fun e w' => ReadOut 6 w (.error c) e w' ∧ Below w.heap.size w w') := hread
    have HC0 : Hid (c ≠ 0) := hc0
    clear hl h4l hT hread hc0
    go_enter Tryz.func59, Tryz.ntmps59
    go_wp2_with fail
    refine (HR.out _).mono ?_
    rintro e w1 ⟨rfl, B1⟩
    obtain ⟨k0, k1, k2, f0, f1, f2⟩ := res3 B1
    have HB1 : Hid (Below w.heap.size w w1) := ((Below.refl _ _).alloc (Nat.le_refl _) _).trans (B1.mono (by simp))
    have hz : w.heap.size < w1.heap.size := by have := B1.size; simp at this; omega
    clear B1
    go_wp2_with fail
    exact bodyPost_ret (v := .tuple #[.agg #[.bool false, .string ⟨#[]⟩, .slice none 0 0], .int .i64 (c : Int)]) (by simp [results, Tryz.results59, go_sem, k0, k1, k2, hz]) rfl ⟨⟨rfl, HC0.out⟩, below_set3_alloc HB1.out hz _ _ _ _⟩
  | ok xu =>
    obtain ⟨x, u⟩ := xu
    rw [hT] at hread
    have HR : Hid (∀ w : World, Calls Tryz.prog 155 #[.string s, .int .i64 1] w fun e w' => ReadOut 6 w (.ok (x, u)) e w' ∧ Below w.heap.size w w') := hread
    by_cases hu : u < s.size
    · rw [decR_extra _ h4l x u hT (by rw [hl]; exact hu)]
      have hu' : (u : Int) < (s.size : Int) := by omega
      clear hl h4l hT hread
      go_enter Tryz.func59, Tryz.ntmps59
      go_wp2_with fail
      refine (HR.out _).mono ?_
      rintro e w1 ⟨⟨l, t, a, m, c, rfl, hit⟩, B1⟩
      obtain ⟨k0, k1, k2, f0, f1, f2⟩ := res3 B1
      have HB1 : Hid (Below w.heap.size w w1) := ((Below.refl _ _).alloc (Nat.le_refl _) _).trans (B1.mono (by simp))
      have hz : w.heap.size < w1.heap.size := by have := B1.size; simp at this; omega
      clear B1 hit
      go_wp2_with fail
      exact bodyPost_ret (v := .tuple #[.agg #[.bool false, .string ⟨#[]⟩, .slice none 0 0], .int .i64 6]) (by simp [results, Tryz.results59, go_sem, k0, k1, k2, hz]) rfl ⟨⟨rfl, by decide⟩, below_set3_alloc HB1.out hz _ _ _ _⟩
    · rw [decR_done _ h4l x u hT (by rw [hl]; exact hu)]
      have hu' : ¬ ((u : Int) < (s.size : Int)) := by omega
      clear hl h4l hT hread
      go_enter Tryz.func59, Tryz.ntmps59
      go_wp2_with fail
      refine (HR.out _).mono ?_
      rintro e w1 ⟨⟨l, t, a, m, c, rfl, hit⟩, B1⟩
      obtain ⟨k0, k1, k2, f0, f1, f2⟩ := res3 B1
      have HB1 : Hid (Below w.heap.size w w1) := ((Below.refl _ _).alloc (Nat.le_refl _) _).trans (B1.mono (by simp))
      have hz : w.heap.size < w1.heap.size := by have := B1.size; simp at this; omega
      have hmv : ∀ (W3 : World), (∀ b, b < w1.heap.size → b ≠ w.heap.size → W3.heap[b]? = w1.heap[b]?) → ItemIs 6 W3 (fun b => w.heap.size ≤ b) [.bool l, .string t, .slice a m c] x := fun W3 h3 => by
        refine ItemIs.move (w := w1) (S := fun b => w.heap.size + 1 ≤ b) (fun b hb hlt => ⟨by omega, h3 b hlt (by omega)⟩) 6 _ _ (by simpa using hit)
      have HMV : Hid (∀ (W3 : World), (∀ b, b < w1.heap.size → b ≠ w.heap.size → W3.heap[b]? = w1.heap[b]?) → ItemIs 6 W3 (fun b => w.heap.size ≤ b) [.bool l, .string t, .slice a m c] x) := hmv
      clear B1 hit hmv
      go_wp2_with fail
      exact bodyPost_ret (v := .tuple #[.agg #[.bool l, .string t, .slice a m c], .int .i64 0]) (by simp [results, Tryz.results59, go_sem, k0, k1, k2, hz]) rfl ⟨⟨l, t, a, m, c, rfl, HMV.out _ (fun b hlt hb => by
        rw [Below.heap_alloc _ _ _ (by simp [World.setCell]; omega)]
        simp [heap_setCell_other, hb])⟩, below_set3_alloc HB1.out hz _ _ _ _⟩
end Go.Proofs.YtenmjjpkbcogbaaGreatDoor
