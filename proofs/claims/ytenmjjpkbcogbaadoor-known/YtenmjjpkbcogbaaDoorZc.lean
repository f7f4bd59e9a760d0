import Derived.Test.YtenmjjpkbcogbaaDoorZb
import GoSem.ClaimJoined
import Derived.Lib.AppendStr

/- Rlp -/
namespace Go.Proofs.YtenmjjpkbcogbaaDoor
open Go

/-- an item -/
abbrev Tree := DataW Unit
def textT (l : List UInt8) : Tree := .lit (.string l)
def listT (ks : List Tree) : Tree := .slice ks []

/-- the bytes of n, the highest first -/
def digs : Nat → Nat → List UInt8
  | 0, _ => []
  | f + 1, n => if n = 0 then [] else digs f (n / 256) ++ [UInt8.ofNat (n % 256)]
/-- the number that bytes mean -/
def be (l : List UInt8) : Nat := l.foldl (fun a c => a * 256 + c.toNat) 0

theorem digs_zero : ∀ f, digs f 0 = []
  | 0 => rfl
  | f + 1 => by simp [digs]
theorem be_snoc (l : List UInt8) (c : UInt8) : be (l ++ [c]) = be l * 256 + c.toNat := by simp [be]
theorem be_digs : ∀ f n, n < 256 ^ f → be (digs f n) = n
  | 0, n, h => by simp at h; subst h; rfl
  | f + 1, n, h => by
    unfold digs
    by_cases h0 : n = 0
    · rw [if_pos h0, h0]; rfl
    · rw [if_neg h0, be_snoc, be_digs f (n / 256) (by rw [Nat.pow_succ] at h; omega), UInt8.toNat_ofNat']
      omega
theorem digs_length : ∀ f n, (digs f n).length ≤ f
  | 0, _ => by simp [digs]
  | f + 1, n => by
    unfold digs
    split
    · simp
    · rw [List.length_append]; have := digs_length f (n / 256); simp; omega
theorem digs_pos (f n : Nat) (hf : 0 < f) (h : 0 < n) : 0 < (digs f n).length := by
  cases f with
  | zero => omega
  | succ f => unfold digs; rw [if_neg (by omega)]; simp
theorem digs_head : ∀ f n, 0 < n → n < 256 ^ f → ((digs f n).getD 0 0).toNat ≠ 0
  | 0, n, h, h2 => by simp at h2; omega
  | f + 1, n, h, h2 => by
    unfold digs
    rw [if_neg (by omega)]
    by_cases hq : n / 256 = 0
    · rw [hq, digs_zero]
      show (UInt8.ofNat (n % 256)).toNat ≠ 0
      rw [UInt8.toNat_ofNat']; omega
    · have ih := digs_head f (n / 256) (by omega) (by rw [Nat.pow_succ] at h2; omega)
      have hp : 0 < (digs f (n / 256)).length := by
        cases f with
        | zero => simp at h2; omega
        | succ f => exact digs_pos _ _ (by omega) (by omega)
      rw [List.getD_eq_getElem?_getD, List.getElem?_append_left hp, ← List.getD_eq_getElem?_getD]
      exact ih
theorem be_pos (l : List UInt8) (h : l ≠ []) (h0 : (l.getD 0 0).toNat ≠ 0) : 0 < be l := by
  have key : ∀ (l : List UInt8) (a : Nat), a ≤ l.foldl (fun a c => a * 256 + c.toNat) a := by
    intro l
    induction l with
    | nil => intro a; exact Nat.le_refl _
    | cons c r ih => intro a; exact Nat.le_trans (by omega) (ih (a * 256 + c.toNat))
  cases l with
  | nil => exact absurd rfl h
  | cons c r =>
    have := key r (0 * 256 + c.toNat)
    simp only [List.getD_cons_zero] at h0
    have e : be (c :: r) = r.foldl (fun a c => a * 256 + c.toNat) (0 * 256 + c.toNat) := rfl
    rw [e]
    omega
theorem be_lt (l : List UInt8) : be l < 256 ^ l.length := by
  have key : ∀ (l : List UInt8) (a : Nat), l.foldl (fun a c => a * 256 + c.toNat) a < (a + 1) * 256 ^ l.length := by
    intro l
    induction l with
    | nil => intro a; simp
    | cons c r ih =>
      intro a
      have h1 := ih (a * 256 + c.toNat)
      have h2 := c.toNat_lt
      have h3 : (a * 256 + c.toNat + 1) * 256 ^ r.length ≤ ((a + 1) * 256) * 256 ^ r.length := Nat.mul_le_mul_right _ (by omega)
      simp only [List.foldl_cons, List.length_cons, Nat.pow_succ]
      rw [Nat.mul_assoc] at h3
      rw [Nat.mul_comm (256 ^ r.length) 256]
      exact Nat.lt_of_lt_of_le h1 h3
  have := key l 0
  rw [Nat.zero_add, Nat.one_mul] at this
  exact this
theorem digs_be : ∀ (f : Nat) (l : List UInt8), l.length ≤ f → (l ≠ [] → (l.getD 0 0).toNat ≠ 0) → digs f (be l) = l
  | 0, l, h, _ => by
    have : l = [] := List.length_eq_zero_iff.1 (by omega)
    subst this; rfl
  | f + 1, l, h, h0 => by
    rcases List.eq_nil_or_concat l with rfl | ⟨m, c, rfl⟩
    · exact digs_zero _
    · rw [List.concat_eq_append] at *
      have hc := c.toNat_lt
      have hm : m ≠ [] → (m.getD 0 0).toNat ≠ 0 := by
        intro hm
        have := h0 (by simp)
        rwa [List.getD_eq_getElem?_getD, List.getElem?_append_left (List.length_pos_iff.2 hm), ← List.getD_eq_getElem?_getD] at this
      have ih := digs_be f m (by simp at h; omega) hm
      have hne : be (m ++ [c]) ≠ 0 := by
        have := be_pos (m ++ [c]) (by simp) (h0 (by simp))
        omega
      unfold digs
      rw [if_neg hne, be_snoc]
      have e1 : (be m * 256 + c.toNat) / 256 = be m := by omega
      have e2 : UInt8.ofNat ((be m * 256 + c.toNat) % 256) = c := by apply u8_ext; rw [UInt8.toNat_ofNat']; omega
      rw [e1, e2, ih]

def headU (kind n : Nat) : List UInt8 := if n ≤ 55 then [UInt8.ofNat (kind + n)] else UInt8.ofNat (kind + 55 + (digs 8 n).length) :: digs 8 n
def bareB (t : List UInt8) : Bool := decide (t.length = 1) && decide ((t.getD 0 0).toNat < 128)
def textC (t : List UInt8) : List UInt8 := if bareB t = true then t else headU 128 t.length ++ t
def listC (body : List UInt8) : List UInt8 := headU 192 body.length ++ body
def codeU : Nat → Tree → List UInt8
  | _, .lit (.string t) => textC t
  | d + 1, .slice ks _ => listC (ks.map (codeU d)).flatten
  | _, _ => []
def flatU : Nat → Tree → Bool
  | _, .lit (.string _) => true
  | d + 1, .slice ks [] => decide (ks.length ≤ 64) && ks.all (flatU d)
  | _, _ => false

def spanR (s : List UInt8) (list : Bool) (from_ n : Nat) : Except Nat (Bool × Nat × Nat) := if s.length - from_ < n then .error 5 else .ok (list, from_, n)
/-- of an item's head: is it a list, where its content begins, how long it is -/
def headR (s : List UInt8) : Except Nat (Bool × Nat × Nat) :=
  if s.length = 0 then .error 5 else
  if (s.getD 0 0).toNat < 128 then .ok (false, 0, 1) else
  if (s.getD 0 0).toNat - (if 192 ≤ (s.getD 0 0).toNat then 192 else 128) ≤ 55 then spanR s (decide (192 ≤ (s.getD 0 0).toNat)) 1 ((s.getD 0 0).toNat - (if 192 ≤ (s.getD 0 0).toNat then 192 else 128)) else
  if s.length - 1 < (s.getD 0 0).toNat - (if 192 ≤ (s.getD 0 0).toNat then 192 else 128) - 55 then .error 5 else
  if (s.getD 1 0).toNat = 0 ∨ be ((s.drop 1).take ((s.getD 0 0).toNat - (if 192 ≤ (s.getD 0 0).toNat then 192 else 128) - 55)) ≤ 55 then .error 7 else
  spanR s (decide (192 ≤ (s.getD 0 0).toNat)) (1 + ((s.getD 0 0).toNat - (if 192 ≤ (s.getD 0 0).toNat then 192 else 128)) - 55) (be ((s.drop 1).take ((s.getD 0 0).toNat - (if 192 ≤ (s.getD 0 0).toNat then 192 else 128) - 55)))

def takeAll (f : List UInt8 → Except Nat (Tree × Nat)) : Nat → List UInt8 → Except Nat (List Tree)
  | m, body => if body.length = 0 then .ok [] else
    match m with
    | 0 => .error 8
    | m + 1 => match f body with
      | .error e => .error e
      | .ok (k, u) => match takeAll f m (body.drop u) with
        | .error e => .error e
        | .ok ks => .ok (k :: ks)
/-- the first item of s, and how many bytes it takes; d: how many lists may still hold each other -/
def takeR : Nat → List UInt8 → Except Nat (Tree × Nat)
  | d, s => match headR s with
    | .error e => .error e
    | .ok (list, from_, n) =>
      if list = false then (if 0 < from_ ∧ bareB ((s.drop from_).take n) = true then .error 7 else .ok (textT ((s.drop from_).take n), from_ + n))
      else match d with
        | 0 => .error 8
        | d + 1 => match takeAll (takeR d) 64 ((s.drop from_).take n) with
          | .error e => .error e
          | .ok ks => .ok (listT ks, from_ + n)
def decR (s : List UInt8) : Except Nat Tree :=
  if 4096 < s.length then .error 1 else
  match takeR 6 s with
  | .error e => .error e
  | .ok (x, u) => if u < s.length then .error 6 else .ok x
end Go.Proofs.YtenmjjpkbcogbaaDoor

/- RlpT -/
namespace Go.Proofs.YtenmjjpkbcogbaaDoor
open Go

theorem getD_cons (s : List UInt8) (h : s.length ≠ 0) : s = s.getD 0 0 :: s.drop 1 := by
  cases s with
  | nil => simp at h
  | cons c r => rfl
theorem headU_length_pos (kind n : Nat) : 0 < (headU kind n).length := by unfold headU; split <;> simp

theorem spanR_ok {s : List UInt8} {l l' : Bool} {f n f' n' : Nat} (h : spanR s l f n = .ok (l', f', n')) : l' = l ∧ f' = f ∧ n' = n ∧ ¬ s.length - f < n := by
  unfold spanR at h
  split at h
  · cases h
  · cases h; exact ⟨rfl, rfl, rfl, ‹_›⟩

/-- a head that is read is the content's own -/
theorem headR_ok (s : List UInt8) (l : Bool) (f n : Nat) (h : headR s = .ok (l, f, n)) :
    s.length ≠ 0 ∧ ((l = false ∧ f = 0 ∧ n = 1 ∧ (s.getD 0 0).toNat < 128) ∨ (1 ≤ f ∧ f + n ≤ s.length ∧ s.take f = headU (if l then 192 else 128) n)) := by
  unfold headR at h
  by_cases h0 : s.length = 0
  · rw [if_pos h0] at h; cases h
  rw [if_neg h0] at h
  refine ⟨h0, ?_⟩
  have hc := getD_cons s h0
  have hb := (s.getD 0 0).toNat_lt
  by_cases h1 : (s.getD 0 0).toNat < 128
  · rw [if_pos h1] at h
    cases h
    exact .inl ⟨rfl, rfl, rfl, h1⟩
  rw [if_neg h1] at h
  right
  generalize hbase : (if 192 ≤ (s.getD 0 0).toNat then 192 else 128) = base at h
  have hkind : (if (decide (192 ≤ (s.getD 0 0).toNat)) = true then 192 else 128) = base := by rw [← hbase]; simp
  have hge : base ≤ (s.getD 0 0).toNat := by rw [← hbase]; split <;> omega
  by_cases h2 : (s.getD 0 0).toNat - base ≤ 55
  · rw [if_pos h2] at h
    obtain ⟨rfl, rfl, rfl, h3⟩ := spanR_ok h
    refine ⟨by omega, by omega, ?_⟩
    rw [hkind]
    unfold headU
    rw [if_pos h2, hc]
    show [s.getD 0 0] = _
    congr 1
    apply u8_ext
    rw [UInt8.toNat_ofNat']
    have e : ((s.getD 0 0) :: s.drop 1).getD 0 0 = s.getD 0 0 := rfl
    rw [e]; omega
  rw [if_neg h2] at h
  by_cases h3 : s.length - 1 < (s.getD 0 0).toNat - base - 55
  · rw [if_pos h3] at h; cases h
  rw [if_neg h3] at h
  have hk8 : (s.getD 0 0).toNat - base - 55 ≤ 8 := by rw [← hbase]; split <;> omega
  have hfk : 1 + ((s.getD 0 0).toNat - base) - 55 = 1 + ((s.getD 0 0).toNat - base - 55) := by omega
  rw [hfk] at h
  have hcb : (s.getD 0 0).toNat = base + 55 + ((s.getD 0 0).toNat - base - 55) := by omega
  have hk1 : 1 ≤ (s.getD 0 0).toNat - base - 55 := by omega
  generalize hk : (s.getD 0 0).toNat - base - 55 = k at *
  have hdl : ((s.drop 1).take k).length = k := by rw [List.length_take, List.length_drop]; omega
  by_cases h4 : (s.getD 1 0).toNat = 0 ∨ be ((s.drop 1).take k) ≤ 55
  · rw [if_pos h4] at h; cases h
  rw [if_neg h4] at h
  obtain ⟨rfl, rfl, rfl, h5⟩ := spanR_ok h
  refine ⟨by omega, by omega, ?_⟩
  rw [hkind]
  have hdg : digs 8 (be ((s.drop 1).take k)) = (s.drop 1).take k := digs_be 8 _ (by omega) (fun _ => by
    intro hz
    apply h4
    left
    have e : ((s.drop 1).take k).getD 0 0 = s.getD 1 0 := by
      rw [List.getD_eq_getElem?_getD, List.getElem?_take, if_pos (by omega), List.getElem?_drop, List.getD_eq_getElem?_getD]
    rw [e] at hz; exact hz)
  unfold headU
  rw [if_neg (by omega), hdg, hdl]
  conv => lhs; rw [hc]
  rw [Nat.add_comm 1 k, List.take_succ_cons]
  congr 1
  apply u8_ext
  rw [UInt8.toNat_ofNat']
  omega

theorem takeAll_ok (f : List UInt8 → Except Nat (Tree × Nat)) (code : Tree → List UInt8) (fl : Tree → Bool)
    (hf : ∀ s x u, f s = .ok (x, u) → 0 < u ∧ u ≤ s.length ∧ code x = s.take u ∧ fl x = true) :
    ∀ (m : Nat) (body : List UInt8) (ks : List Tree), takeAll f m body = .ok ks → (ks.map code).flatten = body ∧ ks.all fl = true ∧ ks.length ≤ m
  | 0, body, ks, h => by
    unfold takeAll at h
    by_cases h0 : body.length = 0
    · rw [if_pos h0] at h; cases h
      exact ⟨(List.length_eq_zero_iff.1 h0).symm, rfl, Nat.le_refl _⟩
    · rw [if_neg h0] at h; cases h
  | m + 1, body, ks, h => by
    unfold takeAll at h
    by_cases h0 : body.length = 0
    · rw [if_pos h0] at h; cases h
      exact ⟨(List.length_eq_zero_iff.1 h0).symm, rfl, Nat.zero_le _⟩
    · rw [if_neg h0] at h
      simp only at h
      cases hk : f body with
      | error e => rw [hk] at h; cases h
      | ok ku =>
        obtain ⟨k, u⟩ := ku
        rw [hk] at h
        simp only at h
        cases hr : takeAll f m (body.drop u) with
        | error e => rw [hr] at h; cases h
        | ok ks' =>
          rw [hr] at h
          cases h
          obtain ⟨h1, h2, h3, h4⟩ := hf _ _ _ hk
          obtain ⟨i1, i2, i3⟩ := takeAll_ok f code fl hf m _ _ hr
          refine ⟨?_, ?_, by simp; omega⟩
          · rw [List.map_cons, List.flatten_cons, h3, i1, List.take_append_drop]
          · rw [List.all_cons, h4, i2]; rfl

/-- WHAT IS DECODED IS ENCODED AGAIN -/
theorem takeR_ok : ∀ (d : Nat) (s : List UInt8) (x : Tree) (u : Nat), takeR d s = .ok (x, u) → 0 < u ∧ u ≤ s.length ∧ codeU d x = s.take u ∧ flatU d x = true := by
  intro d
  induction d with
  | zero =>
    intro s x u h
    unfold takeR at h
    cases hh : headR s with
    | error e => rw [hh] at h; cases h
    | ok lfn =>
      obtain ⟨l, f, n⟩ := lfn
      rw [hh] at h
      simp only at h
      obtain ⟨hs0, hcase⟩ := headR_ok s l f n hh
      cases l with
      | true => simp at h
      | false =>
        rw [if_pos rfl] at h
        split at h
        · cases h
        · rename_i hnb
          cases h
          rcases hcase with ⟨_, rfl, rfl, hlt⟩ | ⟨hf1, hfn, hhd⟩
          · refine ⟨by omega, by omega, ?_, rfl⟩
            show textC _ = _
            have hb : bareB ((s.drop 0).take 1) = true := by
              rw [getD_cons s hs0]
              unfold bareB
              simp only [List.drop_zero, List.take_succ_cons, List.take_zero, List.getD_cons_zero]
              simp
              simpa using hlt
            unfold textC; rw [if_pos hb]; simp
          · refine ⟨by omega, hfn, ?_, rfl⟩
            show textC _ = _
            have hb : ¬ bareB ((s.drop f).take n) = true := fun hb => hnb ⟨by omega, hb⟩
            have hl : ((s.drop f).take n).length = n := by rw [List.length_take, List.length_drop]; omega
            unfold textC; rw [if_neg hb, hl, ← (show headU (if false = true then 192 else 128) n = headU 128 n from rfl), ← hhd, List.take_add]
  | succ d ih =>
    intro s x u h
    unfold takeR at h
    cases hh : headR s with
    | error e => rw [hh] at h; cases h
    | ok lfn =>
      obtain ⟨l, f, n⟩ := lfn
      rw [hh] at h
      simp only at h
      obtain ⟨hs0, hcase⟩ := headR_ok s l f n hh
      cases l with
      | true =>
        simp only [Bool.true_eq_false, if_false] at h
        rcases hcase with ⟨hl, _⟩ | ⟨hf1, hfn, hhd⟩
        · cases hl
        cases hk : takeAll (takeR d) 64 ((s.drop f).take n) with
        | error e => rw [hk] at h; cases h
        | ok ks =>
          rw [hk] at h
          cases h
          obtain ⟨i1, i2, i3⟩ := takeAll_ok (takeR d) (codeU d) (flatU d) (fun s x u h => ih s x u h) 64 _ _ hk
          have hl : ((s.drop f).take n).length = n := by rw [List.length_take, List.length_drop]; omega
          refine ⟨by omega, hfn, ?_, ?_⟩
          · show listC _ = _
            rw [i1]; unfold listC; rw [hl, ← (show headU (if true = true then 192 else 128) n = headU 192 n from rfl), ← hhd, List.take_add]
          · show (decide (ks.length ≤ 64) && ks.all (flatU d)) = true
            rw [i2, decide_eq_true i3]; rfl
      | false =>
        rw [if_pos rfl] at h
        split at h
        · cases h
        · rename_i hnb
          cases h
          rcases hcase with ⟨_, rfl, rfl, hlt⟩ | ⟨hf1, hfn, hhd⟩
          · refine ⟨by omega, by omega, ?_, rfl⟩
            show textC _ = _
            have hb : bareB ((s.drop 0).take 1) = true := by
              rw [getD_cons s hs0]
              unfold bareB
              simp only [List.drop_zero, List.take_succ_cons, List.take_zero, List.getD_cons_zero]
              simp
              simpa using hlt
            unfold textC; rw [if_pos hb]; simp
          · refine ⟨by omega, hfn, ?_, rfl⟩
            show textC _ = _
            have hb : ¬ bareB ((s.drop f).take n) = true := fun hb => hnb ⟨by omega, hb⟩
            have hl : ((s.drop f).take n).length = n := by rw [List.length_take, List.length_drop]; omega
            unfold textC; rw [if_neg hb, hl, ← (show headU (if false = true then 192 else 128) n = headU 128 n from rfl), ← hhd, List.take_add]

def kindN (l : Bool) : Nat := if l then 192 else 128
/-- a head that was made is read -/
theorem headR_made (l : Bool) (n : Nat) (rest : List UInt8) (hn : n < 256 ^ 8) (hr : n ≤ rest.length) : headR (headU (kindN l) n ++ rest) = .ok (l, (headU (kindN l) n).length, n) := by
  have hkind : ∀ b : Nat, kindN l ≤ b → (l = false → b < 192) → (if 192 ≤ b then 192 else 128) = kindN l ∧ decide (192 ≤ b) = l := by
    intro b h1 h2
    cases l with
    | false => have := h2 rfl; rw [if_neg (by omega)]; exact ⟨rfl, decide_eq_false (by omega)⟩
    | true => have h1' : 192 ≤ b := h1; rw [if_pos h1']; exact ⟨rfl, decide_eq_true h1'⟩
  have hk192 : kindN l ≤ 192 := by cases l <;> decide
  have hk128 : 128 ≤ kindN l := by cases l <;> decide
  have hkf : l = false → kindN l = 128 := by intro h; rw [h]; rfl
  by_cases h55 : n ≤ 55
  · have e : headU (kindN l) n = [UInt8.ofNat (kindN l + n)] := by unfold headU; rw [if_pos h55]
    have eb : (UInt8.ofNat (kindN l + n)).toNat = kindN l + n := by rw [UInt8.toNat_ofNat']; omega
    obtain ⟨k1, k2⟩ := hkind (kindN l + n) (by omega) (fun h => by rw [hkf h]; omega)
    rw [e]
    unfold headR
    simp only [List.singleton_append, List.getD_cons_zero, eb, k1, k2, List.length_cons]
    rw [if_neg (by omega), if_neg (by omega), if_pos (by omega), show kindN l + n - kindN l = n by omega]
    unfold spanR
    rw [if_neg (by simp; omega)]
    rfl
  · have hp : 0 < (digs 8 n).length := digs_pos 8 n (by omega) (by omega)
    have h8 := digs_length 8 n
    have e : headU (kindN l) n = UInt8.ofNat (kindN l + 55 + (digs 8 n).length) :: digs 8 n := by unfold headU; rw [if_neg h55]
    have eb : (UInt8.ofNat (kindN l + 55 + (digs 8 n).length)).toNat = kindN l + 55 + (digs 8 n).length := by rw [UInt8.toNat_ofNat']; omega
    obtain ⟨k1, k2⟩ := hkind (kindN l + 55 + (digs 8 n).length) (by omega) (fun h => by rw [hkf h]; omega)
    have hbe := be_digs 8 n hn
    have hhd := digs_head 8 n (by omega) hn
    rw [e]
    generalize hD : digs 8 n = D at *
    have e1 : kindN l + 55 + D.length - kindN l = 55 + D.length := by omega
    have e2 : 55 + D.length - 55 = D.length := by omega
    have e3 : 1 + (55 + D.length) - 55 = 1 + D.length := by omega
    unfold headR
    simp only [List.cons_append, List.getD_cons_zero, eb, k1, k2, List.length_cons, List.drop_succ_cons, List.drop_zero, e1, e2, e3, List.take_left, hbe]
    rw [if_neg (by omega), if_neg (by omega), if_neg (by omega), if_neg (by simp), if_neg]
    · unfold spanR
      rw [if_neg (by simp; omega), Nat.add_comm 1]
    · rintro (h | h)
      · apply hhd
        rw [List.getD_cons_succ, List.getD_eq_getElem?_getD, List.getElem?_append_left hp, ← List.getD_eq_getElem?_getD] at h
        exact h
      · omega

theorem textC_pos (t : List UInt8) : 0 < (textC t).length := by
  unfold textC
  split
  · rename_i h; unfold bareB at h; simp at h; omega
  · rw [List.length_append]; have := headU_length_pos 128 t.length; omega
theorem take_text (d : Nat) (t r : List UInt8) (hn : t.length < 256 ^ 8) : takeR d (textC t ++ r) = .ok (textT t, (textC t).length) := by
  by_cases hb : bareB t = true
  · have e : textC t = t := by unfold textC; rw [if_pos hb]
    have hb' := hb
    unfold bareB at hb'
    rw [Bool.and_eq_true, decide_eq_true_eq, decide_eq_true_eq] at hb'
    obtain ⟨hl, hlt⟩ := hb'
    rw [e]
    match t, hl with
    | [c], _ =>
      have hh : headR ([c] ++ r) = .ok (false, 0, 1) := by
        unfold headR
        simp only [List.singleton_append, List.getD_cons_zero, List.length_cons]
        simp only [List.getD_cons_zero] at hlt
        rw [if_neg (by omega), if_pos hlt]
      unfold takeR
      rw [hh]
      simp
  · have e : textC t = headU 128 t.length ++ t := by unfold textC; rw [if_neg hb]
    have hh := headR_made false t.length (t ++ r) hn (by simp)
    have hk : kindN false = 128 := rfl
    rw [hk] at hh
    rw [e, List.append_assoc]
    unfold takeR
    rw [hh]
    simp only
    rw [if_pos trivial, List.drop_left, List.take_left, if_neg (fun h => hb h.2), List.length_append]

theorem flatU_inv (d : Nat) (x : Tree) (h : flatU d x = true) : (∃ t, x = textT t) ∨ (∃ e ks, d = e + 1 ∧ x = listT ks ∧ ks.length ≤ 64 ∧ ks.all (flatU e) = true) := by
  unfold flatU at h
  split at h
  · exact .inl ⟨_, rfl⟩
  · rw [Bool.and_eq_true, decide_eq_true_eq] at h
    exact .inr ⟨_, _, rfl, rfl, h.1, h.2⟩
  · cases h
theorem codeU_text (d : Nat) (t : List UInt8) : codeU d (textT t) = textC t := by unfold textT; simp only [codeU]
theorem codeU_list (d : Nat) (ks : List Tree) : codeU (d + 1) (listT ks) = listC (ks.map (codeU d)).flatten := by unfold listT; simp only [codeU]
theorem codeU_pos (d : Nat) (x : Tree) (h : flatU d x = true) : 0 < (codeU d x).length := by
  rcases flatU_inv d x h with ⟨t, rfl⟩ | ⟨e, ks, rfl, rfl, _, _⟩
  · rw [codeU_text]; exact textC_pos t
  · rw [codeU_list]; unfold listC; rw [List.length_append]; have := headU_length_pos 192 (ks.map (codeU e)).flatten.length; omega

theorem takeAll_made (f : List UInt8 → Except Nat (Tree × Nat)) (code : Tree → List UInt8)
    (ks : List Tree) : ∀ (m : Nat), ks.length ≤ m → (∀ x, x ∈ ks → 0 < (code x).length ∧ ∀ r, f (code x ++ r) = .ok (x, (code x).length)) → takeAll f m (ks.map code).flatten = .ok ks := by
  induction ks with
  | nil => intro m _ _; unfold takeAll; rw [if_pos (by simp)]
  | cons k ks ih =>
    intro m hm hf
    obtain ⟨hp, hk⟩ := hf k (by simp)
    cases m with
    | zero => simp at hm
    | succ m =>
      have hi := ih m (by simp at hm; omega) (fun x hx => hf x (by simp [hx]))
      unfold takeAll
      rw [List.map_cons, List.flatten_cons, if_neg (by rw [List.length_append]; omega)]
      simp only
      rw [hk]
      simp only
      rw [List.drop_left, hi]

theorem part_le (l : List (List UInt8)) : ∀ c, c ∈ l → c.length ≤ l.flatten.length := by
  induction l with
  | nil => intro c h; cases h
  | cons a l ih =>
    intro c h
    rw [List.flatten_cons, List.length_append]
    rcases List.mem_cons.1 h with rfl | h
    · omega
    · have := ih c h; omega

/-- WHAT IS ENCODED IS DECODED AGAIN -/
theorem takeR_made : ∀ (d : Nat) (x : Tree) (r : List UInt8), flatU d x = true → (codeU d x).length < 256 ^ 8 → takeR d (codeU d x ++ r) = .ok (x, (codeU d x).length) := by
  intro d
  induction d with
  | zero =>
    intro x r hx hn
    rcases flatU_inv 0 x hx with ⟨t, rfl⟩ | ⟨e, ks, he, _⟩
    · rw [codeU_text] at hn
      rw [codeU_text]
      refine take_text 0 t r ?_
      unfold textC at hn
      split at hn
      · exact hn
      · rw [List.length_append] at hn; omega
    · omega
  | succ d ih =>
    intro x r hx hn
    rcases flatU_inv (d + 1) x hx with ⟨t, rfl⟩ | ⟨e, ks, he, rfl, h64, hall⟩
    · rw [codeU_text] at hn
      rw [codeU_text]
      refine take_text (d + 1) t r ?_
      unfold textC at hn
      split at hn
      · exact hn
      · rw [List.length_append] at hn; omega
    · obtain rfl : e = d := by omega
      rw [codeU_list] at hn
      rw [codeU_list]
      have hbl : (ks.map (codeU e)).flatten.length < 256 ^ 8 := by unfold listC at hn; rw [List.length_append] at hn; omega
      have hka := takeAll_made (takeR e) (codeU e) ks 64 h64 (fun x hxm => by
        have hf := List.all_eq_true.1 hall x hxm
        refine ⟨codeU_pos e x hf, fun r => ih x r hf ?_⟩
        have := part_le (ks.map (codeU e)) (codeU e x) (List.mem_map_of_mem hxm)
        omega)
      generalize hB : (ks.map (codeU e)).flatten = body at *
      have hh := headR_made true body.length (body ++ r) hbl (by simp)
      have hk : kindN true = 192 := rfl
      rw [hk] at hh
      unfold listC
      rw [List.append_assoc]
      unfold takeR
      rw [hh]
      simp only [Bool.true_eq_false, if_false]
      rw [List.drop_left, List.take_left, hka]
      simp only [List.length_append]

/-- of a whole code -/
theorem decR_made (x : Tree) (h : flatU 6 x = true) (hn : (codeU 6 x).length ≤ 4096) : decR (codeU 6 x) = .ok x := by
  have := takeR_made 6 x [] h (by omega)
  rw [List.append_nil] at this
  unfold decR
  rw [if_neg (by omega), this]
  simp
theorem decR_ok (s : List UInt8) (x : Tree) (h : decR s = .ok x) : codeU 6 x = s ∧ flatU 6 x = true ∧ s.length ≤ 4096 := by
  unfold decR at h
  by_cases h1 : 4096 < s.length
  · rw [if_pos h1] at h; cases h
  rw [if_neg h1] at h
  cases ht : takeR 6 s with
  | error e => rw [ht] at h; cases h
  | ok xu =>
    obtain ⟨y, u⟩ := xu
    rw [ht] at h
    simp only at h
    obtain ⟨_, h2, h3, h4⟩ := takeR_ok 6 s y u ht
    by_cases h5 : u < s.length
    · rw [if_pos h5] at h; cases h
    · rw [if_neg h5] at h; cases h
      refine ⟨?_, h4, by omega⟩
      rw [h3, List.take_of_length_le (by omega)]
end Go.Proofs.YtenmjjpkbcogbaaDoor

/- RlpA -/
namespace Go.Proofs.YtenmjjpkbcogbaaDoor
open Go.RowKit

theorem conv_one (W : World) (x : Int) : (convert 54 9 (.slice (some ⟨W.heap.size, 0, none⟩) 1 1)).run Tryd.prog (W.alloc (.cells #[.int .u8 x] 5)) = .ok (.string (strOfNums [x])) (W.alloc (.cells #[.int .u8 x] 5)) :=
  run_convert_bytes_arg (P := Tryd.prog) _ 54 5 Tryd.underlying54 Tryd.underlying5 W.heap.size 0 1 1 [x] rfl (fun i hi => by
    have : i = 0 := by omega
    subst this
    simp) 9 Tryd.underlying9
theorem nums_one (n : Nat) (h : n < 256) : strOfNums [(n : Int)] = str [UInt8.ofNat n] := by
  have e : ([(n : Int)] : List Int) = [UInt8.ofNat n].map (fun c => (c.toNat : Int)) := by
    simp only [List.map_cons, List.map_nil, UInt8.toNat_ofNat']; congr 1; omega
  rw [e, strOfNums_bytes]
theorem str_append (a b : List UInt8) : str a ++ str b = str (a ++ b) := by
  have h : (str a ++ str b).data.toList = (str (a ++ b)).data.toList := by simp [str_list]
  rw [← str_data (str a ++ str b), h, str_data]

theorem bare_calls (s : ByteArray) (w : World) :
    Calls Tryd.prog 47 #[.string s] w fun e w' => e = .returned (.bool (bareB s.data.toList)) ∧ w' = w := by
  have hl : s.data.toList.length = s.size := by simp
  by_cases h1 : s.size = 1
  · have h1' : ((s.size : Int) == 1) = true := beq_iff_eq.2 (by omega)
    have hp : 0 < s.size := by omega
    have e0 : s.data.toList.getD 0 0 = s[0] := by rw [List.getD_eq_getElem?_getD, List.getElem?_eq_getElem (by simpa using hp)]; rfl
    have hb : bareB s.data.toList = decide (((s[0]).toNat : Int) < 128) := by
      unfold bareB
      rw [hl, e0, decide_eq_true h1, Bool.true_and]
      by_cases h : (s[0]).toNat < 128
      · rw [decide_eq_true h, decide_eq_true (by omega)]
      · rw [decide_eq_false h, decide_eq_false (by omega)]
    have HB : Hid (bareB s.data.toList = decide (((s[0]).toNat : Int) < 128)) := hb
    clear hb hl e0 h1
    go_enter Tryd.func47, Tryd.ntmps47
    go_wp2
    go_ret
    exact ⟨by rw [HB.out]; rfl, rfl⟩
  · have h1' : ((s.size : Int) == 1) = false := beq_eq_false_iff_ne.2 (by omega)
    have hb : bareB s.data.toList = false := by
      unfold bareB
      rw [hl, decide_eq_false h1]; rfl
    have HB : Hid (bareB s.data.toList = false) := hb
    clear hb hl h1
    go_enter Tryd.func47, Tryd.ntmps47
    go_wp2
    go_ret
    exact ⟨by rw [HB.out]; rfl, rfl⟩

set_option maxHeartbeats 400000 in
theorem bytesOf_calls (n : Nat) (hn : n < 140737488355329) (w : World) :
    Calls Tryd.prog 68 #[.int .i64 n] w fun e w' => e = .returned (.string (str (digs 8 n))) ∧ Below w.heap.size w w' := by
  have hconv := fun W x => conv_one W x
  go_enter Tryd.func68, Tryd.ntmps68
  go_wp2_with fail
  go_loopg [0, 3] n (fun g a o wr => ∃ (m f : Nat) (out : ByteArray), g = m ∧ m ≤ n ∧ a = .int .i64 m ∧ o = .string out ∧ Hid (digs 8 n = digs f m ++ out.data.toList ∧ m < 256 ^ f ∧ f ≤ 8 ∧ out.size + f = 8) ∧ Below w.heap.size w wr)
  case atStart => exact ⟨n, 8, ByteArray.empty, rfl, Nat.le_refl _, rfl, rfl, ⟨by simp, by omega, Nat.le_refl _, rfl⟩, Below.refl _ _⟩
  case round =>
    obtain ⟨m, f, out, hg, hm, rfl, rfl, hd, hbel⟩ := hrel
    have HG : Hid (gk = m) := hg
    have HB : Hid (Below w.heap.size w wr) := hbel
    have hsz : out.size ≤ 8 := by have := hd.out.2.2.2; omega
    clear hg hbel
    by_cases h0 : 0 < m
    · have hw : IntKind.u8.wrap ((m : Int) % 256) = ((m % 256 : Nat) : Int) := by rw [IntKind.wrap_u8']; omega
      have h0' : (0 : Int) < (m : Int) := by omega
      have hns := nums_one (m % 256) (by omega)
      have hs1 : (strOfNums [(m : Int) % 256]).size = 1 := by rw [strOfNums_size]; rfl
      have HNS : Hid (strOfNums [((m % 256 : Nat) : Int)] = str [UInt8.ofNat (m % 256)]) := hns
      clear hns
      go_wp2_with fail
      go_roundg (m / 256)
      case measure => have := HG.out; omega
      case rel =>
        obtain ⟨d1, d2, d3, d4⟩ := hd.out
        have e : strOfNums [(m : Int) % 256] ++ out = str (UInt8.ofNat (m % 256) :: out.data.toList) := by
          have e1 : ((m : Int) % 256) = ((m % 256 : Nat) : Int) := by omega
          rw [e1, HNS.out]
          conv => lhs; rw [← str_data out]
          rw [str_append]; rfl
        cases f with
        | zero => simp at d2; omega
        | succ f =>
          refine ⟨m / 256, f, strOfNums [(m : Int) % 256] ++ out, rfl, by omega, by go_num, rfl, ⟨?_, by rw [Nat.pow_succ] at d2; omega, by omega, ?_⟩, HB.out.alloc HB.out.size _⟩
          · rw [d1, e, str_list]
            conv => lhs; unfold digs
            rw [if_neg (by omega), List.append_assoc]; rfl
          · rw [e, str_size]; simp; omega
    · have hm0 : m = 0 := by omega
      subst hm0
      have hfin : str (digs 8 n) = out := by rw [hd.out.1, digs_zero, List.nil_append, str_data]
      have HF : Hid (str (digs 8 n) = out) := hfin
      clear hfin
      go_wp2_with fail
      go_ret
      exact ⟨by rw [HF.out]; rfl, HB.out⟩

theorem digs8 (n : Nat) : (digs 8 n).length ≤ 8 := digs_length 8 n
theorem headU_length (kind n : Nat) : (headU kind n).length ≤ 9 := by
  unfold headU
  split
  · simp
  · have := digs8 n; simp; omega

set_option maxHeartbeats 400000 in
theorem headOf_calls (kind n : Nat) (hk : kind ≤ 192) (hn : n < 140737488355329) (w : World) :
    Calls Tryd.prog 60 #[.int .i64 kind, .int .i64 n] w fun e w' => e = .returned (.string (str (headU kind n))) ∧ Below w.heap.size w w' := by
  have hconv := fun W x => conv_one W x
  by_cases h : n ≤ 55
  · have h' : decide ((n : Int) ≤ 55) = true := by simp; omega
    have hw : IntKind.u8.wrap ((kind : Int) + (n : Int)) = ((kind + n : Nat) : Int) := by rw [IntKind.wrap_u8']; omega
    have hf : str (headU kind n) = strOfNums [((kind + n : Nat) : Int)] := by
      unfold headU; rw [if_pos h, nums_one _ (by omega)]
    have HF : Hid (str (headU kind n) = strOfNums [((kind + n : Nat) : Int)]) := hf
    clear hf
    go_enter Tryd.func60, Tryd.ntmps60
    go_wp2_with fail
    go_ret
    refine ⟨by rw [HF.out]; rfl, (Below.refl _ _).alloc (Nat.le_refl _) _⟩
  · have h' : decide ((n : Int) ≤ 55) = false := by simp; omega
    have hd8 := digs8 n
    have hsz : (str (digs 8 n)).size = (digs 8 n).length := str_size _
    have hf : str (headU kind n) = strOfNums [((kind + 55 + (digs 8 n).length : Nat) : Int)] ++ str (digs 8 n) := by
      unfold headU; rw [if_neg h, nums_one _ (by omega), str_append]; rfl
    have HF : Hid (str (headU kind n) = strOfNums [((kind + 55 + (digs 8 n).length : Nat) : Int)] ++ str (digs 8 n)) := hf
    clear hf
    go_enter Tryd.func60, Tryd.ntmps60
    go_wp2_with fail
    refine (bytesOf_calls n hn _).mono ?_
    rintro e w1 ⟨rfl, B1⟩
    have HB1 : Hid (Below w.heap.size w w1) := B1
    clear B1
    generalize str (digs 8 n) = D at *
    generalize hL : (digs 8 n).length = L at *
    have hw : IntKind.u8.wrap ((kind : Int) + 55 + (L : Int)) = ((kind + 55 + L : Nat) : Int) := by rw [IntKind.wrap_u8']; omega
    have hs1 : ∀ x : Int, (strOfNums [x]).size = 1 := fun x => by rw [strOfNums_size]; rfl
    go_wp2_with fail
    go_ret
    exact ⟨by rw [HF.out]; rfl, HB1.out.alloc HB1.out.size _⟩

def fitsB (kind : Nat) (l : List UInt8) : Bool := decide ((headU kind l.length).length + l.length ≤ 4096)
set_option maxHeartbeats 400000 in
theorem headed_calls (kind : Nat) (s : ByteArray) (hk : kind ≤ 192) (hn : s.size < 140737488355329) (w : World) :
    Calls Tryd.prog 48 #[.int .i64 kind, .string s] w fun e w' => e = .returned (.tuple #[.string (if fitsB kind s.data.toList then str (headU kind s.size ++ s.data.toList) else ByteArray.empty), .bool (fitsB kind s.data.toList)]) ∧ Below w.heap.size w w' := by
  have hl : s.data.toList.length = s.size := by simp
  have hd8 := headU_length kind s.size
  have hsz : (str (headU kind s.size)).size = (headU kind s.size).length := str_size _
  have HF : Hid (str (headU kind s.size ++ s.data.toList) = str (headU kind s.size) ++ s) := by
    conv => rhs; rw [← str_data s]
    exact (str_append _ _).symm
  by_cases h : (headU kind s.size).length + s.size ≤ 4096
  · have hfb : fitsB kind s.data.toList = true := by unfold fitsB; rw [hl]; exact decide_eq_true h
    rw [hfb, if_pos rfl, HF.out]
    have h' : decide ((4096 : Int) < ((headU kind s.size).length : Int) + (s.size : Int)) = false := by simp; omega
    clear hl HF hfb
    go_enter Tryd.func48, Tryd.ntmps48
    go_wp2_with fail
    refine (headOf_calls kind s.size hk hn _).mono ?_
    rintro e w1 ⟨rfl, B1⟩
    have HB1 : Hid (Below w.heap.size w w1) := B1
    clear B1
    generalize hD : str (headU kind s.size) = D at *
    have HD : Hid (str (headU kind s.size) = D) := hD
    clear hD
    generalize (headU kind s.size).length = L at *
    go_wp2_with fail
    go_ret2
    exact ⟨by rw [HD.out]; rfl, HB1.out⟩
  · have hfb : fitsB kind s.data.toList = false := by unfold fitsB; rw [hl]; exact decide_eq_false h
    rw [hfb]
    have h' : decide ((4096 : Int) < ((headU kind s.size).length : Int) + (s.size : Int)) = true := by simp; omega
    clear hl HF hfb
    go_enter Tryd.func48, Tryd.ntmps48
    go_wp2_with fail
    refine (headOf_calls kind s.size hk hn _).mono ?_
    rintro e w1 ⟨rfl, B1⟩
    have HB1 : Hid (Below w.heap.size w w1) := B1
    clear B1
    generalize str (headU kind s.size) = D at *
    generalize (headU kind s.size).length = L at *
    go_wp2_with fail
    go_ret2
    exact ⟨rfl, HB1.out⟩
end Go.Proofs.YtenmjjpkbcogbaaDoor

/- RlpM -/
namespace Go.Proofs.YtenmjjpkbcogbaaDoor
open Go.RowKit

/-- the cells of n items, three each, lie where the slice k says, in a block of S -/
structure RowIs (w : World) (S : Nat → Prop) (k : Value) (n : Nat) (xs : List Value) : Prop where
  len : xs.length = 3 * n
  lie : (n = 0 ∧ ∃ a c, k = .slice a 0 c) ∨ ∃ b o c, k = .slice (some ⟨b, o, none⟩) n c ∧ S b ∧ ∀ j, j < 3 * n → w.cell? ⟨b, o + j, none⟩ = xs[j]?

/-- the three cells cs are the item x, in memory of S -/
def ItemIs : Nat → World → (Nat → Prop) → List Value → Tree → Prop
  | 0, _, _, cs, x => ∃ t k, cs = [.bool false, .string t, k] ∧ x = textT t.data.toList ∧ t.size < 140737488355329
  | d + 1, w, S, cs, x => (∃ t k, cs = [.bool false, .string t, k] ∧ x = textT t.data.toList ∧ t.size < 140737488355329) ∨
    (∃ t k ks xs, cs = [.bool true, .string t, k] ∧ x = listT ks ∧ RowIs w S k ks.length xs ∧ ks.length < 140737488355329 ∧ ∀ i, i < ks.length → ItemIs d w S ((xs.drop (3 * i)).take 3) (ks.getD i (textT [])))

theorem item_text (d : Nat) (w : World) (S : Nat → Prop) (t : ByteArray) (k : Value) (h : t.size < 140737488355329) : ItemIs d w S [.bool false, .string t, k] (textT t.data.toList) := by
  cases d with
  | zero => exact ⟨t, k, rfl, rfl, h⟩
  | succ d => exact .inl ⟨t, k, rfl, rfl, h⟩
theorem item_list (d : Nat) (w : World) (S : Nat → Prop) (t : ByteArray) (k : Value) (ks : List Tree) (xs : List Value) (h : RowIs w S k ks.length xs) (hb : ks.length < 140737488355329) (hk : ∀ i, i < ks.length → ItemIs d w S ((xs.drop (3 * i)).take 3) (ks.getD i (textT []))) :
    ItemIs (d + 1) w S [.bool true, .string t, k] (listT ks) := .inr ⟨t, k, ks, xs, rfl, rfl, h, hb, hk⟩

theorem RowIs.move {w w' : World} {S S' : Nat → Prop} {k : Value} {n : Nat} {xs : List Value} (h : RowIs w S k n xs) (hS : ∀ b, S b → b < w.heap.size → S' b ∧ w'.heap[b]? = w.heap[b]?) : RowIs w' S' k n xs := by
  refine ⟨h.len, ?_⟩
  rcases h.lie with h0 | ⟨b, o, c, rfl, hb, hc⟩
  · exact .inl h0
  · by_cases hn : n = 0
    · subst hn; exact .inl ⟨rfl, _, _, rfl⟩
    · have h0 := hc 0 (by omega)
      have hx : xs[0]? = some (xs[0]'(by rw [h.len]; omega)) := List.getElem?_eq_getElem _
      rw [hx] at h0
      have hlt : b < w.heap.size := World.block_lt_of_cell? w _ h0
      obtain ⟨s1, s2⟩ := hS b hb hlt
      exact .inr ⟨b, o, c, rfl, s1, fun j hj => (World.cell?_of_block (w := w) (a := ⟨b, o + j, none⟩) s2).trans (hc j hj)⟩
/-- an item stays where its memory does -/
theorem ItemIs.move {w w' : World} {S S' : Nat → Prop} (hS : ∀ b, S b → b < w.heap.size → S' b ∧ w'.heap[b]? = w.heap[b]?) : ∀ (d : Nat) (cs : List Value) (x : Tree), ItemIs d w S cs x → ItemIs d w' S' cs x := by
  intro d
  induction d with
  | zero => intro cs x h; exact h
  | succ d ih =>
    intro cs x h
    rcases h with h | ⟨t, k, ks, xs, rfl, rfl, hr, hb, hk⟩
    · exact .inl h
    · exact .inr ⟨t, k, ks, xs, rfl, rfl, hr.move hS, hb, fun i hi => ih _ _ (hk i hi)⟩
theorem ItemIs.below {w w' : World} {S : Nat → Prop} {d : Nat} {cs : List Value} {x : Tree} (h : ItemIs d w S cs x) (k : Below w.heap.size w w') : ItemIs d w' S cs x :=
  ItemIs.move (fun b hb hlt => ⟨hb, k.block b hlt⟩) d cs x h
theorem RowIs.below {w w' : World} {S : Nat → Prop} {k : Value} {n : Nat} {xs : List Value} (h : RowIs w S k n xs) (b : Below w.heap.size w w') : RowIs w' S k n xs :=
  h.move (fun c hc hlt => ⟨hc, b.block c hlt⟩)

def fitsC (c : List UInt8) : Bool := decide (c.length ≤ 4096)
def outC (c : List UInt8) : ByteArray := if fitsC c then str c else ByteArray.empty
theorem fits_headed (l : Bool) (t : List UInt8) : fitsB (kindN l) t = fitsC (headU (kindN l) t.length ++ t) := by unfold fitsB fitsC; rw [List.length_append]
theorem outC_data (c : List UInt8) (h : fitsC c = true) : outC c = str c := by unfold outC; rw [h]; rfl

/-- the codes of the kids, as far as i -/
def codesTo (d : Nat) (ks : List Tree) (i : Nat) : List UInt8 := ((ks.take i).map (codeU d)).flatten
theorem codesTo_succ (d : Nat) (ks : List Tree) (i : Nat) (h : i < ks.length) : codesTo d ks (i + 1) = codesTo d ks i ++ codeU d (ks.getD i (textT [])) := by
  unfold codesTo
  have e : ks.getD i (textT []) = ks[i] := by simp [List.getD, List.getElem?_eq_getElem h]
  rw [List.take_succ_eq_append_getElem h, e, List.map_append, List.flatten_append]
  congr 1
  simp only [List.map_cons, List.map_nil, List.flatten_cons, List.flatten_nil, List.append_nil]
theorem codesTo_all (d : Nat) (ks : List Tree) (i : Nat) (h : ks.length ≤ i) : codesTo d ks i = (ks.map (codeU d)).flatten := by unfold codesTo; rw [List.take_of_length_le h]
theorem codesTo_le (d : Nat) (ks : List Tree) (i : Nat) : (codesTo d ks i).length ≤ ((ks.map (codeU d)).flatten).length := by
  have e : (ks.map (codeU d)).flatten = codesTo d ks i ++ ((ks.drop i).map (codeU d)).flatten := by
    unfold codesTo
    rw [← List.flatten_append, ← List.map_append, List.take_append_drop]
  rw [e, List.length_append]; omega
end Go.Proofs.YtenmjjpkbcogbaaDoor

/- RlpE -/
namespace Go.Proofs.YtenmjjpkbcogbaaDoor
open Go.RowKit

/-- what codeOf of items of d levels does -/
def CodeOfSaid (d : Nat) : Prop := ∀ (w : World) (S : Nat → Prop) (v0 v1 v2 : Value) (x : Tree), ItemIs d w S [v0, v1, v2] x →
  Calls Tryd.prog 36 #[.agg #[v0, v1, v2]] w fun e w' => e = .returned (.tuple #[.string (outC (codeU d x)), .bool (fitsC (codeU d x))]) ∧ Below w.heap.size w w'
/-- what listCode of such does -/
def ListCodeSaid (d : Nat) : Prop := ∀ (w : World) (S : Nat → Prop) (k : Value) (ks : List Tree) (xs : List Value), RowIs w S k ks.length xs → ks.length < 140737488355329 → (∀ i, i < ks.length → ItemIs d w S ((xs.drop (3 * i)).take 3) (ks.getD i (textT []))) →
  Calls Tryd.prog 46 #[k] w fun e w' => e = .returned (.tuple #[.string (outC (listC (ks.map (codeU d)).flatten)), .bool (fitsC (listC (ks.map (codeU d)).flatten))]) ∧ Below w.heap.size w w'

set_option maxHeartbeats 400000 in
theorem codeOf_text (w : World) (t : ByteArray) (k : Value) (ht : t.size < 140737488355329) :
    Calls Tryd.prog 36 #[.agg #[.bool false, .string t, k]] w fun e w' => e = .returned (.tuple #[.string (outC (textC t.data.toList)), .bool (fitsC (textC t.data.toList))]) ∧ Below w.heap.size w w' := by
  have hl : t.data.toList.length = t.size := by simp
  cases hb : bareB t.data.toList with
  | true =>
    have e : textC t.data.toList = t.data.toList := by unfold textC; rw [if_pos hb]
    have hf : fitsC t.data.toList = true := by
      unfold bareB at hb; simp at hb; unfold fitsC; rw [hl]; exact decide_eq_true (by omega)
    rw [e, outC_data _ hf, str_data, hf]
    have HB : Hid (bareB t.data.toList = true) := hb
    clear hb e hf hl
    go_enter Tryd.func36, Tryd.ntmps36
    go_wp2_with fail
    refine (bare_calls t _).mono ?_
    rw [HB.out]
    rintro e w1 ⟨rfl, hw1⟩
    subst hw1
    go_wp2_with fail
    go_ret2
    exact ⟨rfl, (Below.refl _ _).alloc (Nat.le_refl _) _⟩
  | false =>
    have e : textC t.data.toList = headU (kindN false) t.size ++ t.data.toList := by unfold textC; rw [if_neg (by rw [hb]; decide), hl]; rfl
    have hf := fits_headed false t.data.toList
    rw [hl, ← e] at hf
    have HB : Hid (bareB t.data.toList = false) := hb
    have ho : (if fitsB 128 t.data.toList then str (headU 128 t.size ++ t.data.toList) else ByteArray.empty) = outC (textC t.data.toList) := by
      unfold outC; rw [← hf, e]; rfl
    have HO : Hid ((if fitsB 128 t.data.toList then str (headU 128 t.size ++ t.data.toList) else ByteArray.empty) = outC (textC t.data.toList)) := ho
    have HFF : Hid (fitsB 128 t.data.toList = fitsC (textC t.data.toList)) := hf
    clear hb e hf hl ho
    go_enter Tryd.func36, Tryd.ntmps36
    go_wp2_with fail
    refine (bare_calls t _).mono ?_
    rw [HB.out]
    rintro e w1 ⟨rfl, hw1⟩
    subst hw1
    go_wp2_with fail
    refine (headed_calls 128 t (by omega) ht _).mono ?_
    rw [HO.out, HFF.out]
    rintro e w2 ⟨rfl, B2⟩
    have HB2 : Hid (Below w.heap.size w w2) := ((Below.refl _ _).alloc (Nat.le_refl _) _).trans (B2.mono (by simp))
    clear B2
    go_wp2_with fail
    go_ret2
    exact ⟨rfl, HB2.out⟩

set_option maxHeartbeats 400000 in
theorem codeOf_of (d : Nat) (ih : ListCodeSaid d) : CodeOfSaid (d + 1) := by
  intro w S v0 v1 v2 x hx
  rcases hx with ⟨t, k, hcs, rfl, ht⟩ | ⟨t, k, ks, xs, hcs, rfl, hr, hb, hk⟩
  · simp only [List.cons.injEq, and_true] at hcs
    obtain ⟨rfl, rfl, rfl⟩ := hcs
    rw [codeU_text]
    exact codeOf_text w t _ ht
  · simp only [List.cons.injEq, and_true] at hcs
    obtain ⟨rfl, rfl, rfl⟩ := hcs
    rw [codeU_list]
    have HI := fun (w : World) (h : Below w.heap.size w w) => ih w
    clear HI
    go_enter Tryd.func36, Tryd.ntmps36
    go_wp2_with fail
    have hbel : Below w.heap.size w (w.alloc (.cells #[.bool true, .string t, v2] 47)) := (Below.refl _ _).alloc (Nat.le_refl _) _
    refine (ih _ S v2 ks xs (hr.below hbel) hb (fun i hi => (hk i hi).below hbel)).mono ?_
    rintro e w1 ⟨rfl, B1⟩
    have HB1 : Hid (Below w.heap.size w w1) := hbel.trans (B1.mono (by simp))
    clear B1 hbel hr hk
    go_wp2_with fail
    go_ret2
    exact ⟨rfl, HB1.out⟩
theorem codeOf_zero : CodeOfSaid 0 := by
  intro w S v0 v1 v2 x ⟨t, k, hcs, hx, ht⟩
  subst hx
  simp only [List.cons.injEq, and_true] at hcs
  obtain ⟨rfl, rfl, rfl⟩ := hcs
  rw [codeU_text]
  exact codeOf_text w t _ ht
theorem strCells_str (l : List UInt8) : Lib.strCells (str l) = u8c l := by
  unfold Lib.strCells u8c
  simp [str_list]
theorem own_slice {w : World} {base e : Nat} {v : Value} {n : Nat} {xs : List Value} (h : w.ownsRow base e 1 v n xs) : ∃ a cap, v = .slice a n cap ∧ (a = none → n = 0) := by
  rcases h.2 with ⟨rfl, rfl⟩ | ⟨g, cap, cur, rfl, _⟩
  · exact ⟨none, 0, rfl, fun _ => rfl⟩
  · exact ⟨_, cap, rfl, fun h => by cases h⟩
theorem conv_own {w : World} {base : Nat} {v : Value} {n : Nat} {l : List UInt8} (h : w.ownsRow base 5 1 v n (u8c l)) : (convert 54 9 v).run Tryd.prog w = .ok (.string (str l)) w := by
  have hn : l.length = n := by have := h.1; simpa [u8c] using this
  rcases h.2 with ⟨rfl, h0⟩ | ⟨g, cap, cur, rfl, hrest⟩
  · have : l = [] := List.length_eq_zero_iff.1 (by omega)
    subst this
    exact run_convert_bytes_nil (P := Tryd.prog) w 54 5 Tryd.underlying54 Tryd.underlying5 0 0 9 Tryd.underlying9
  · rw [← strOfNums_bytes]
    exact run_convert_bytes_arg (P := Tryd.prog) w 54 5 Tryd.underlying54 Tryd.underlying5 g 0 n cap (l.map (fun c => (c.toNat : Int))) (by rw [List.length_map, hn]) (fun i hi => by
      have := h.cellAt i (by rw [Nat.mul_one]; exact hi)
      rw [Nat.zero_add, this]
      have hlen : i < l.length := by omega
      simp [u8c, List.getD, List.getElem?_eq_getElem hlen]) 9 Tryd.underlying9
theorem own_below {w w1 : World} {base e size : Nat} {v : Value} {n : Nat} {xs : List Value} (h : w.ownsRow base e size v n xs) (b : Below w.heap.size w w1) : w1.ownsRow base e size v n xs := by
  refine ⟨h.1, ?_⟩
  rcases h.2 with h0 | ⟨g, cap, cur, hv, hg, hh, hr⟩
  · exact .inl h0
  · refine .inr ⟨g, cap, cur, hv, hg, ?_, hr⟩
    have hlt : g < w.heap.size := by
      rcases Nat.lt_or_ge g w.heap.size with h | h
      · exact h
      · rw [Array.getElem?_eq_none h] at hh; cases hh
    rw [b.block g hlt]; exact hh
theorem own_nil (w : World) (base : Nat) : w.ownsRow base 5 1 (.slice none 0 0) 0 (u8c []) := ⟨rfl, .inl ⟨rfl, rfl⟩⟩

set_option maxRecDepth 100000 in
set_option maxHeartbeats 1000000 in
theorem listCode_of (d : Nat) (ih : CodeOfSaid d) : ListCodeSaid d := by
  intro w S k ks xs hr hb hk
  obtain ⟨i0, hi0, hz0, hz1, hz2⟩ := info_parts info5
  obtain ⟨ka, kc, hkv⟩ : ∃ ka kc, k = .slice ka ks.length kc := by
    rcases hr.lie with ⟨h0, a, c, rfl⟩ | ⟨b, o, c, rfl, _⟩
    · exact ⟨a, c, by rw [h0]⟩
    · exact ⟨_, c, rfl⟩
  subst hkv
  have HR : Hid (RowIs w S (.slice ka ks.length kc) ks.length xs) := hr
  have HK : Hid (∀ i, i < ks.length → ItemIs d w S ((xs.drop (3 * i)).take 3) (ks.getD i (textT []))) := hk
  have HI : Hid (CodeOfSaid d) := ih
  obtain ⟨n, hn⟩ : ∃ n, n = ks.length := ⟨_, rfl⟩
  have HN : Hid (n = ks.length) := hn
  obtain ⟨T, hT⟩ : ∃ T, T = listC (ks.map (codeU d)).flatten := ⟨_, rfl⟩
  have HT : Hid (T = listC (ks.map (codeU d)).flatten) := hT
  rw [← hn, ← hT]
  rw [← hn] at hb
  clear hr hk ih hn hT
  go_enter Tryd.func46, Tryd.ntmps46
  go_wp2_with fail
  go_loopg [4, 5] n (fun g v r wr => ∃ (i : Nat) (m : Nat) (a : Option Addr) (cap : Nat), g = n - i ∧ i ≤ n ∧ r = .int .i64 i ∧ v = .slice a m cap ∧ m ≤ 4096 ∧ wr.ownsRow w.heap.size 5 1 (.slice a m cap) m (u8c (codesTo d ks i)) ∧ Below w.heap.size w wr)
  case atStart => exact ⟨0, 0, none, 0, rfl, by omega, rfl, rfl, by omega, own_nil _ _, Below.refl _ _⟩
  case round =>
    obtain ⟨i, m, a, cap, hg, hi, rfl, rfl, hm, hown, hbel⟩ := hrel
    have HG : Hid (gk = n - i) := hg
    have HO : Hid (wr.ownsRow w.heap.size 5 1 (.slice a m cap) m (u8c (codesTo d ks i))) := hown
    have HB : Hid (Below w.heap.size w wr) := hbel
    have hM : (codesTo d ks i).length = m := by have := hown.1; simpa [u8c] using this
    have HM : Hid ((codesTo d ks i).length = m) := hM
    clear hM
    clear hg hown hbel
    by_cases hlt : i < n
    · have hlt' := hlt
      rw [HN.out] at hlt'
      have hrow := HR.out.below HB.out
      rcases hrow.lie with ⟨h0, _⟩ | ⟨b, o, c, hkv, hSb, hcell⟩
      · omega
      have hka : ka = some ⟨b, o, none⟩ := by cases hkv; rfl
      subst hka
      have hx3 : 3 * i + 2 < xs.length := by rw [hrow.len]; omega
      have g0 : wr.cell? ⟨b, o + i * 3, none⟩ = some (xs[3 * i]'(by omega)) := by rw [← List.getElem?_eq_getElem, ← hcell (3 * i) (by omega), Nat.mul_comm]
      have g1 : wr.cell? ⟨b, o + i * 3 + 1, none⟩ = some (xs[3 * i + 1]'(by omega)) := by rw [← List.getElem?_eq_getElem, ← hcell (3 * i + 1) (by omega), Nat.mul_comm, Nat.add_assoc]
      have g2 : wr.cell? ⟨b, o + i * 3 + 2, none⟩ = some (xs[3 * i + 2]'(by omega)) := by rw [← List.getElem?_eq_getElem, ← hcell (3 * i + 2) (by omega), Nat.mul_comm, Nat.add_assoc]
      have hit := (HK.out i hlt').below HB.out
      have e3 : (xs.drop (3 * i)).take 3 = [xs[3 * i]'(by omega), xs[3 * i + 1]'(by omega), xs[3 * i + 2]'(by omega)] := by
        apply List.ext_getElem?
        intro j
        rw [List.getElem?_take]
        split
        · rw [List.getElem?_drop]
          match j with
          | 0 => simp [List.getElem?_eq_getElem (show 3 * i < xs.length by omega)]
          | 1 => simp [List.getElem?_eq_getElem (show 3 * i + 1 < xs.length by omega)]
          | 2 => simp [List.getElem?_eq_getElem (show 3 * i + 2 < xs.length by omega)]
          | j + 3 => omega
        · rw [List.getElem?_eq_none (by simp; omega)]
      rw [e3] at hit
      generalize xs[3 * i]'(by omega) = v0 at *
      generalize xs[3 * i + 1]'(by omega) = v1 at *
      generalize xs[3 * i + 2]'(by omega) = v2 at *
      have HIT : Hid (ItemIs d wr S [v0, v1, v2] (ks.getD i (textT []))) := hit
      clear hit e3 hx3 hcell hrow hlt' hkv
      have hlong : 4096 < (codesTo d ks (i + 1)).length → fitsC T = false ∧ outC T = ByteArray.empty := by
        intro h
        have h1 := codesTo_le d ks (i + 1)
        have h2 : fitsC T = false := by
          unfold fitsC; rw [HT.out]; unfold listC; rw [List.length_append]; exact decide_eq_false (by omega)
        exact ⟨h2, by unfold outC; rw [h2]; rfl⟩
      have HLO : Hid (4096 < (codesTo d ks (i + 1)).length → fitsC T = false ∧ outC T = ByteArray.empty) := hlong
      have HSU : Hid (codesTo d ks (i + 1) = codesTo d ks i ++ codeU d (ks.getD i (textT []))) := codesTo_succ d ks i (by rw [← HN.out]; exact hlt)
      clear hlong
      generalize hc : codeU d (ks.getD i (textT [])) = c at *
      go_wp2_with fail
      refine (HI.out _ S v0 v1 v2 _ HIT.out).mono ?_
      rw [hc]
      rintro e w1 ⟨rfl, B1⟩
      have HB1 : Hid (Below w.heap.size w w1) := HB.out.trans (B1.mono HB.out.size)
      have HO1 : Hid (w1.ownsRow w.heap.size 5 1 (.slice a m cap) m (u8c (codesTo d ks i))) := own_below HO.out B1
      clear B1 hc g0 g1 g2 HIT
      cases hf : fitsC c with
      | false =>
        have hl : 4096 < c.length := by unfold fitsC at hf; simpa using hf
        obtain ⟨q1, q2⟩ := HLO.out (by rw [HSU.out, List.length_append]; omega)
        have HQ1 : Hid (fitsC T = false) := q1
        have HQ2 : Hid (outC T = ByteArray.empty) := q2
        clear q1 q2 hf
        go_wp2_with fail
        go_ret2
        exact ⟨by rw [HQ1.out, HQ2.out]; rfl, HB1.out⟩
      | true =>
        have hl : c.length ≤ 4096 := by unfold fitsC at hf; simpa using hf
        have HOC : Hid (outC c = str c) := outC_data c hf
        rw [HOC.out]
        clear hf
        have hsz : (str c).size = c.length := str_size c
        go_upto_region 8 with fail
        go_wp2_with (at_builtin; refine Lib.wpList_append_own_string _ rfl (.tmp 24) (.tmp 25) 54 9 rfl w.heap.size 5 i0 Tryd.underlying54 Tryd.underlying9 hi0 hz0 hz1 hz2 (.slice a m cap) m (u8c (codesTo d ks i)) rfl HO1.out (str c) rfl ?d1 ?d2 ?d3 ?d4)
        case d1 => rw [hsz]; unfold maxLen; omega
        case d2 => rw [hsz]; omega
        case d3 => exact HB1.out.size
        intro v2' w2 hown2 hgrow2 _
        rw [strCells_str] at hown2
        have hown2' : w2.ownsRow w.heap.size 5 1 v2' (m + c.length) (u8c (codesTo d ks (i + 1))) := by
          have e : u8c (codesTo d ks (i + 1)) = u8c (codesTo d ks i) ++ u8c c := by rw [HSU.out]; simp [u8c]
          rw [e]; exact hown2
        obtain ⟨a2, cap2, rfl, _⟩ := own_slice hown2'
        have HO2 : Hid (w2.ownsRow w.heap.size 5 1 (.slice a2 (m + c.length) cap2) (m + c.length) (u8c (codesTo d ks (i + 1)))) := hown2'
        have HB2 : Hid (Below w.heap.size w w2) := HB1.out.grown hgrow2 HB1.out.size (fun k hk => (HO1.out.lt k hk).1)
        have HML : Hid ((codesTo d ks (i + 1)).length = m + c.length) := by
          rw [HSU.out, List.length_append, HM.out]; rfl
        clear hown2 hown2' hgrow2
        obtain ⟨M, hM⟩ : ∃ M, M = m + c.length := ⟨_, rfl⟩
        rw [← hM]
        have HMM : Hid (M = m + c.length) := hM
        clear hM
        by_cases hlong : 4096 < M
        · have hl' : decide ((4096 : Int) < (M : Int)) = true := by simp; omega
          obtain ⟨q1, q2⟩ := HLO.out (by rw [HML.out, ← HMM.out]; exact hlong)
          have HQ1 : Hid (fitsC T = false) := q1
          have HQ2 : Hid (outC T = ByteArray.empty) := q2
          clear q1 q2
          go_wp2_with fail
          go_ret2
          exact ⟨by rw [HQ1.out, HQ2.out]; rfl, HB2.out⟩
        · have hl' : decide ((4096 : Int) < (M : Int)) = false := by simp; omega
          go_wp2_with fail
          go_roundg (n - (i + 1))
          case measure => have := HG.out; omega
          case rel => exact ⟨i + 1, M, a2, cap2, rfl, by omega, by go_num, rfl, by omega, by rw [HMM.out]; exact HO2.out, HB2.out⟩
    · have hfin : codesTo d ks i = (ks.map (codeU d)).flatten := codesTo_all d ks i (by rw [← HN.out]; omega)
      have hconv := conv_own HO.out
      rw [hfin] at hconv
      have hml := HM.out
      rw [hfin] at hml
      generalize hF : (ks.map (codeU d)).flatten = F at *
      have hsz : (str F).size = F.length := str_size F
      have hf := fits_headed true F
      have ho : (if fitsB 192 (str F).data.toList then str (headU 192 (str F).size ++ (str F).data.toList) else ByteArray.empty) = outC T := by
        rw [str_list, hsz, HT.out]; unfold outC listC; rw [← (show kindN true = 192 from rfl), ← hf]
      have HOO : Hid ((if fitsB 192 (str F).data.toList then str (headU 192 (str F).size ++ (str F).data.toList) else ByteArray.empty) = outC T) := ho
      have HFF : Hid (fitsB 192 (str F).data.toList = fitsC T) := by rw [str_list, HT.out]; unfold listC; exact hf
      have HSZ : Hid ((str F).size < 140737488355329) := by rw [hsz, hml]; exact (show m < 140737488355329 by omega)
      clear hfin hF hf ho hml hsz
      have hlt' : ¬ ((i : Int) < (n : Int)) := by omega
      go_wp2_with fail
      refine (headed_calls 192 (str F) (by omega) HSZ.out _).mono ?_
      rw [HOO.out, HFF.out]
      rintro e w2 ⟨rfl, B2⟩
      have HB2 : Hid (Below w.heap.size w w2) := HB.out.trans (B2.mono HB.out.size)
      clear B2
      go_wp2_with fail
      go_ret2
      exact ⟨rfl, HB2.out⟩

theorem code_all : ∀ d, CodeOfSaid d ∧ ListCodeSaid d
  | 0 => ⟨codeOf_zero, listCode_of 0 codeOf_zero⟩
  | d + 1 => ⟨codeOf_of d (code_all d).2, listCode_of (d + 1) (codeOf_of d (code_all d).2)⟩
end Go.Proofs.YtenmjjpkbcogbaaDoor

/- RlpW -/
namespace Go.Proofs.YtenmjjpkbcogbaaDoor
open Go.RowKit

def WithinSaid (d : Nat) : Prop := ∀ (w : World) (S : Nat → Prop) (k : Value) (ks : List Tree) (xs : List Value) (l : Nat), 1 ≤ l → l ≤ 7 → RowIs w S k ks.length xs → ks.length < 140737488355329 → (∀ i, i < ks.length → ItemIs d w S ((xs.drop (3 * i)).take 3) (ks.getD i (textT []))) →
  Calls Tryd.prog 35 #[k, .int .i64 l] w fun e w' => e = .returned (.bool (flatU (7 - l) (listT ks))) ∧ w' = w

theorem flat_list (L : Nat) (ks : List Tree) : flatU (L + 1) (listT ks) = (decide (ks.length ≤ 64) && ks.all (flatU L)) := by
  unfold listT; simp only [flatU]
theorem flat_text (L : Nat) (t : List UInt8) : flatU L (textT t) = true := by unfold textT; simp only [flatU]
theorem flat_zero (ks : List Tree) : flatU 0 (listT ks) = false := by unfold listT; simp only [flatU]

/-- the three cells of item i -/
theorem three {xs : List Value} {i : Nat} (h : 3 * i + 2 < xs.length) : (xs.drop (3 * i)).take 3 = [xs[3 * i]'(by omega), xs[3 * i + 1]'(by omega), xs[3 * i + 2]'(by omega)] := by
  apply List.ext_getElem?
  intro j
  rw [List.getElem?_take]
  split
  · rw [List.getElem?_drop]
    match j with
    | 0 => simp [List.getElem?_eq_getElem (show 3 * i < xs.length by omega)]
    | 1 => simp [List.getElem?_eq_getElem (show 3 * i + 1 < xs.length by omega)]
    | 2 => simp [List.getElem?_eq_getElem (show 3 * i + 2 < xs.length by omega)]
    | j + 3 => omega
  · rw [List.getElem?_eq_none (by simp; omega)]

/-- an item of the row: its cells, and what it is -/
theorem row_item {w : World} {S : Nat → Prop} {d : Nat} {ka : Option Addr} {n kc : Nat} {ks : List Tree} {xs : List Value} (hr : RowIs w S (.slice ka n kc) ks.length xs) (hn : n = ks.length)
    (hk : ∀ i, i < ks.length → ItemIs d w S ((xs.drop (3 * i)).take 3) (ks.getD i (textT []))) (i : Nat) (hi : i < n) :
    ∃ b o v0 v1 v2, ka = some ⟨b, o, none⟩ ∧ w.cell? ⟨b, o + i * 3, none⟩ = some v0 ∧ w.cell? ⟨b, o + i * 3 + 1, none⟩ = some v1 ∧ w.cell? ⟨b, o + i * 3 + 2, none⟩ = some v2 ∧ ItemIs d w S [v0, v1, v2] (ks.getD i (textT [])) := by
  have hi' := hi
  rw [hn] at hi'
  rcases hr.lie with ⟨h0, _⟩ | ⟨b, o, c, hkv, hSb, hcell⟩
  · omega
  have hx3 : 3 * i + 2 < xs.length := by rw [hr.len]; omega
  have hit := hk i hi'
  rw [three hx3] at hit
  refine ⟨b, o, _, _, _, ?_, ?_, ?_, ?_, hit⟩
  · cases hkv; rfl
  · rw [← List.getElem?_eq_getElem, ← hcell (3 * i) (by omega), Nat.mul_comm]
  · rw [← List.getElem?_eq_getElem, ← hcell (3 * i + 1) (by omega), Nat.mul_comm, Nat.add_assoc]
  · rw [← List.getElem?_eq_getElem, ← hcell (3 * i + 2) (by omega), Nat.mul_comm, Nat.add_assoc]

theorem item_inv {d : Nat} {w : World} {S : Nat → Prop} {v0 v1 v2 : Value} {x : Tree} (h : ItemIs d w S [v0, v1, v2] x) :
    (∃ t, v0 = .bool false ∧ v1 = .string t ∧ x = textT t.data.toList ∧ t.size < 140737488355329) ∨
    (∃ e t ks xs, d = e + 1 ∧ v0 = .bool true ∧ v1 = .string t ∧ x = listT ks ∧ RowIs w S v2 ks.length xs ∧ ks.length < 140737488355329 ∧ ∀ i, i < ks.length → ItemIs e w S ((xs.drop (3 * i)).take 3) (ks.getD i (textT []))) := by
  cases d with
  | zero =>
    obtain ⟨t, k, hcs, hx, ht⟩ := h
    simp only [List.cons.injEq, and_true] at hcs
    exact .inl ⟨t, hcs.1, hcs.2.1, hx, ht⟩
  | succ d =>
    rcases h with ⟨t, k, hcs, hx, ht⟩ | ⟨t, k, ks, xs, hcs, hx, hr, hb, hk⟩
    · simp only [List.cons.injEq, and_true] at hcs
      exact .inl ⟨t, hcs.1, hcs.2.1, hx, ht⟩
    · simp only [List.cons.injEq, and_true] at hcs
      obtain ⟨h1, h2, h3⟩ := hcs
      subst h3
      exact .inr ⟨d, t, ks, xs, rfl, h1, h2, hx, hr, hb, hk⟩

set_option maxRecDepth 100000 in
set_option maxHeartbeats 1000000 in
theorem within_of (d : Nat) (ih : ∀ e, d = e + 1 → WithinSaid e) : WithinSaid d := by
  intro w S k ks xs l h1 h7 hr hb hk
  obtain ⟨ka, kc, hkv⟩ : ∃ ka kc, k = .slice ka ks.length kc := by
    rcases hr.lie with ⟨h0, a, c, rfl⟩ | ⟨b, o, c, rfl, _⟩
    · exact ⟨a, c, by rw [h0]⟩
    · exact ⟨_, c, rfl⟩
  subst hkv
  have HK : Hid (∀ i, i < ks.length → ItemIs d w S ((xs.drop (3 * i)).take 3) (ks.getD i (textT []))) := hk
  have HI : Hid (∀ e, d = e + 1 → WithinSaid e) := ih
  obtain ⟨n, hn⟩ : ∃ n, n = ks.length := ⟨_, rfl⟩
  have HN : Hid (n = ks.length) := hn
  have HR : Hid (RowIs w S (.slice ka n kc) ks.length xs) := by rw [hn]; exact hr
  obtain ⟨R, hR⟩ : ∃ R, R = flatU (7 - l) (listT ks) := ⟨_, rfl⟩
  have HRR : Hid (R = flatU (7 - l) (listT ks)) := hR
  rw [← hn, ← hR]
  rw [← hn] at hb
  clear hr hk ih hn hR
  by_cases hl6 : 6 < l
  · have hl' : decide ((6 : Int) < (l : Int)) = true := by simp; omega
    have hf : R = false := by rw [HRR.out, show 7 - l = 0 by omega, flat_zero]
    have HF : Hid (R = false) := hf
    clear hf
    go_enter Tryd.func35, Tryd.ntmps35
    go_wp2_with fail
    go_ret
    exact ⟨by rw [HF.out]; rfl, rfl⟩
  · have hl' : decide ((6 : Int) < (l : Int)) = false := by simp; omega
    have e7 : 7 - l = (6 - l) + 1 := by omega
    by_cases h64 : 64 < n
    · have hl2 : decide ((64 : Int) < (n : Int)) = true := by simp; omega
      have hf : R = false := by rw [HRR.out, e7, flat_list, decide_eq_false (by rw [← HN.out]; omega)]; rfl
      have HF : Hid (R = false) := hf
      clear hf
      go_enter Tryd.func35, Tryd.ntmps35
      go_wp2_with fail
      go_ret
      exact ⟨by rw [HF.out]; rfl, rfl⟩
    · have hl2 : decide ((64 : Int) < (n : Int)) = false := by simp; omega
      have hall : R = ks.all (flatU (6 - l)) := by rw [HRR.out, e7, flat_list, decide_eq_true (by rw [← HN.out]; omega)]; rfl
      have HA : Hid (R = ks.all (flatU (6 - l))) := hall
      clear hall e7
      go_enter Tryd.func35, Tryd.ntmps35
      go_wp2_with fail
      go_loopg [5] n (fun g r wr => wr = w ∧ ∃ i : Nat, g = n - i ∧ i ≤ n ∧ r = .int .i64 i ∧ Hid (∀ j, j < i → flatU (6 - l) (ks.getD j (textT [])) = true))
      case atStart => exact ⟨rfl, 0, rfl, by omega, rfl, fun j h => by omega⟩
      case round =>
        obtain ⟨hw, i, hg, hi, rfl, hd⟩ := hrel
        subst hw
        have HG : Hid (gk = n - i) := hg
        clear hg
        by_cases hlt : i < n
        · obtain ⟨b, o, v0, v1, v2, hka, g0, g1, g2, hit⟩ := row_item HR.out HN.out HK.out i hlt
          subst hka
          have hmem : ks.getD i (textT []) ∈ ks := by
            have hi' := hlt
            rw [HN.out] at hi'
            have e : ks.getD i (textT []) = ks[i] := by simp [List.getD, List.getElem?_eq_getElem hi']
            rw [e]; exact List.getElem_mem hi'
          have HMM : Hid (ks.getD i (textT []) ∈ ks) := hmem
          clear hmem
          rcases item_inv hit with ⟨t, rfl, rfl, hx, ht⟩ | ⟨e, t, ks2, xs2, hde, rfl, rfl, hx, hr2, hb2, hk2⟩
          · have HX : Hid (ks.getD i (textT []) = textT t.data.toList) := hx
            clear hx hit
            go_wp2_with fail
            go_roundg (n - (i + 1))
            case measure => have := HG.out; omega
            case rel => exact ⟨rfl, i + 1, rfl, by omega, by go_num, fun j hj => by
                by_cases e : j = i
                · subst e; rw [HX.out]; exact flat_text _ _
                · exact hd.out j (by omega)⟩
          · have HX : Hid (ks.getD i (textT []) = listT ks2) := hx
            have hcall := HI.out e hde wr S v2 ks2 xs2 (l + 1) (by omega) (by omega) hr2 hb2 hk2
            have ecast : ((l + 1 : Nat) : Int) = (l : Int) + 1 := by omega
            rw [ecast] at hcall
            have HC : Hid (Calls Tryd.prog 35 #[v2, .int .i64 ((l : Int) + 1)] wr fun e w' => e = .returned (.bool (flatU (7 - (l + 1)) (listT ks2))) ∧ w' = wr) := hcall
            clear hx hit hcall hr2 hk2 hde
            go_wp2_with fail
            refine HC.out.mono ?_
            have e6 : 7 - (l + 1) = 6 - l := by omega
            rw [e6]
            cases hfl : flatU (6 - l) (listT ks2) with
            | true =>
              have HFL : Hid (flatU (6 - l) (listT ks2) = true) := hfl
              clear hfl HC ecast e6
              rintro e w' ⟨rfl, hw'⟩
              subst hw'
              go_wp2_with fail
              go_roundg (n - (i + 1))
              case measure => have := HG.out; omega
              case rel => exact ⟨rfl, i + 1, rfl, by omega, by go_num, fun j hj => by
                  by_cases e : j = i
                  · subst e; rw [HX.out]; exact HFL.out
                  · exact hd.out j (by omega)⟩
            | false =>
              have hf : R = false := by
                rw [HA.out]
                cases hq : ks.all (flatU (6 - l)) with
                | false => rfl
                | true => have := List.all_eq_true.1 hq _ HMM.out; rw [HX.out, hfl] at this; cases this
              have HF : Hid (R = false) := hf
              clear hfl HC ecast e6 hf
              rintro e w' ⟨rfl, hw'⟩
              subst hw'
              go_wp2_with fail
              go_ret
              exact ⟨by rw [HF.out]; rfl, rfl⟩
        · have ht : R = true := by
            rw [HA.out]
            refine List.all_eq_true.2 fun x hx => ?_
            obtain ⟨j, hj, rfl⟩ := List.getElem_of_mem hx
            have := hd.out j (by have := HN.out; omega)
            have e : ks.getD j (textT []) = ks[j] := by simp [List.getD, List.getElem?_eq_getElem hj]
            rw [e] at this; exact this
          have HT : Hid (R = true) := ht
          clear ht
          go_wp2_with fail
          go_ret
          exact ⟨by rw [HT.out]; rfl, rfl⟩

theorem within_all : ∀ d, WithinSaid d
  | 0 => within_of 0 (fun e h => by omega)
  | d + 1 => within_of (d + 1) (fun e h => by
      have : e = d := by omega
      subst this
      exact within_all e)
end Go.Proofs.YtenmjjpkbcogbaaDoor

/- RlpN -/
namespace Go.Proofs.YtenmjjpkbcogbaaDoor
open Go.RowKit

def encErr (x : Tree) : Int := if flatU 6 x = true then (if fitsC (codeU 6 x) = true then 0 else 1) else 8
def encOut (x : Tree) : ByteArray := if flatU 6 x = true then outC (codeU 6 x) else ByteArray.empty

set_option maxRecDepth 100000 in
set_option maxHeartbeats 1000000 in
theorem encode_calls (w : World) (S : Nat → Prop) (v0 v1 v2 : Value) (x : Tree) (hx : ItemIs 6 w S [v0, v1, v2] x) :
    Calls Tryd.prog 26 #[.agg #[v0, v1, v2]] w fun e w' => e = .returned (.tuple #[.string (encOut x), .int .i64 (encErr x)]) ∧ Below w.heap.size w w' := by
  have hbel : Below w.heap.size w (w.alloc (.cells #[v0, v1, v2] 47)) := (Below.refl _ _).alloc (Nat.le_refl _) _
  have HX : Hid (ItemIs 6 (w.alloc (.cells #[v0, v1, v2] 47)) S [v0, v1, v2] x) := hx.below hbel
  have HB : Hid (Below w.heap.size w (w.alloc (.cells #[v0, v1, v2] 47))) := hbel
  rcases item_inv hx with ⟨t, rfl, rfl, rfl, ht⟩ | ⟨e, t, ks, xs, he, rfl, rfl, rfl, hr, hb, hk⟩
  · have hfl := flat_text 6 t.data.toList
    have ho : encOut (textT t.data.toList) = outC (codeU 6 (textT t.data.toList)) := by unfold encOut; rw [if_pos hfl]
    have he : encErr (textT t.data.toList) = (if fitsC (codeU 6 (textT t.data.toList)) = true then 0 else 1) := by unfold encErr; rw [if_pos hfl]
    have HEO : Hid (encOut (textT t.data.toList) = outC (codeU 6 (textT t.data.toList))) := ho
    have HEE : Hid (encErr (textT t.data.toList) = (if fitsC (codeU 6 (textT t.data.toList)) = true then 0 else 1)) := he
    clear hx hbel ho he hfl
    go_enter Tryd.func26, Tryd.ntmps26
    go_wp2_with fail
    refine ((code_all 6).1 _ S _ _ _ _ HX.out).mono ?_
    rintro e w1 ⟨rfl, B1⟩
    have HB1 : Hid (Below w.heap.size w w1) := HB.out.trans (B1.mono HB.out.size)
    clear B1
    generalize codeU 6 (textT t.data.toList) = c at *
    cases hf : fitsC c with
    | true =>
      have HF : Hid (fitsC c = true) := hf
      clear hf
      go_wp2_with fail
      go_ret2
      exact ⟨by rw [HEO.out, HEE.out, HF.out]; rfl, HB1.out⟩
    | false =>
      have HF : Hid (fitsC c = false) := hf
      have HO : Hid (outC c = ByteArray.empty) := by unfold outC; rw [hf]; rfl
      clear hf
      go_wp2_with fail
      go_ret2
      exact ⟨by rw [HEO.out, HEE.out, HF.out, HO.out]; rfl, HB1.out⟩
  · obtain rfl : e = 5 := by omega
    have hw := within_all 5 _ S v2 ks xs 1 (by omega) (by omega) (hr.below hbel) hb (fun i hi => (hk i hi).below hbel)
    have HW : Hid (Calls Tryd.prog 35 #[v2, .int .i64 1] (w.alloc (.cells #[.bool true, .string t, v2] 47)) fun e w' => e = .returned (.bool (flatU 6 (listT ks))) ∧ w' = w.alloc (.cells #[.bool true, .string t, v2] 47)) := hw
    cases hfl : flatU 6 (listT ks) with
    | false =>
      have ho : encOut (listT ks) = ByteArray.empty := by unfold encOut; rw [hfl]; rfl
      have he : encErr (listT ks) = 8 := by unfold encErr; rw [hfl]; rfl
      rw [ho, he]
      have HFL : Hid (flatU 6 (listT ks) = false) := hfl
      clear hx hbel ho he hfl hr hk hw
      go_enter Tryd.func26, Tryd.ntmps26
      go_wp2_with fail
      refine HW.out.mono ?_
      rw [HFL.out]
      rintro e w1 ⟨rfl, hw1⟩
      subst hw1
      go_wp2_with fail
      go_ret2
      exact ⟨rfl, HB.out⟩
    | true =>
      have ho : encOut (listT ks) = outC (codeU 6 (listT ks)) := by unfold encOut; rw [if_pos hfl]
      have he : encErr (listT ks) = (if fitsC (codeU 6 (listT ks)) = true then 0 else 1) := by unfold encErr; rw [if_pos hfl]
      have HEO : Hid (encOut (listT ks) = outC (codeU 6 (listT ks))) := ho
      have HEE : Hid (encErr (listT ks) = (if fitsC (codeU 6 (listT ks)) = true then 0 else 1)) := he
      have HFL : Hid (flatU 6 (listT ks) = true) := hfl
      clear hx hbel ho he hfl hr hk hw
      go_enter Tryd.func26, Tryd.ntmps26
      go_wp2_with fail
      refine HW.out.mono ?_
      rw [HFL.out]
      rintro e w1 ⟨rfl, hw1⟩
      subst hw1
      go_wp2_with fail
      refine ((code_all 6).1 _ S _ _ _ _ HX.out).mono ?_
      rintro e w1 ⟨rfl, B1⟩
      have HB1 : Hid (Below w.heap.size w w1) := HB.out.trans (B1.mono HB.out.size)
      clear B1
      generalize codeU 6 (listT ks) = c at *
      cases hf : fitsC c with
      | true =>
        have HF : Hid (fitsC c = true) := hf
        clear hf
        go_wp2_with fail
        go_ret2
        exact ⟨by rw [HEO.out, HEE.out, HF.out]; rfl, HB1.out⟩
      | false =>
        have HF : Hid (fitsC c = false) := hf
        have HO : Hid (outC c = ByteArray.empty) := by unfold outC; rw [hf]; rfl
        clear hf
        go_wp2_with fail
        go_ret2
        exact ⟨by rw [HEO.out, HEE.out, HF.out, HO.out]; rfl, HB1.out⟩
end Go.Proofs.YtenmjjpkbcogbaaDoor
