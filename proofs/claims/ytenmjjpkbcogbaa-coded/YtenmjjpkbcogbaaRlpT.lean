/-
  What is decoded is encoded again; what is encoded is decoded again: the plain part.
-/
import Derived.Test.YtenmjjpkbcogbaaRlp
namespace Go.Proofs.Ytenmjjpkbcogbaa
open Go

theorem getD_cons (s : List UInt8) (h : s.length ≠ 0) : s = s.getD 0 0 :: s.drop 1 := by
  cases s with
  | nil => simp at h
  | cons c r => rfl
theorem headU_length_pos (kind n : Nat) : 0 < (headU kind n).length := by unfold headU; split <;> simp

theorem spanR_ok {s : List UInt8} {l l' : Bool} {f n f' n' : Nat} (h : spanR s l f n = .ok (l', f', n')) : l' = l ∧ f' = f ∧ n' = n ∧ ¬ s.length - f < n := by
  unfold spanR at h
  split at h
  · cases h
  · cases h; exact ⟨rfl, rfl, rfl, ‹_›⟩

/-- a head that is read is the content's own -/
theorem headR_ok (s : List UInt8) (l : Bool) (f n : Nat) (h : headR s = .ok (l, f, n)) :
    s.length ≠ 0 ∧ ((l = false ∧ f = 0 ∧ n = 1 ∧ (s.getD 0 0).toNat < 128) ∨ (1 ≤ f ∧ f + n ≤ s.length ∧ s.take f = headU (if l then 192 else 128) n)) := by
  unfold headR at h
  by_cases h0 : s.length = 0
  · rw [if_pos h0] at h; cases h
  rw [if_neg h0] at h
  refine ⟨h0, ?_⟩
  have hc := getD_cons s h0
  have hb := (s.getD 0 0).toNat_lt
  by_cases h1 : (s.getD 0 0).toNat < 128
  · rw [if_pos h1] at h
    cases h
    exact .inl ⟨rfl, rfl, rfl, h1⟩
  rw [if_neg h1] at h
  right
  generalize hbase : (if 192 ≤ (s.getD 0 0).toNat then 192 else 128) = base at h
  have hkind : (if (decide (192 ≤ (s.getD 0 0).toNat)) = true then 192 else 128) = base := by rw [← hbase]; simp
  have hge : base ≤ (s.getD 0 0).toNat := by rw [← hbase]; split <;> omega
  by_cases h2 : (s.getD 0 0).toNat - base ≤ 55
  · rw [if_pos h2] at h
    obtain ⟨rfl, rfl, rfl, h3⟩ := spanR_ok h
    refine ⟨by omega, by omega, ?_⟩
    rw [hkind]
    unfold headU
    rw [if_pos h2, hc]
    show [s.getD 0 0] = _
    congr 1
    apply u8_ext
    rw [UInt8.toNat_ofNat']
    have e : ((s.getD 0 0) :: s.drop 1).getD 0 0 = s.getD 0 0 := rfl
    rw [e]; omega
  rw [if_neg h2] at h
  by_cases h3 : s.length - 1 < (s.getD 0 0).toNat - base - 55
  · rw [if_pos h3] at h; cases h
  rw [if_neg h3] at h
  have hk8 : (s.getD 0 0).toNat - base - 55 ≤ 8 := by rw [← hbase]; split <;> omega
  have hfk : 1 + ((s.getD 0 0).toNat - base) - 55 = 1 + ((s.getD 0 0).toNat - base - 55) := by omega
  rw [hfk] at h
  have hcb : (s.getD 0 0).toNat = base + 55 + ((s.getD 0 0).toNat - base - 55) := by omega
  have hk1 : 1 ≤ (s.getD 0 0).toNat - base - 55 := by omega
  generalize hk : (s.getD 0 0).toNat - base - 55 = k at *
  have hdl : ((s.drop 1).take k).length = k := by rw [List.length_take, List.length_drop]; omega
  by_cases h4 : (s.getD 1 0).toNat = 0 ∨ be ((s.drop 1).take k) ≤ 55
  · rw [if_pos h4] at h; cases h
  rw [if_neg h4] at h
  obtain ⟨rfl, rfl, rfl, h5⟩ := spanR_ok h
  refine ⟨by omega, by omega, ?_⟩
  rw [hkind]
  have hdg : digs 8 (be ((s.drop 1).take k)) = (s.drop 1).take k := digs_be 8 _ (by omega) (fun _ => by
    intro hz
    apply h4
    left
    have e : ((s.drop 1).take k).getD 0 0 = s.getD 1 0 := by
      rw [List.getD_eq_getElem?_getD, List.getElem?_take, if_pos (by omega), List.getElem?_drop, List.getD_eq_getElem?_getD]
    rw [e] at hz; exact hz)
  unfold headU
  rw [if_neg (by omega), hdg, hdl]
  conv => lhs; rw [hc]
  rw [Nat.add_comm 1 k, List.take_succ_cons]
  congr 1
  apply u8_ext
  rw [UInt8.toNat_ofNat']
  omega

theorem takeAll_ok (f : List UInt8 → Except Nat (Tree × Nat)) (code : Tree → List UInt8) (fl : Tree → Bool)
    (hf : ∀ s x u, f s = .ok (x, u) → 0 < u ∧ u ≤ s.length ∧ code x = s.take u ∧ fl x = true) :
    ∀ (m : Nat) (body : List UInt8) (ks : List Tree), takeAll f m body = .ok ks → (ks.map code).flatten = body ∧ ks.all fl = true ∧ ks.length ≤ m
  | 0, body, ks, h => by
    unfold takeAll at h
    by_cases h0 : body.length = 0
    · rw [if_pos h0] at h; cases h
      exact ⟨(List.length_eq_zero_iff.1 h0).symm, rfl, Nat.le_refl _⟩
    · rw [if_neg h0] at h; cases h
  | m + 1, body, ks, h => by
    unfold takeAll at h
    by_cases h0 : body.length = 0
    · rw [if_pos h0] at h; cases h
      exact ⟨(List.length_eq_zero_iff.1 h0).symm, rfl, Nat.zero_le _⟩
    · rw [if_neg h0] at h
      simp only at h
      cases hk : f body with
      | error e => rw [hk] at h; cases h
      | ok ku =>
        obtain ⟨k, u⟩ := ku
        rw [hk] at h
        simp only at h
        cases hr : takeAll f m (body.drop u) with
        | error e => rw [hr] at h; cases h
        | ok ks' =>
          rw [hr] at h
          cases h
          obtain ⟨h1, h2, h3, h4⟩ := hf _ _ _ hk
          obtain ⟨i1, i2, i3⟩ := takeAll_ok f code fl hf m _ _ hr
          refine ⟨?_, ?_, by simp; omega⟩
          · rw [List.map_cons, List.flatten_cons, h3, i1, List.take_append_drop]
          · rw [List.all_cons, h4, i2]; rfl

/-- WHAT IS DECODED IS ENCODED AGAIN -/
theorem takeR_ok : ∀ (d : Nat) (s : List UInt8) (x : Tree) (u : Nat), takeR d s = .ok (x, u) → 0 < u ∧ u ≤ s.length ∧ codeU d x = s.take u ∧ flatU d x = true := by
  intro d
  induction d with
  | zero =>
    intro s x u h
    unfold takeR at h
    cases hh : headR s with
    | error e => rw [hh] at h; cases h
    | ok lfn =>
      obtain ⟨l, f, n⟩ := lfn
      rw [hh] at h
      simp only at h
      obtain ⟨hs0, hcase⟩ := headR_ok s l f n hh
      cases l with
      | true => simp at h
      | false =>
        rw [if_pos rfl] at h
        split at h
        · cases h
        · rename_i hnb
          cases h
          rcases hcase with ⟨_, rfl, rfl, hlt⟩ | ⟨hf1, hfn, hhd⟩
          · refine ⟨by omega, by omega, ?_, rfl⟩
            show textC _ = _
            have hb : bareB ((s.drop 0).take 1) = true := by
              rw [getD_cons s hs0]
              unfold bareB
              simp only [List.drop_zero, List.take_succ_cons, List.take_zero, List.getD_cons_zero]
              simp
              simpa using hlt
            unfold textC; rw [if_pos hb]; simp
          · refine ⟨by omega, hfn, ?_, rfl⟩
            show textC _ = _
            have hb : ¬ bareB ((s.drop f).take n) = true := fun hb => hnb ⟨by omega, hb⟩
            have hl : ((s.drop f).take n).length = n := by rw [List.length_take, List.length_drop]; omega
            unfold textC; rw [if_neg hb, hl, ← (show headU (if false = true then 192 else 128) n = headU 128 n from rfl), ← hhd, List.take_add]
  | succ d ih =>
    intro s x u h
    unfold takeR at h
    cases hh : headR s with
    | error e => rw [hh] at h; cases h
    | ok lfn =>
      obtain ⟨l, f, n⟩ := lfn
      rw [hh] at h
      simp only at h
      obtain ⟨hs0, hcase⟩ := headR_ok s l f n hh
      cases l with
      | true =>
        simp only [Bool.true_eq_false, if_false] at h
        rcases hcase with ⟨hl, _⟩ | ⟨hf1, hfn, hhd⟩
        · cases hl
        cases hk : takeAll (takeR d) 64 ((s.drop f).take n) with
        | error e => rw [hk] at h; cases h
        | ok ks =>
          rw [hk] at h
          cases h
          obtain ⟨i1, i2, i3⟩ := takeAll_ok (takeR d) (codeU d) (flatU d) (fun s x u h => ih s x u h) 64 _ _ hk
          have hl : ((s.drop f).take n).length = n := by rw [List.length_take, List.length_drop]; omega
          refine ⟨by omega, hfn, ?_, ?_⟩
          · show listC _ = _
            rw [i1]; unfold listC; rw [hl, ← (show headU (if true = true then 192 else 128) n = headU 192 n from rfl), ← hhd, List.take_add]
          · show (decide (ks.length ≤ 64) && ks.all (flatU d)) = true
            rw [i2, decide_eq_true i3]; rfl
      | false =>
        rw [if_pos rfl] at h
        split at h
        · cases h
        · rename_i hnb
          cases h
          rcases hcase with ⟨_, rfl, rfl, hlt⟩ | ⟨hf1, hfn, hhd⟩
          · refine ⟨by omega, by omega, ?_, rfl⟩
            show textC _ = _
            have hb : bareB ((s.drop 0).take 1) = true := by
              rw [getD_cons s hs0]
              unfold bareB
              simp only [List.drop_zero, List.take_succ_cons, List.take_zero, List.getD_cons_zero]
              simp
              simpa using hlt
            unfold textC; rw [if_pos hb]; simp
          · refine ⟨by omega, hfn, ?_, rfl⟩
            show textC _ = _
            have hb : ¬ bareB ((s.drop f).take n) = true := fun hb => hnb ⟨by omega, hb⟩
            have hl : ((s.drop f).take n).length = n := by rw [List.length_take, List.length_drop]; omega
            unfold textC; rw [if_neg hb, hl, ← (show headU (if false = true then 192 else 128) n = headU 128 n from rfl), ← hhd, List.take_add]

def kindN (l : Bool) : Nat := if l then 192 else 128
/-- a head that was made is read -/
theorem headR_made (l : Bool) (n : Nat) (rest : List UInt8) (hn : n < 256 ^ 8) (hr : n ≤ rest.length) : headR (headU (kindN l) n ++ rest) = .ok (l, (headU (kindN l) n).length, n) := by
  have hkind : ∀ b : Nat, kindN l ≤ b → (l = false → b < 192) → (if 192 ≤ b then 192 else 128) = kindN l ∧ decide (192 ≤ b) = l := by
    intro b h1 h2
    cases l with
    | false => have := h2 rfl; rw [if_neg (by omega)]; exact ⟨rfl, decide_eq_false (by omega)⟩
    | true => have h1' : 192 ≤ b := h1; rw [if_pos h1']; exact ⟨rfl, decide_eq_true h1'⟩
  have hk192 : kindN l ≤ 192 := by cases l <;> decide
  have hk128 : 128 ≤ kindN l := by cases l <;> decide
  have hkf : l = false → kindN l = 128 := by intro h; rw [h]; rfl
  by_cases h55 : n ≤ 55
  · have e : headU (kindN l) n = [UInt8.ofNat (kindN l + n)] := by unfold headU; rw [if_pos h55]
    have eb : (UInt8.ofNat (kindN l + n)).toNat = kindN l + n := by rw [UInt8.toNat_ofNat']; omega
    obtain ⟨k1, k2⟩ := hkind (kindN l + n) (by omega) (fun h => by rw [hkf h]; omega)
    rw [e]
    unfold headR
    simp only [List.singleton_append, List.getD_cons_zero, eb, k1, k2, List.length_cons]
    rw [if_neg (by omega), if_neg (by omega), if_pos (by omega), show kindN l + n - kindN l = n by omega]
    unfold spanR
    rw [if_neg (by simp; omega)]
    rfl
  · have hp : 0 < (digs 8 n).length := digs_pos 8 n (by omega) (by omega)
    have h8 := digs_length 8 n
    have e : headU (kindN l) n = UInt8.ofNat (kindN l + 55 + (digs 8 n).length) :: digs 8 n := by unfold headU; rw [if_neg h55]
    have eb : (UInt8.ofNat (kindN l + 55 + (digs 8 n).length)).toNat = kindN l + 55 + (digs 8 n).length := by rw [UInt8.toNat_ofNat']; omega
    obtain ⟨k1, k2⟩ := hkind (kindN l + 55 + (digs 8 n).length) (by omega) (fun h => by rw [hkf h]; omega)
    have hbe := be_digs 8 n hn
    have hhd := digs_head 8 n (by omega) hn
    rw [e]
    generalize hD : digs 8 n = D at *
    have e1 : kindN l + 55 + D.length - kindN l = 55 + D.length := by omega
    have e2 : 55 + D.length - 55 = D.length := by omega
    have e3 : 1 + (55 + D.length) - 55 = 1 + D.length := by omega
    unfold headR
    simp only [List.cons_append, List.getD_cons_zero, eb, k1, k2, List.length_cons, List.drop_succ_cons, List.drop_zero, e1, e2, e3, List.take_left, hbe]
    rw [if_neg (by omega), if_neg (by omega), if_neg (by omega), if_neg (by simp), if_neg]
    · unfold spanR
      rw [if_neg (by simp; omega), Nat.add_comm 1]
    · rintro (h | h)
      · apply hhd
        rw [List.getD_cons_succ, List.getD_eq_getElem?_getD, List.getElem?_append_left hp, ← List.getD_eq_getElem?_getD] at h
        exact h
      · omega

theorem textC_pos (t : List UInt8) : 0 < (textC t).length := by
  unfold textC
  split
  · rename_i h; unfold bareB at h; simp at h; omega
  · rw [List.length_append]; have := headU_length_pos 128 t.length; omega
theorem take_text (d : Nat) (t r : List UInt8) (hn : t.length < 256 ^ 8) : takeR d (textC t ++ r) = .ok (textT t, (textC t).length) := by
  by_cases hb : bareB t = true
  · have e : textC t = t := by unfold textC; rw [if_pos hb]
    have hb' := hb
    unfold bareB at hb'
    rw [Bool.and_eq_true, decide_eq_true_eq, decide_eq_true_eq] at hb'
    obtain ⟨hl, hlt⟩ := hb'
    rw [e]
    match t, hl with
    | [c], _ =>
      have hh : headR ([c] ++ r) = .ok (false, 0, 1) := by
        unfold headR
        simp only [List.singleton_append, List.getD_cons_zero, List.length_cons]
        simp only [List.getD_cons_zero] at hlt
        rw [if_neg (by omega), if_pos hlt]
      unfold takeR
      rw [hh]
      simp
  · have e : textC t = headU 128 t.length ++ t := by unfold textC; rw [if_neg hb]
    have hh := headR_made false t.length (t ++ r) hn (by simp)
    have hk : kindN false = 128 := rfl
    rw [hk] at hh
    rw [e, List.append_assoc]
    unfold takeR
    rw [hh]
    simp only
    rw [if_pos trivial, List.drop_left, List.take_left, if_neg (fun h => hb h.2), List.length_append]

theorem flatU_inv (d : Nat) (x : Tree) (h : flatU d x = true) : (∃ t, x = textT t) ∨ (∃ e ks, d = e + 1 ∧ x = listT ks ∧ ks.length ≤ 64 ∧ ks.all (flatU e) = true) := by
  unfold flatU at h
  split at h
  · exact .inl ⟨_, rfl⟩
  · rw [Bool.and_eq_true, decide_eq_true_eq] at h
    exact .inr ⟨_, _, rfl, rfl, h.1, h.2⟩
  · cases h
theorem codeU_text (d : Nat) (t : List UInt8) : codeU d (textT t) = textC t := by unfold textT; simp only [codeU]
theorem codeU_list (d : Nat) (ks : List Tree) : codeU (d + 1) (listT ks) = listC (ks.map (codeU d)).flatten := by unfold listT; simp only [codeU]
theorem codeU_pos (d : Nat) (x : Tree) (h : flatU d x = true) : 0 < (codeU d x).length := by
  rcases flatU_inv d x h with ⟨t, rfl⟩ | ⟨e, ks, rfl, rfl, _, _⟩
  · rw [codeU_text]; exact textC_pos t
  · rw [codeU_list]; unfold listC; rw [List.length_append]; have := headU_length_pos 192 (ks.map (codeU e)).flatten.length; omega

theorem takeAll_made (f : List UInt8 → Except Nat (Tree × Nat)) (code : Tree → List UInt8)
    (ks : List Tree) : ∀ (m : Nat), ks.length ≤ m → (∀ x, x ∈ ks → 0 < (code x).length ∧ ∀ r, f (code x ++ r) = .ok (x, (code x).length)) → takeAll f m (ks.map code).flatten = .ok ks := by
  induction ks with
  | nil => intro m _ _; unfold takeAll; rw [if_pos (by simp)]
  | cons k ks ih =>
    intro m hm hf
    obtain ⟨hp, hk⟩ := hf k (by simp)
    cases m with
    | zero => simp at hm
    | succ m =>
      have hi := ih m (by simp at hm; omega) (fun x hx => hf x (by simp [hx]))
      unfold takeAll
      rw [List.map_cons, List.flatten_cons, if_neg (by rw [List.length_append]; omega)]
      simp only
      rw [hk]
      simp only
      rw [List.drop_left, hi]

theorem part_le (l : List (List UInt8)) : ∀ c, c ∈ l → c.length ≤ l.flatten.length := by
  induction l with
  | nil => intro c h; cases h
  | cons a l ih =>
    intro c h
    rw [List.flatten_cons, List.length_append]
    rcases List.mem_cons.1 h with rfl | h
    · omega
    · have := ih c h; omega

/-- WHAT IS ENCODED IS DECODED AGAIN -/
theorem takeR_made : ∀ (d : Nat) (x : Tree) (r : List UInt8), flatU d x = true → (codeU d x).length < 256 ^ 8 → takeR d (codeU d x ++ r) = .ok (x, (codeU d x).length) := by
  intro d
  induction d with
  | zero =>
    intro x r hx hn
    rcases flatU_inv 0 x hx with ⟨t, rfl⟩ | ⟨e, ks, he, _⟩
    · rw [codeU_text] at hn
      rw [codeU_text]
      refine take_text 0 t r ?_
      unfold textC at hn
      split at hn
      · exact hn
      · rw [List.length_append] at hn; omega
    · omega
  | succ d ih =>
    intro x r hx hn
    rcases flatU_inv (d + 1) x hx with ⟨t, rfl⟩ | ⟨e, ks, he, rfl, h64, hall⟩
    · rw [codeU_text] at hn
      rw [codeU_text]
      refine take_text (d + 1) t r ?_
      unfold textC at hn
      split at hn
      · exact hn
      · rw [List.length_append] at hn; omega
    · obtain rfl : e = d := by omega
      rw [codeU_list] at hn
      rw [codeU_list]
      have hbl : (ks.map (codeU e)).flatten.length < 256 ^ 8 := by unfold listC at hn; rw [List.length_append] at hn; omega
      have hka := takeAll_made (takeR e) (codeU e) ks 64 h64 (fun x hxm => by
        have hf := List.all_eq_true.1 hall x hxm
        refine ⟨codeU_pos e x hf, fun r => ih x r hf ?_⟩
        have := part_le (ks.map (codeU e)) (codeU e x) (List.mem_map_of_mem hxm)
        omega)
      generalize hB : (ks.map (codeU e)).flatten = body at *
      have hh := headR_made true body.length (body ++ r) hbl (by simp)
      have hk : kindN true = 192 := rfl
      rw [hk] at hh
      unfold listC
      rw [List.append_assoc]
      unfold takeR
      rw [hh]
      simp only [Bool.true_eq_false, if_false]
      rw [List.drop_left, List.take_left, hka]
      simp only [List.length_append]

/-- of a whole code -/
theorem decR_made (x : Tree) (h : flatU 6 x = true) (hn : (codeU 6 x).length ≤ 4096) : decR (codeU 6 x) = .ok x := by
  have := takeR_made 6 x [] h (by omega)
  rw [List.append_nil] at this
  unfold decR
  rw [if_neg (by omega), this]
  simp
theorem decR_ok (s : List UInt8) (x : Tree) (h : decR s = .ok x) : codeU 6 x = s ∧ flatU 6 x = true ∧ s.length ≤ 4096 := by
  unfold decR at h
  by_cases h1 : 4096 < s.length
  · rw [if_pos h1] at h; cases h
  rw [if_neg h1] at h
  cases ht : takeR 6 s with
  | error e => rw [ht] at h; cases h
  | ok xu =>
    obtain ⟨y, u⟩ := xu
    rw [ht] at h
    simp only at h
    obtain ⟨_, h2, h3, h4⟩ := takeR_ok 6 s y u ht
    by_cases h5 : u < s.length
    · rw [if_pos h5] at h; cases h
    · rw [if_neg h5] at h; cases h
      refine ⟨?_, h4, by omega⟩
      rw [h3, List.take_of_length_le (by omega)]
end Go.Proofs.Ytenmjjpkbcogbaa
