/-
  The walk of within.
-/
import Derived.Test.YtenmjjpkbcogbaaRlpM
namespace Go.Proofs.Ytenmjjpkbcogbaa
open Go.RowKit

def WithinSaid (d : Nat) : Prop := ∀ (w : World) (S : Nat → Prop) (k : Value) (ks : List Tree) (xs : List Value) (l : Nat), 1 ≤ l → l ≤ 7 → RowIs w S k ks.length xs → ks.length < 140737488355329 → (∀ i, i < ks.length → ItemIs d w S ((xs.drop (3 * i)).take 3) (ks.getD i (textT []))) →
  Calls Try.prog 14 #[k, .int .i64 l] w fun e w' => e = .returned (.bool (flatU (7 - l) (listT ks))) ∧ w' = w

theorem flat_list (L : Nat) (ks : List Tree) : flatU (L + 1) (listT ks) = (decide (ks.length ≤ 64) && ks.all (flatU L)) := by
  unfold listT; simp only [flatU]
theorem flat_text (L : Nat) (t : List UInt8) : flatU L (textT t) = true := by unfold textT; simp only [flatU]
theorem flat_zero (ks : List Tree) : flatU 0 (listT ks) = false := by unfold listT; simp only [flatU]

/-- the three cells of item i -/
theorem three {xs : List Value} {i : Nat} (h : 3 * i + 2 < xs.length) : (xs.drop (3 * i)).take 3 = [xs[3 * i]'(by omega), xs[3 * i + 1]'(by omega), xs[3 * i + 2]'(by omega)] := by
  apply List.ext_getElem?
  intro j
  rw [List.getElem?_take]
  split
  · rw [List.getElem?_drop]
    match j with
    | 0 => simp [List.getElem?_eq_getElem (show 3 * i < xs.length by omega)]
    | 1 => simp [List.getElem?_eq_getElem (show 3 * i + 1 < xs.length by omega)]
    | 2 => simp [List.getElem?_eq_getElem (show 3 * i + 2 < xs.length by omega)]
    | j + 3 => omega
  · rw [List.getElem?_eq_none (by simp; omega)]

/-- an item of the row: its cells, and what it is -/
theorem row_item {w : World} {S : Nat → Prop} {d : Nat} {ka : Option Addr} {n kc : Nat} {ks : List Tree} {xs : List Value} (hr : RowIs w S (.slice ka n kc) ks.length xs) (hn : n = ks.length)
    (hk : ∀ i, i < ks.length → ItemIs d w S ((xs.drop (3 * i)).take 3) (ks.getD i (textT []))) (i : Nat) (hi : i < n) :
    ∃ b o v0 v1 v2, ka = some ⟨b, o, none⟩ ∧ w.cell? ⟨b, o + i * 3, none⟩ = some v0 ∧ w.cell? ⟨b, o + i * 3 + 1, none⟩ = some v1 ∧ w.cell? ⟨b, o + i * 3 + 2, none⟩ = some v2 ∧ ItemIs d w S [v0, v1, v2] (ks.getD i (textT [])) := by
  have hi' := hi
  rw [hn] at hi'
  rcases hr.lie with ⟨h0, _⟩ | ⟨b, o, c, hkv, hSb, hcell⟩
  · omega
  have hx3 : 3 * i + 2 < xs.length := by rw [hr.len]; omega
  have hit := hk i hi'
  rw [three hx3] at hit
  refine ⟨b, o, _, _, _, ?_, ?_, ?_, ?_, hit⟩
  · cases hkv; rfl
  · rw [← List.getElem?_eq_getElem, ← hcell (3 * i) (by omega), Nat.mul_comm]
  · rw [← List.getElem?_eq_getElem, ← hcell (3 * i + 1) (by omega), Nat.mul_comm, Nat.add_assoc]
  · rw [← List.getElem?_eq_getElem, ← hcell (3 * i + 2) (by omega), Nat.mul_comm, Nat.add_assoc]

theorem item_inv {d : Nat} {w : World} {S : Nat → Prop} {v0 v1 v2 : Value} {x : Tree} (h : ItemIs d w S [v0, v1, v2] x) :
    (∃ t, v0 = .bool false ∧ v1 = .string t ∧ x = textT t.data.toList ∧ t.size < 140737488355329) ∨
    (∃ e t ks xs, d = e + 1 ∧ v0 = .bool true ∧ v1 = .string t ∧ x = listT ks ∧ RowIs w S v2 ks.length xs ∧ ks.length < 140737488355329 ∧ ∀ i, i < ks.length → ItemIs e w S ((xs.drop (3 * i)).take 3) (ks.getD i (textT []))) := by
  cases d with
  | zero =>
    obtain ⟨t, k, hcs, hx, ht⟩ := h
    simp only [List.cons.injEq, and_true] at hcs
    exact .inl ⟨t, hcs.1, hcs.2.1, hx, ht⟩
  | succ d =>
    rcases h with ⟨t, k, hcs, hx, ht⟩ | ⟨t, k, ks, xs, hcs, hx, hr, hb, hk⟩
    · simp only [List.cons.injEq, and_true] at hcs
      exact .inl ⟨t, hcs.1, hcs.2.1, hx, ht⟩
    · simp only [List.cons.injEq, and_true] at hcs
      obtain ⟨h1, h2, h3⟩ := hcs
      subst h3
      exact .inr ⟨d, t, ks, xs, rfl, h1, h2, hx, hr, hb, hk⟩

set_option maxRecDepth 100000 in
set_option maxHeartbeats 1000000 in
theorem within_of (d : Nat) (ih : ∀ e, d = e + 1 → WithinSaid e) : WithinSaid d := by
  intro w S k ks xs l h1 h7 hr hb hk
  obtain ⟨ka, kc, hkv⟩ : ∃ ka kc, k = .slice ka ks.length kc := by
    rcases hr.lie with ⟨h0, a, c, rfl⟩ | ⟨b, o, c, rfl, _⟩
    · exact ⟨a, c, by rw [h0]⟩
    · exact ⟨_, c, rfl⟩
  subst hkv
  have HK : Hid (∀ i, i < ks.length → ItemIs d w S ((xs.drop (3 * i)).take 3) (ks.getD i (textT []))) := hk
  have HI : Hid (∀ e, d = e + 1 → WithinSaid e) := ih
  obtain ⟨n, hn⟩ : ∃ n, n = ks.length := ⟨_, rfl⟩
  have HN : Hid (n = ks.length) := hn
  have HR : Hid (RowIs w S (.slice ka n kc) ks.length xs) := by rw [hn]; exact hr
  obtain ⟨R, hR⟩ : ∃ R, R = flatU (7 - l) (listT ks) := ⟨_, rfl⟩
  have HRR : Hid (R = flatU (7 - l) (listT ks)) := hR
  rw [← hn, ← hR]
  rw [← hn] at hb
  clear hr hk ih hn hR
  by_cases hl6 : 6 < l
  · have hl' : decide ((6 : Int) < (l : Int)) = true := by simp; omega
    have hf : R = false := by rw [HRR.out, show 7 - l = 0 by omega, flat_zero]
    have HF : Hid (R = false) := hf
    clear hf
    go_enter Try.func14, Try.ntmps14
    go_wp2_with fail
    go_ret
    exact ⟨by rw [HF.out]; rfl, rfl⟩
  · have hl' : decide ((6 : Int) < (l : Int)) = false := by simp; omega
    have e7 : 7 - l = (6 - l) + 1 := by omega
    by_cases h64 : 64 < n
    · have hl2 : decide ((64 : Int) < (n : Int)) = true := by simp; omega
      have hf : R = false := by rw [HRR.out, e7, flat_list, decide_eq_false (by rw [← HN.out]; omega)]; rfl
      have HF : Hid (R = false) := hf
      clear hf
      go_enter Try.func14, Try.ntmps14
      go_wp2_with fail
      go_ret
      exact ⟨by rw [HF.out]; rfl, rfl⟩
    · have hl2 : decide ((64 : Int) < (n : Int)) = false := by simp; omega
      have hall : R = ks.all (flatU (6 - l)) := by rw [HRR.out, e7, flat_list, decide_eq_true (by rw [← HN.out]; omega)]; rfl
      have HA : Hid (R = ks.all (flatU (6 - l))) := hall
      clear hall e7
      go_enter Try.func14, Try.ntmps14
      go_wp2_with fail
      go_loopg [5] n (fun g r wr => wr = w ∧ ∃ i : Nat, g = n - i ∧ i ≤ n ∧ r = .int .i64 i ∧ Hid (∀ j, j < i → flatU (6 - l) (ks.getD j (textT [])) = true))
      case atStart => exact ⟨rfl, 0, rfl, by omega, rfl, fun j h => by omega⟩
      case round =>
        obtain ⟨hw, i, hg, hi, rfl, hd⟩ := hrel
        subst hw
        have HG : Hid (gk = n - i) := hg
        clear hg
        by_cases hlt : i < n
        · obtain ⟨b, o, v0, v1, v2, hka, g0, g1, g2, hit⟩ := row_item HR.out HN.out HK.out i hlt
          subst hka
          have hmem : ks.getD i (textT []) ∈ ks := by
            have hi' := hlt
            rw [HN.out] at hi'
            have e : ks.getD i (textT []) = ks[i] := by simp [List.getD, List.getElem?_eq_getElem hi']
            rw [e]; exact List.getElem_mem hi'
          have HMM : Hid (ks.getD i (textT []) ∈ ks) := hmem
          clear hmem
          rcases item_inv hit with ⟨t, rfl, rfl, hx, ht⟩ | ⟨e, t, ks2, xs2, hde, rfl, rfl, hx, hr2, hb2, hk2⟩
          · have HX : Hid (ks.getD i (textT []) = textT t.data.toList) := hx
            clear hx hit
            go_wp2_with fail
            go_roundg (n - (i + 1))
            case measure => have := HG.out; omega
            case rel => exact ⟨rfl, i + 1, rfl, by omega, by go_num, fun j hj => by
                by_cases e : j = i
                · subst e; rw [HX.out]; exact flat_text _ _
                · exact hd.out j (by omega)⟩
          · have HX : Hid (ks.getD i (textT []) = listT ks2) := hx
            have hcall := HI.out e hde wr S v2 ks2 xs2 (l + 1) (by omega) (by omega) hr2 hb2 hk2
            have ecast : ((l + 1 : Nat) : Int) = (l : Int) + 1 := by omega
            rw [ecast] at hcall
            have HC : Hid (Calls Try.prog 14 #[v2, .int .i64 ((l : Int) + 1)] wr fun e w' => e = .returned (.bool (flatU (7 - (l + 1)) (listT ks2))) ∧ w' = wr) := hcall
            clear hx hit hcall hr2 hk2 hde
            go_wp2_with fail
            refine HC.out.mono ?_
            have e6 : 7 - (l + 1) = 6 - l := by omega
            rw [e6]
            cases hfl : flatU (6 - l) (listT ks2) with
            | true =>
              have HFL : Hid (flatU (6 - l) (listT ks2) = true) := hfl
              clear hfl HC ecast e6
              rintro e w' ⟨rfl, hw'⟩
              subst hw'
              go_wp2_with fail
              go_roundg (n - (i + 1))
              case measure => have := HG.out; omega
              case rel => exact ⟨rfl, i + 1, rfl, by omega, by go_num, fun j hj => by
                  by_cases e : j = i
                  · subst e; rw [HX.out]; exact HFL.out
                  · exact hd.out j (by omega)⟩
            | false =>
              have hf : R = false := by
                rw [HA.out]
                cases hq : ks.all (flatU (6 - l)) with
                | false => rfl
                | true => have := List.all_eq_true.1 hq _ HMM.out; rw [HX.out, hfl] at this; cases this
              have HF : Hid (R = false) := hf
              clear hfl HC ecast e6 hf
              rintro e w' ⟨rfl, hw'⟩
              subst hw'
              go_wp2_with fail
              go_ret
              exact ⟨by rw [HF.out]; rfl, rfl⟩
        · have ht : R = true := by
            rw [HA.out]
            refine List.all_eq_true.2 fun x hx => ?_
            obtain ⟨j, hj, rfl⟩ := List.getElem_of_mem hx
            have := hd.out j (by have := HN.out; omega)
            have e : ks.getD j (textT []) = ks[j] := by simp [List.getD, List.getElem?_eq_getElem hj]
            rw [e] at this; exact this
          have HT : Hid (R = true) := ht
          clear ht
          go_wp2_with fail
          go_ret
          exact ⟨by rw [HT.out]; rfl, rfl⟩

theorem within_all : ∀ d, WithinSaid d
  | 0 => within_of 0 (fun e h => by omega)
  | d + 1 => within_of (d + 1) (fun e h => by
      have : e = d := by omega
      subst this
      exact within_all e)
end Go.Proofs.Ytenmjjpkbcogbaa
