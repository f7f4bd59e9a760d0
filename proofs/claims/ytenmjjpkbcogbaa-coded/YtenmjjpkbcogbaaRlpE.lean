/-
  The walks of codeOf and listCode.
-/
import Derived.Test.YtenmjjpkbcogbaaRlpM
import Derived.Lib.AppendStr
namespace Go.Proofs.Ytenmjjpkbcogbaa
open Go.RowKit

/-- what codeOf of items of d levels does -/
def CodeOfSaid (d : Nat) : Prop := ∀ (w : World) (S : Nat → Prop) (v0 v1 v2 : Value) (x : Tree), ItemIs d w S [v0, v1, v2] x →
  Calls Try.prog 15 #[.agg #[v0, v1, v2]] w fun e w' => e = .returned (.tuple #[.string (outC (codeU d x)), .bool (fitsC (codeU d x))]) ∧ Below w.heap.size w w'
/-- what listCode of such does -/
def ListCodeSaid (d : Nat) : Prop := ∀ (w : World) (S : Nat → Prop) (k : Value) (ks : List Tree) (xs : List Value), RowIs w S k ks.length xs → ks.length < 140737488355329 → (∀ i, i < ks.length → ItemIs d w S ((xs.drop (3 * i)).take 3) (ks.getD i (textT []))) →
  Calls Try.prog 20 #[k] w fun e w' => e = .returned (.tuple #[.string (outC (listC (ks.map (codeU d)).flatten)), .bool (fitsC (listC (ks.map (codeU d)).flatten))]) ∧ Below w.heap.size w w'

set_option maxHeartbeats 400000 in
theorem codeOf_text (w : World) (t : ByteArray) (k : Value) (ht : t.size < 140737488355329) :
    Calls Try.prog 15 #[.agg #[.bool false, .string t, k]] w fun e w' => e = .returned (.tuple #[.string (outC (textC t.data.toList)), .bool (fitsC (textC t.data.toList))]) ∧ Below w.heap.size w w' := by
  have hl : t.data.toList.length = t.size := by simp
  cases hb : bareB t.data.toList with
  | true =>
    have e : textC t.data.toList = t.data.toList := by unfold textC; rw [if_pos hb]
    have hf : fitsC t.data.toList = true := by
      unfold bareB at hb; simp at hb; unfold fitsC; rw [hl]; exact decide_eq_true (by omega)
    rw [e, outC_data _ hf, str_data, hf]
    have HB : Hid (bareB t.data.toList = true) := hb
    clear hb e hf hl
    go_enter Try.func15, Try.ntmps15
    go_wp2_with fail
    refine (bare_calls t _).mono ?_
    rw [HB.out]
    rintro e w1 ⟨rfl, hw1⟩
    subst hw1
    go_wp2_with fail
    go_ret2
    exact ⟨rfl, (Below.refl _ _).alloc (Nat.le_refl _) _⟩
  | false =>
    have e : textC t.data.toList = headU (kindN false) t.size ++ t.data.toList := by unfold textC; rw [if_neg (by rw [hb]; decide), hl]; rfl
    have hf := fits_headed false t.data.toList
    rw [hl, ← e] at hf
    have HB : Hid (bareB t.data.toList = false) := hb
    have ho : (if fitsB 128 t.data.toList then str (headU 128 t.size ++ t.data.toList) else ByteArray.empty) = outC (textC t.data.toList) := by
      unfold outC; rw [← hf, e]; rfl
    have HO : Hid ((if fitsB 128 t.data.toList then str (headU 128 t.size ++ t.data.toList) else ByteArray.empty) = outC (textC t.data.toList)) := ho
    have HFF : Hid (fitsB 128 t.data.toList = fitsC (textC t.data.toList)) := hf
    clear hb e hf hl ho
    go_enter Try.func15, Try.ntmps15
    go_wp2_with fail
    refine (bare_calls t _).mono ?_
    rw [HB.out]
    rintro e w1 ⟨rfl, hw1⟩
    subst hw1
    go_wp2_with fail
    refine (headed_calls 128 t (by omega) ht _).mono ?_
    rw [HO.out, HFF.out]
    rintro e w2 ⟨rfl, B2⟩
    have HB2 : Hid (Below w.heap.size w w2) := ((Below.refl _ _).alloc (Nat.le_refl _) _).trans (B2.mono (by simp))
    clear B2
    go_wp2_with fail
    go_ret2
    exact ⟨rfl, HB2.out⟩

set_option maxHeartbeats 400000 in
theorem codeOf_of (d : Nat) (ih : ListCodeSaid d) : CodeOfSaid (d + 1) := by
  intro w S v0 v1 v2 x hx
  rcases hx with ⟨t, k, hcs, rfl, ht⟩ | ⟨t, k, ks, xs, hcs, rfl, hr, hb, hk⟩
  · simp only [List.cons.injEq, and_true] at hcs
    obtain ⟨rfl, rfl, rfl⟩ := hcs
    rw [codeU_text]
    exact codeOf_text w t _ ht
  · simp only [List.cons.injEq, and_true] at hcs
    obtain ⟨rfl, rfl, rfl⟩ := hcs
    rw [codeU_list]
    have HI := fun (w : World) (h : Below w.heap.size w w) => ih w
    clear HI
    go_enter Try.func15, Try.ntmps15
    go_wp2_with fail
    have hbel : Below w.heap.size w (w.alloc (.cells #[.bool true, .string t, v2] 25)) := (Below.refl _ _).alloc (Nat.le_refl _) _
    refine (ih _ S v2 ks xs (hr.below hbel) hb (fun i hi => (hk i hi).below hbel)).mono ?_
    rintro e w1 ⟨rfl, B1⟩
    have HB1 : Hid (Below w.heap.size w w1) := hbel.trans (B1.mono (by simp))
    clear B1 hbel hr hk
    go_wp2_with fail
    go_ret2
    exact ⟨rfl, HB1.out⟩
theorem codeOf_zero : CodeOfSaid 0 := by
  intro w S v0 v1 v2 x ⟨t, k, hcs, hx, ht⟩
  subst hx
  simp only [List.cons.injEq, and_true] at hcs
  obtain ⟨rfl, rfl, rfl⟩ := hcs
  rw [codeU_text]
  exact codeOf_text w t _ ht
theorem strCells_str (l : List UInt8) : Lib.strCells (str l) = u8c l := by
  unfold Lib.strCells u8c
  simp [str_list]
theorem own_slice {w : World} {base e : Nat} {v : Value} {n : Nat} {xs : List Value} (h : w.ownsRow base e 1 v n xs) : ∃ a cap, v = .slice a n cap ∧ (a = none → n = 0) := by
  rcases h.2 with ⟨rfl, rfl⟩ | ⟨g, cap, cur, rfl, _⟩
  · exact ⟨none, 0, rfl, fun _ => rfl⟩
  · exact ⟨_, cap, rfl, fun h => by cases h⟩
theorem conv_own {w : World} {base : Nat} {v : Value} {n : Nat} {l : List UInt8} (h : w.ownsRow base 5 1 v n (u8c l)) : (convert 41 9 v).run Try.prog w = .ok (.string (str l)) w := by
  have hn : l.length = n := by have := h.1; simpa [u8c] using this
  rcases h.2 with ⟨rfl, h0⟩ | ⟨g, cap, cur, rfl, hrest⟩
  · have : l = [] := List.length_eq_zero_iff.1 (by omega)
    subst this
    exact run_convert_bytes_nil (P := Try.prog) w 41 5 Try.underlying41 Try.underlying5 0 0 9 Try.underlying9
  · rw [← strOfNums_bytes]
    exact run_convert_bytes_arg (P := Try.prog) w 41 5 Try.underlying41 Try.underlying5 g 0 n cap (l.map (fun c => (c.toNat : Int))) (by rw [List.length_map, hn]) (fun i hi => by
      have := h.cellAt i (by rw [Nat.mul_one]; exact hi)
      rw [Nat.zero_add, this]
      have hlen : i < l.length := by omega
      simp [u8c, List.getD, List.getElem?_eq_getElem hlen]) 9 Try.underlying9
theorem own_below {w w1 : World} {base e size : Nat} {v : Value} {n : Nat} {xs : List Value} (h : w.ownsRow base e size v n xs) (b : Below w.heap.size w w1) : w1.ownsRow base e size v n xs := by
  refine ⟨h.1, ?_⟩
  rcases h.2 with h0 | ⟨g, cap, cur, hv, hg, hh, hr⟩
  · exact .inl h0
  · refine .inr ⟨g, cap, cur, hv, hg, ?_, hr⟩
    have hlt : g < w.heap.size := by
      rcases Nat.lt_or_ge g w.heap.size with h | h
      · exact h
      · rw [Array.getElem?_eq_none h] at hh; cases hh
    rw [b.block g hlt]; exact hh
theorem own_nil (w : World) (base : Nat) : w.ownsRow base 5 1 (.slice none 0 0) 0 (u8c []) := ⟨rfl, .inl ⟨rfl, rfl⟩⟩

set_option maxRecDepth 100000 in
set_option maxHeartbeats 1000000 in
theorem listCode_of (d : Nat) (ih : CodeOfSaid d) : ListCodeSaid d := by
  intro w S k ks xs hr hb hk
  obtain ⟨i0, hi0, hz0, hz1, hz2⟩ := info_parts info5
  obtain ⟨ka, kc, hkv⟩ : ∃ ka kc, k = .slice ka ks.length kc := by
    rcases hr.lie with ⟨h0, a, c, rfl⟩ | ⟨b, o, c, rfl, _⟩
    · exact ⟨a, c, by rw [h0]⟩
    · exact ⟨_, c, rfl⟩
  subst hkv
  have HR : Hid (RowIs w S (.slice ka ks.length kc) ks.length xs) := hr
  have HK : Hid (∀ i, i < ks.length → ItemIs d w S ((xs.drop (3 * i)).take 3) (ks.getD i (textT []))) := hk
  have HI : Hid (CodeOfSaid d) := ih
  obtain ⟨n, hn⟩ : ∃ n, n = ks.length := ⟨_, rfl⟩
  have HN : Hid (n = ks.length) := hn
  obtain ⟨T, hT⟩ : ∃ T, T = listC (ks.map (codeU d)).flatten := ⟨_, rfl⟩
  have HT : Hid (T = listC (ks.map (codeU d)).flatten) := hT
  rw [← hn, ← hT]
  rw [← hn] at hb
  clear hr hk ih hn hT
  go_enter Try.func20, Try.ntmps20
  go_wp2_with fail
  go_loopg [4, 5] n (fun g v r wr => ∃ (i : Nat) (m : Nat) (a : Option Addr) (cap : Nat), g = n - i ∧ i ≤ n ∧ r = .int .i64 i ∧ v = .slice a m cap ∧ m ≤ 4096 ∧ wr.ownsRow w.heap.size 5 1 (.slice a m cap) m (u8c (codesTo d ks i)) ∧ Below w.heap.size w wr)
  case atStart => exact ⟨0, 0, none, 0, rfl, by omega, rfl, rfl, by omega, own_nil _ _, Below.refl _ _⟩
  case round =>
    obtain ⟨i, m, a, cap, hg, hi, rfl, rfl, hm, hown, hbel⟩ := hrel
    have HG : Hid (gk = n - i) := hg
    have HO : Hid (wr.ownsRow w.heap.size 5 1 (.slice a m cap) m (u8c (codesTo d ks i))) := hown
    have HB : Hid (Below w.heap.size w wr) := hbel
    have hM : (codesTo d ks i).length = m := by have := hown.1; simpa [u8c] using this
    have HM : Hid ((codesTo d ks i).length = m) := hM
    clear hM
    clear hg hown hbel
    by_cases hlt : i < n
    · have hlt' := hlt
      rw [HN.out] at hlt'
      have hrow := HR.out.below HB.out
      rcases hrow.lie with ⟨h0, _⟩ | ⟨b, o, c, hkv, hSb, hcell⟩
      · omega
      have hka : ka = some ⟨b, o, none⟩ := by cases hkv; rfl
      subst hka
      have hx3 : 3 * i + 2 < xs.length := by rw [hrow.len]; omega
      have g0 : wr.cell? ⟨b, o + i * 3, none⟩ = some (xs[3 * i]'(by omega)) := by rw [← List.getElem?_eq_getElem, ← hcell (3 * i) (by omega), Nat.mul_comm]
      have g1 : wr.cell? ⟨b, o + i * 3 + 1, none⟩ = some (xs[3 * i + 1]'(by omega)) := by rw [← List.getElem?_eq_getElem, ← hcell (3 * i + 1) (by omega), Nat.mul_comm, Nat.add_assoc]
      have g2 : wr.cell? ⟨b, o + i * 3 + 2, none⟩ = some (xs[3 * i + 2]'(by omega)) := by rw [← List.getElem?_eq_getElem, ← hcell (3 * i + 2) (by omega), Nat.mul_comm, Nat.add_assoc]
      have hit := (HK.out i hlt').below HB.out
      have e3 : (xs.drop (3 * i)).take 3 = [xs[3 * i]'(by omega), xs[3 * i + 1]'(by omega), xs[3 * i + 2]'(by omega)] := by
        apply List.ext_getElem?
        intro j
        rw [List.getElem?_take]
        split
        · rw [List.getElem?_drop]
          match j with
          | 0 => simp [List.getElem?_eq_getElem (show 3 * i < xs.length by omega)]
          | 1 => simp [List.getElem?_eq_getElem (show 3 * i + 1 < xs.length by omega)]
          | 2 => simp [List.getElem?_eq_getElem (show 3 * i + 2 < xs.length by omega)]
          | j + 3 => omega
        · rw [List.getElem?_eq_none (by simp; omega)]
      rw [e3] at hit
      generalize xs[3 * i]'(by omega) = v0 at *
      generalize xs[3 * i + 1]'(by omega) = v1 at *
      generalize xs[3 * i + 2]'(by omega) = v2 at *
      have HIT : Hid (ItemIs d wr S [v0, v1, v2] (ks.getD i (textT []))) := hit
      clear hit e3 hx3 hcell hrow hlt' hkv
      have hlong : 4096 < (codesTo d ks (i + 1)).length → fitsC T = false ∧ outC T = ByteArray.empty := by
        intro h
        have h1 := codesTo_le d ks (i + 1)
        have h2 : fitsC T = false := by
          unfold fitsC; rw [HT.out]; unfold listC; rw [List.length_append]; exact decide_eq_false (by omega)
        exact ⟨h2, by unfold outC; rw [h2]; rfl⟩
      have HLO : Hid (4096 < (codesTo d ks (i + 1)).length → fitsC T = false ∧ outC T = ByteArray.empty) := hlong
      have HSU : Hid (codesTo d ks (i + 1) = codesTo d ks i ++ codeU d (ks.getD i (textT []))) := codesTo_succ d ks i (by rw [← HN.out]; exact hlt)
      clear hlong
      generalize hc : codeU d (ks.getD i (textT [])) = c at *
      go_wp2_with fail
      refine (HI.out _ S v0 v1 v2 _ HIT.out).mono ?_
      rw [hc]
      rintro e w1 ⟨rfl, B1⟩
      have HB1 : Hid (Below w.heap.size w w1) := HB.out.trans (B1.mono HB.out.size)
      have HO1 : Hid (w1.ownsRow w.heap.size 5 1 (.slice a m cap) m (u8c (codesTo d ks i))) := own_below HO.out B1
      clear B1 hc g0 g1 g2 HIT
      cases hf : fitsC c with
      | false =>
        have hl : 4096 < c.length := by unfold fitsC at hf; simpa using hf
        obtain ⟨q1, q2⟩ := HLO.out (by rw [HSU.out, List.length_append]; omega)
        have HQ1 : Hid (fitsC T = false) := q1
        have HQ2 : Hid (outC T = ByteArray.empty) := q2
        clear q1 q2 hf
        go_wp2_with fail
        go_ret2
        exact ⟨by rw [HQ1.out, HQ2.out]; rfl, HB1.out⟩
      | true =>
        have hl : c.length ≤ 4096 := by unfold fitsC at hf; simpa using hf
        have HOC : Hid (outC c = str c) := outC_data c hf
        rw [HOC.out]
        clear hf
        have hsz : (str c).size = c.length := str_size c
        go_upto_region 8 with fail
        go_wp2_with (at_builtin; refine Lib.wpList_append_own_string _ rfl (.tmp 24) (.tmp 25) 41 9 rfl w.heap.size 5 i0 Try.underlying41 Try.underlying9 hi0 hz0 hz1 hz2 (.slice a m cap) m (u8c (codesTo d ks i)) rfl HO1.out (str c) rfl ?d1 ?d2 ?d3 ?d4)
        case d1 => rw [hsz]; unfold maxLen; omega
        case d2 => rw [hsz]; omega
        case d3 => exact HB1.out.size
        intro v2' w2 hown2 hgrow2 _
        rw [strCells_str] at hown2
        have hown2' : w2.ownsRow w.heap.size 5 1 v2' (m + c.length) (u8c (codesTo d ks (i + 1))) := by
          have e : u8c (codesTo d ks (i + 1)) = u8c (codesTo d ks i) ++ u8c c := by rw [HSU.out]; simp [u8c]
          rw [e]; exact hown2
        obtain ⟨a2, cap2, rfl, _⟩ := own_slice hown2'
        have HO2 : Hid (w2.ownsRow w.heap.size 5 1 (.slice a2 (m + c.length) cap2) (m + c.length) (u8c (codesTo d ks (i + 1)))) := hown2'
        have HB2 : Hid (Below w.heap.size w w2) := HB1.out.grown hgrow2 HB1.out.size (fun k hk => (HO1.out.lt k hk).1)
        have HML : Hid ((codesTo d ks (i + 1)).length = m + c.length) := by
          rw [HSU.out, List.length_append, HM.out]; rfl
        clear hown2 hown2' hgrow2
        obtain ⟨M, hM⟩ : ∃ M, M = m + c.length := ⟨_, rfl⟩
        rw [← hM]
        have HMM : Hid (M = m + c.length) := hM
        clear hM
        by_cases hlong : 4096 < M
        · have hl' : decide ((4096 : Int) < (M : Int)) = true := by simp; omega
          obtain ⟨q1, q2⟩ := HLO.out (by rw [HML.out, ← HMM.out]; exact hlong)
          have HQ1 : Hid (fitsC T = false) := q1
          have HQ2 : Hid (outC T = ByteArray.empty) := q2
          clear q1 q2
          go_wp2_with fail
          go_ret2
          exact ⟨by rw [HQ1.out, HQ2.out]; rfl, HB2.out⟩
        · have hl' : decide ((4096 : Int) < (M : Int)) = false := by simp; omega
          go_wp2_with fail
          go_roundg (n - (i + 1))
          case measure => have := HG.out; omega
          case rel => exact ⟨i + 1, M, a2, cap2, rfl, by omega, by go_num, rfl, by omega, by rw [HMM.out]; exact HO2.out, HB2.out⟩
    · have hfin : codesTo d ks i = (ks.map (codeU d)).flatten := codesTo_all d ks i (by rw [← HN.out]; omega)
      have hconv := conv_own HO.out
      rw [hfin] at hconv
      have hml := HM.out
      rw [hfin] at hml
      generalize hF : (ks.map (codeU d)).flatten = F at *
      have hsz : (str F).size = F.length := str_size F
      have hf := fits_headed true F
      have ho : (if fitsB 192 (str F).data.toList then str (headU 192 (str F).size ++ (str F).data.toList) else ByteArray.empty) = outC T := by
        rw [str_list, hsz, HT.out]; unfold outC listC; rw [← (show kindN true = 192 from rfl), ← hf]
      have HOO : Hid ((if fitsB 192 (str F).data.toList then str (headU 192 (str F).size ++ (str F).data.toList) else ByteArray.empty) = outC T) := ho
      have HFF : Hid (fitsB 192 (str F).data.toList = fitsC T) := by rw [str_list, HT.out]; unfold listC; exact hf
      have HSZ : Hid ((str F).size < 140737488355329) := by rw [hsz, hml]; exact (show m < 140737488355329 by omega)
      clear hfin hF hf ho hml hsz
      have hlt' : ¬ ((i : Int) < (n : Int)) := by omega
      go_wp2_with fail
      refine (headed_calls 192 (str F) (by omega) HSZ.out _).mono ?_
      rw [HOO.out, HFF.out]
      rintro e w2 ⟨rfl, B2⟩
      have HB2 : Hid (Below w.heap.size w w2) := HB.out.trans (B2.mono HB.out.size)
      clear B2
      go_wp2_with fail
      go_ret2
      exact ⟨rfl, HB2.out⟩

theorem code_all : ∀ d, CodeOfSaid d ∧ ListCodeSaid d
  | 0 => ⟨codeOf_zero, listCode_of 0 codeOf_zero⟩
  | d + 1 => ⟨codeOf_of d (code_all d).2, listCode_of (d + 1) (codeOf_of d (code_all d).2)⟩
end Go.Proofs.Ytenmjjpkbcogbaa
