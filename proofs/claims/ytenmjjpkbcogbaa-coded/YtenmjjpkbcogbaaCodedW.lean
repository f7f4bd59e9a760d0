/-
  The walk of coded.
-/
import Derived.Test.YtenmjjpkbcogbaaCodedP
namespace Go.Proofs.Ytenmjjpkbcogbaa
open Go.RowKit

/-- the two items of such a list, in memory -/
theorem two_cells {w : World} {S : Nat → Prop} {l : Bool} {t : ByteArray} {a : Option Addr} {m c : Nat} {q : ByteArray} (h : ItemIs 6 w S [.bool l, .string t, .slice a m c] (twoT q.data.toList)) :
    ∃ (b o : Nat) (k0 k1 k2 k3 _k4 k5 : Value), l = true ∧ a = some ⟨b, o, none⟩ ∧ m = 2 ∧ w.cell? ⟨b, o, none⟩ = some k0 ∧ w.cell? ⟨b, o + 1, none⟩ = some k1 ∧ w.cell? ⟨b, o + 3, none⟩ = some k3 ∧ w.cell? ⟨b, o + 3 + 2, none⟩ = some k5 ∧
      k3 = .bool true ∧ k0 = .bool false ∧ k1 = .string q ∧ k2 = k2 ∧ ∃ na nc, k5 = .slice na 0 nc := by
  rcases item_inv h with ⟨_, _, _, h3, _⟩ | ⟨e, t', ks, xs, he, hl, _, hks, hr, hb, hk⟩
  · exact (not_text_list h3.symm).elim
  · cases hl
    have hks' : ks = [textT q.data.toList, listT []] := (listT_inj hks).symm
    subst hks'
    obtain rfl : e = 5 := by omega
    have hm : m = 2 := by
      rcases hr.lie with ⟨h0, _⟩ | ⟨b, o, c', hkv, _⟩
      · simp at h0
      · cases hkv; rfl
    subst hm
    obtain ⟨b, o, u0, u1, u2, ha, g0, g1, g2, i0⟩ := row_item hr rfl hk 0 (by omega)
    obtain ⟨b', o', v0, v1, v2, ha', f0, f1, f2, i1⟩ := row_item hr rfl hk 1 (by omega)
    rw [ha] at ha'
    cases ha'
    rcases item_inv i0 with ⟨t0, rfl, rfl, ht0, _⟩ | ⟨_, _, _, _, _, _, _, hx, _⟩
    · rcases item_inv i1 with ⟨_, _, _, ht1, _⟩ | ⟨_, t1, ks1, xs1, _, rfl, rfl, hx1, hr1, _, _⟩
      · exact (not_text_list ht1.symm).elim
      · have hk1 : ks1 = [] := (listT_inj hx1).symm
        subst hk1
        refine ⟨b, o, _, _, u2, _, .string t1, _, rfl, ha, rfl, by simpa using g0, by simpa using g1, by simpa using f0, by simpa using f2, rfl, rfl, ?_, rfl, ?_⟩
        · have : t0 = q := data_inj (textT_inj ht0).symm
          rw [this]
        · rcases hr1.lie with ⟨_, na, nc, hv⟩ | ⟨_, _, nc, hv, _⟩
          · exact ⟨na, nc, hv⟩
          · exact ⟨_, nc, hv⟩
    · exact (not_text_list hx).elim

set_option maxRecDepth 100000 in
set_option maxHeartbeats 2000000 in
theorem coded_calls (w : World) (s : ByteArray) (hs : s.size ≤ 1073741824) :
    Calls Try.prog 4 #[.string s] w fun e w' => e = .returned (.bool true) ∧ Below w.heap.size w w' := by
  have HS3 : Hid (s.size < 140737488355329) := (show _ < _ by omega)
  have HSM : Hid (s.size ≤ maxLen) := (show _ ≤ _ by unfold maxLen; omega)
  have hl : s.data.toList.length = s.size := by simp
  have HL : Hid (s.data.toList.length = s.size) := hl
  clear hl
  cases hD : decR s.data.toList with
  | ok x =>
    obtain ⟨c1, c2, c3⟩ := decR_ok _ x hD
    obtain ⟨ee, eo⟩ := enc_fits x c2 (by rw [c1]; exact c3)
    rw [c1, str_data] at eo
    have HE0 : Hid (encErr x = 0) := ee
    have HO0 : Hid (encOut x = s) := eo
    have HD0 : Hid (decR s.data.toList = .ok x) := hD
    clear c1 c2 c3 ee eo hD
    go_enter Try.func4, Try.ntmps4
    go_wp2_with fail
    refine (decode_calls _ s HSM.out).mono ?_
    rw [HD0.out]
    rintro e w1 ⟨⟨il, it, ia, im, ic, rfl, hit⟩, B1⟩
    have HB1 : Hid (Below w.heap.size w w1) := B1
    have HIT : Hid (ItemIs 6 w1 (fun b => w.heap.size ≤ b) [.bool il, .string it, .slice ia im ic] x) := hit
    clear B1 hit
    go_wp2_with fail
    refine (encode_calls _ (fun b => w.heap.size ≤ b) _ _ _ _ (HIT.out.below ((Below.refl _ _).alloc (Nat.le_refl _) _))).mono ?_
    rw [HE0.out, HO0.out]
    rintro e w2 ⟨rfl, B2⟩
    have HB2 : Hid (Below w.heap.size w w2) := (HB1.out.alloc HB1.out.size _).trans (B2.mono (by have := HB1.out.size; simp; omega))
    clear B2
    -- the text's own code
    have HI1 := fun W : World => item_text 6 W (fun _ => True) s (.slice none 0 0) HS3.out
    by_cases hfit : (textC s.data.toList).length ≤ 4096
    · obtain ⟨ee, eo⟩ := enc_fits (textT s.data.toList) (flat_text 6 _) (by rw [codeU_text]; exact hfit)
      rw [codeU_text] at eo
      have HD : Hid (decR (str (textC s.data.toList)).data.toList = .ok (textT s.data.toList)) := by
        have := decR_made (textT s.data.toList) (flat_text 6 _) (by rw [codeU_text]; exact hfit)
        rw [codeU_text] at this; rw [str_list]; exact this
      have HTZ : Hid ((str (textC s.data.toList)).size ≤ maxLen) := by rw [str_size]; exact (show _ ≤ _ by unfold maxLen; omega)
      have HTL : Hid ((str (textC s.data.toList)).size = (textC s.data.toList).length) := str_size _
      have hTz : (str (textC s.data.toList)).size ≤ 4096 := by rw [str_size]; exact hfit
      have HEE : Hid (encErr (textT s.data.toList) = 0) := ee
      have HEO : Hid (encOut (textT s.data.toList) = str (textC s.data.toList)) := eo
      clear ee eo hfit
      generalize hT : str (textC s.data.toList) = T at *
      clear hT
      go_wp2_with fail
      refine (encode_calls _ (fun _ => True) _ _ _ _ (HI1 _)).mono ?_
      rw [HEE.out, HEO.out]
      rintro e w3 ⟨rfl, B3⟩
      have HB3 : Hid (Below w.heap.size w w3) := HB2.out.trans (B3.mono HB2.out.size)
      clear B3
      go_wp2_with fail
      refine (coded1_calls _ s HS3.out).mono ?_
      rw [HEO.out]
      rintro e w4 ⟨rfl, B4⟩
      have HB4 : Hid (Below w.heap.size w w4) := HB3.out.trans (B4.mono HB3.out.size)
      clear B4
      go_wp2_with fail
      refine (decode_calls _ T HTZ.out).mono ?_
      rw [HD.out]
      rintro e w5 ⟨⟨dl, dt, da, dm, dc, rfl, hdi⟩, B5⟩
      have HB5 : Hid (Below w.heap.size w w5) := HB4.out.trans (B5.mono HB4.out.size)
      obtain ⟨hdl, hdt⟩ : dl = false ∧ dt = s := by
        rcases item_inv hdi with ⟨t, h1, h2, h3, _⟩ | ⟨_, _, ks, _, _, _, _, h3, _⟩
        · cases h1; cases h2; exact ⟨rfl, data_inj (textT_inj h3).symm⟩
        · exact (not_text_list h3).elim
      subst hdl hdt
      clear B5 hdi
      -- the list
      have hmk := make_two
      by_cases hfit2 : (codeU 6 (twoT dt.data.toList)).length ≤ 4096
      · obtain ⟨ee, eo⟩ := enc_fits (twoT dt.data.toList) (flat_two _) hfit2
        have HD2 : Hid (decR (str (codeU 6 (twoT dt.data.toList))).data.toList = .ok (twoT dt.data.toList)) := by
          rw [str_list]; exact decR_made _ (flat_two _) hfit2
        have HLZ : Hid ((str (codeU 6 (twoT dt.data.toList))).size ≤ maxLen) := by rw [str_size]; exact (show _ ≤ _ by unfold maxLen; omega)
        have HEE2 : Hid (encErr (twoT dt.data.toList) = 0) := ee
        have HEO2 : Hid (encOut (twoT dt.data.toList) = str (codeU 6 (twoT dt.data.toList))) := eo
        clear ee eo hfit2
        generalize hL : str (codeU 6 (twoT dt.data.toList)) = L at *
        clear hL
        go_wp2_with fail
        refine (encode_calls _ (fun _ => True) _ _ _ _ (item_two (w5.alloc (.cells #[.bool false, .string dt, .slice da dm dc] 25)) dt HS3.out (w5.heap.size + 1) (by simp))).mono ?_
        rw [HEE2.out, HEO2.out]
        rintro e w6 ⟨rfl, B6⟩
        have HB6 : Hid (Below w.heap.size w w6) := ((HB5.out.alloc HB5.out.size _).alloc (by have := HB5.out.size; simp; omega) _).trans (B6.mono (by have := HB5.out.size; simp; omega))
        clear B6 hmk
        go_wp2_with fail
        refine (decode_calls _ L HLZ.out).mono ?_
        rw [HD2.out]
        rintro e w7 ⟨⟨ll, lt, la, lm, lc, rfl, hli⟩, B7⟩
        have HB7 : Hid (Below w.heap.size w w7) := HB6.out.trans (B7.mono HB6.out.size)
        obtain ⟨b, o, k0, k1, k2, k3, k4, k5, hll, hla, hlm, g0, g1, g3, g5, hk3, hk0, hk1, n5, hk5⟩ := two_cells hli
        subst hll hla hlm hk3 hk0 hk1
        obtain ⟨na, nc, hk5⟩ := hk5
        subst hk5
        have hblt : b < w7.heap.size := World.block_lt_of_cell? w7 _ g0
        have G0 : ∀ ob, (w7.alloc ob).cell? ⟨b, o, none⟩ = some (.bool false) := fun ob => (World.cell?_alloc_lt _ _ _ hblt).trans g0
        have G1 : ∀ ob, (w7.alloc ob).cell? ⟨b, o + 1, none⟩ = some (.string dt) := fun ob => (World.cell?_alloc_lt _ _ _ hblt).trans g1
        have G3 : ∀ ob, (w7.alloc ob).cell? ⟨b, o + 3, none⟩ = some (.bool true) := fun ob => (World.cell?_alloc_lt _ _ _ hblt).trans g3
        have G5 : ∀ ob, (w7.alloc ob).cell? ⟨b, o + 3 + 2, none⟩ = some (.slice na 0 nc) := fun ob => (World.cell?_alloc_lt _ _ _ hblt).trans g5
        clear B7 hli g0 g1 g3 g5
        go_wp2_with fail
        go_ret
        exact ⟨rfl, HB7.out.alloc HB7.out.size _⟩
      · have h4 : (4096 : Int) < (T.size : Int) + 4 := by
          have h1 := HTL.out
          have h2 : ¬ (textC dt.data.toList).length ≤ 4092 := fun h => hfit2 (two_len _ h)
          omega
        obtain ⟨ee, eo⟩ := enc_long (twoT dt.data.toList) (flat_two _) hfit2
        have HEE2 : Hid (encErr (twoT dt.data.toList) = 1) := ee
        clear ee eo hfit2
        go_wp2_with fail
        refine (encode_calls _ (fun _ => True) _ _ _ _ (item_two (w5.alloc (.cells #[.bool false, .string dt, .slice da dm dc] 25)) dt HS3.out (w5.heap.size + 1) (by simp))).mono ?_
        rw [HEE2.out]
        rintro e w6 ⟨rfl, B6⟩
        have HB6 : Hid (Below w.heap.size w w6) := ((HB5.out.alloc HB5.out.size _).alloc (by have := HB5.out.size; simp; omega) _).trans (B6.mono (by have := HB5.out.size; simp; omega))
        clear B6 hmk
        go_wp2_with fail
        go_ret
        exact ⟨rfl, HB6.out⟩
    · have h3 : (4096 : Int) < (s.size : Int) + 3 := by
        have h1 := HL.out
        have h2 : ¬ s.data.toList.length ≤ 4093 := fun h => hfit (textC_len _ h)
        omega
      obtain ⟨ee, eo⟩ := enc_long (textT s.data.toList) (flat_text 6 _) (by rw [codeU_text]; exact hfit)
      have HEE : Hid (encErr (textT s.data.toList) = 1) := ee
      clear ee eo hfit
      go_wp2_with fail
      refine (encode_calls _ (fun _ => True) _ _ _ _ (HI1 _)).mono ?_
      rw [HEE.out]
      rintro e w3 ⟨rfl, B3⟩
      have HB3 : Hid (Below w.heap.size w w3) := HB2.out.trans (B3.mono HB2.out.size)
      clear B3
      go_wp2_with fail
      go_ret
      exact ⟨rfl, HB3.out⟩
  | error c =>
    have HD0 : Hid (decR s.data.toList = .error c) := hD
    clear hD
    go_enter Try.func4, Try.ntmps4
    go_wp2_with fail
    refine (decode_calls _ s HSM.out).mono ?_
    rw [HD0.out]
    rintro e w2 ⟨⟨rfl, hc0⟩, B2⟩
    have hc' : ((c : Int) == 0) = false := beq_eq_false_iff_ne.2 (by omega)
    have HB2 : Hid (Below w.heap.size w (w2.alloc (.cells #[.bool false, .string ByteArray.empty, .slice none 0 0] 25))) := B2.alloc B2.size _
    clear B2
    -- the text's own code
    have HI1 := fun W : World => item_text 6 W (fun _ => True) s (.slice none 0 0) HS3.out
    by_cases hfit : (textC s.data.toList).length ≤ 4096
    · obtain ⟨ee, eo⟩ := enc_fits (textT s.data.toList) (flat_text 6 _) (by rw [codeU_text]; exact hfit)
      rw [codeU_text] at eo
      have HD : Hid (decR (str (textC s.data.toList)).data.toList = .ok (textT s.data.toList)) := by
        have := decR_made (textT s.data.toList) (flat_text 6 _) (by rw [codeU_text]; exact hfit)
        rw [codeU_text] at this; rw [str_list]; exact this
      have HTZ : Hid ((str (textC s.data.toList)).size ≤ maxLen) := by rw [str_size]; exact (show _ ≤ _ by unfold maxLen; omega)
      have HTL : Hid ((str (textC s.data.toList)).size = (textC s.data.toList).length) := str_size _
      have hTz : (str (textC s.data.toList)).size ≤ 4096 := by rw [str_size]; exact hfit
      have HEE : Hid (encErr (textT s.data.toList) = 0) := ee
      have HEO : Hid (encOut (textT s.data.toList) = str (textC s.data.toList)) := eo
      clear ee eo hfit
      generalize hT : str (textC s.data.toList) = T at *
      clear hT
      go_wp2_with fail
      refine (encode_calls _ (fun _ => True) _ _ _ _ (HI1 _)).mono ?_
      rw [HEE.out, HEO.out]
      rintro e w3 ⟨rfl, B3⟩
      have HB3 : Hid (Below w.heap.size w w3) := HB2.out.trans (B3.mono HB2.out.size)
      clear B3
      go_wp2_with fail
      refine (coded1_calls _ s HS3.out).mono ?_
      rw [HEO.out]
      rintro e w4 ⟨rfl, B4⟩
      have HB4 : Hid (Below w.heap.size w w4) := HB3.out.trans (B4.mono HB3.out.size)
      clear B4
      go_wp2_with fail
      refine (decode_calls _ T HTZ.out).mono ?_
      rw [HD.out]
      rintro e w5 ⟨⟨dl, dt, da, dm, dc, rfl, hdi⟩, B5⟩
      have HB5 : Hid (Below w.heap.size w w5) := HB4.out.trans (B5.mono HB4.out.size)
      obtain ⟨hdl, hdt⟩ : dl = false ∧ dt = s := by
        rcases item_inv hdi with ⟨t, h1, h2, h3, _⟩ | ⟨_, _, ks, _, _, _, _, h3, _⟩
        · cases h1; cases h2; exact ⟨rfl, data_inj (textT_inj h3).symm⟩
        · exact (not_text_list h3).elim
      subst hdl hdt
      clear B5 hdi
      -- the list
      have hmk := make_two
      by_cases hfit2 : (codeU 6 (twoT dt.data.toList)).length ≤ 4096
      · obtain ⟨ee, eo⟩ := enc_fits (twoT dt.data.toList) (flat_two _) hfit2
        have HD2 : Hid (decR (str (codeU 6 (twoT dt.data.toList))).data.toList = .ok (twoT dt.data.toList)) := by
          rw [str_list]; exact decR_made _ (flat_two _) hfit2
        have HLZ : Hid ((str (codeU 6 (twoT dt.data.toList))).size ≤ maxLen) := by rw [str_size]; exact (show _ ≤ _ by unfold maxLen; omega)
        have HEE2 : Hid (encErr (twoT dt.data.toList) = 0) := ee
        have HEO2 : Hid (encOut (twoT dt.data.toList) = str (codeU 6 (twoT dt.data.toList))) := eo
        clear ee eo hfit2
        generalize hL : str (codeU 6 (twoT dt.data.toList)) = L at *
        clear hL
        go_wp2_with fail
        refine (encode_calls _ (fun _ => True) _ _ _ _ (item_two (w5.alloc (.cells #[.bool false, .string dt, .slice da dm dc] 25)) dt HS3.out (w5.heap.size + 1) (by simp))).mono ?_
        rw [HEE2.out, HEO2.out]
        rintro e w6 ⟨rfl, B6⟩
        have HB6 : Hid (Below w.heap.size w w6) := ((HB5.out.alloc HB5.out.size _).alloc (by have := HB5.out.size; simp; omega) _).trans (B6.mono (by have := HB5.out.size; simp; omega))
        clear B6 hmk
        go_wp2_with fail
        refine (decode_calls _ L HLZ.out).mono ?_
        rw [HD2.out]
        rintro e w7 ⟨⟨ll, lt, la, lm, lc, rfl, hli⟩, B7⟩
        have HB7 : Hid (Below w.heap.size w w7) := HB6.out.trans (B7.mono HB6.out.size)
        obtain ⟨b, o, k0, k1, k2, k3, k4, k5, hll, hla, hlm, g0, g1, g3, g5, hk3, hk0, hk1, n5, hk5⟩ := two_cells hli
        subst hll hla hlm hk3 hk0 hk1
        obtain ⟨na, nc, hk5⟩ := hk5
        subst hk5
        have hblt : b < w7.heap.size := World.block_lt_of_cell? w7 _ g0
        have G0 : ∀ ob, (w7.alloc ob).cell? ⟨b, o, none⟩ = some (.bool false) := fun ob => (World.cell?_alloc_lt _ _ _ hblt).trans g0
        have G1 : ∀ ob, (w7.alloc ob).cell? ⟨b, o + 1, none⟩ = some (.string dt) := fun ob => (World.cell?_alloc_lt _ _ _ hblt).trans g1
        have G3 : ∀ ob, (w7.alloc ob).cell? ⟨b, o + 3, none⟩ = some (.bool true) := fun ob => (World.cell?_alloc_lt _ _ _ hblt).trans g3
        have G5 : ∀ ob, (w7.alloc ob).cell? ⟨b, o + 3 + 2, none⟩ = some (.slice na 0 nc) := fun ob => (World.cell?_alloc_lt _ _ _ hblt).trans g5
        clear B7 hli g0 g1 g3 g5
        go_wp2_with fail
        go_ret
        exact ⟨rfl, HB7.out.alloc HB7.out.size _⟩
      · have h4 : (4096 : Int) < (T.size : Int) + 4 := by
          have h1 := HTL.out
          have h2 : ¬ (textC dt.data.toList).length ≤ 4092 := fun h => hfit2 (two_len _ h)
          omega
        obtain ⟨ee, eo⟩ := enc_long (twoT dt.data.toList) (flat_two _) hfit2
        have HEE2 : Hid (encErr (twoT dt.data.toList) = 1) := ee
        clear ee eo hfit2
        go_wp2_with fail
        refine (encode_calls _ (fun _ => True) _ _ _ _ (item_two (w5.alloc (.cells #[.bool false, .string dt, .slice da dm dc] 25)) dt HS3.out (w5.heap.size + 1) (by simp))).mono ?_
        rw [HEE2.out]
        rintro e w6 ⟨rfl, B6⟩
        have HB6 : Hid (Below w.heap.size w w6) := ((HB5.out.alloc HB5.out.size _).alloc (by have := HB5.out.size; simp; omega) _).trans (B6.mono (by have := HB5.out.size; simp; omega))
        clear B6 hmk
        go_wp2_with fail
        go_ret
        exact ⟨rfl, HB6.out⟩
    · have h3 : (4096 : Int) < (s.size : Int) + 3 := by
        have h1 := HL.out
        have h2 : ¬ s.data.toList.length ≤ 4093 := fun h => hfit (textC_len _ h)
        omega
      obtain ⟨ee, eo⟩ := enc_long (textT s.data.toList) (flat_text 6 _) (by rw [codeU_text]; exact hfit)
      have HEE : Hid (encErr (textT s.data.toList) = 1) := ee
      clear ee eo hfit
      go_wp2_with fail
      refine (encode_calls _ (fun _ => True) _ _ _ _ (HI1 _)).mono ?_
      rw [HEE.out]
      rintro e w3 ⟨rfl, B3⟩
      have HB3 : Hid (Below w.heap.size w w3) := HB2.out.trans (B3.mono HB2.out.size)
      clear B3
      go_wp2_with fail
      go_ret
      exact ⟨rfl, HB3.out⟩
end Go.Proofs.Ytenmjjpkbcogbaa
