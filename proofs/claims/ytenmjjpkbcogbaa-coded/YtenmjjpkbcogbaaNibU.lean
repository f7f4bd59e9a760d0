/-
  The walk of nib.Unpack.
-/
import Derived.Test.YtenmjjpkbcogbaaNibP
namespace Go.Proofs.Ytenmjjpkbcogbaa
open Go.RowKit

theorem and15 (c : UInt8) : bits .and .u8 (c.toNat : Int) 15 = ((lo c).toNat : Int) := by
  have := u8_and_nat c.toNat 15 c.toNat_lt (by omega)
  rw [nat_mask4] at this
  rw [lo_nat]; exact this
theorem div16 (c : UInt8) : (c.toNat : Int) / 16 = ((hi c).toNat : Int) := by rw [hi_nat]; omega
theorem and1 (m : Nat) (h : m < 256) : bits .and .u8 (m : Int) 1 = ((m % 2 : Nat) : Int) := by
  have := u8_and_nat m 1 h (by omega)
  rw [nat_mask1] at this
  exact this
theorem and2 (m : Nat) (h : m < 4) : bits .and .u8 (m : Int) 2 = ((m / 2 * 2 : Nat) : Int) := by
  have := u8_and_nat m 2 (by omega) (by omega)
  rw [show (2 : Nat) = 2 ^ 1 from rfl, nat_bit] at this
  have e : m / 2 ^ 1 % 2 * 2 ^ 1 = m / 2 * 2 := by omega
  rw [e] at this
  exact this

set_option maxRecDepth 100000 in
set_option maxHeartbeats 400000 in
theorem unpack_bad (s : ByteArray) (hs : s.size ≤ maxLen) (hb : 4096 < s.size ∨ ¬ formU s.data.toList) (w : World) :
    Calls Try.prog 9 #[.string s] w fun e w' => e = .returned (.tuple #[.string ByteArray.empty, .bool false, .int .i64 (if 4096 < s.size then 1 else 7)]) ∧ w' = w := by
  unfold maxLen at hs
  by_cases h1 : 4096 < s.size
  · rw [if_pos h1]
    have h1' : (4096 : Int) < (s.size : Int) := by omega
    clear hb
    go_enter Try.func9, Try.ntmps9
    go_wp2_with fail
    go_ret3
    exact ⟨rfl, rfl⟩
  · rw [if_neg h1]
    have hb : ¬ formU s.data.toList := by rcases hb with h | h; exact absurd h h1; exact h
    by_cases h0 : s.size = 0
    · have h0' : ((s.size : Int) == 0) = true := beq_iff_eq.2 (by omega)
      clear hb h0
      go_enter Try.func9, Try.ntmps9
      go_wp2_with fail
      go_ret3
      exact ⟨rfl, rfl⟩
    · have h0' : ((s.size : Int) == 0) = false := beq_eq_false_iff_ne.2 (by omega)
      have hp : 0 < s.size := by omega
      have e0 : s.data.toList.getD 0 0 = s[0] := by rw [List.getD_eq_getElem?_getD, List.getElem?_eq_getElem (by simpa using hp)]; rfl
      have hne : s.data.toList ≠ [] := by
        intro h
        have hl : s.data.toList.length = s.size := by simp
        rw [h] at hl
        have : (0 : Nat) = s.size := hl
        omega
      unfold formU at hb
      rw [e0] at hb
      have hd := div16 s[0]
      have ha := and15 s[0]
      have hm := hi_lt s[0]
      have hl := lo_lt s[0]
      generalize hcm : (hi s[0]).toNat = m at *
      generalize hcl : (lo s[0]).toNat = l at *
      clear hcm hcl e0
      have h2 := and1 m (by omega)
      by_cases h3 : 3 < m
      · have h3' : (3 : Int) < (m : Int) := by omega
        clear hb
        go_enter Try.func9, Try.ntmps9
        go_wp2_with fail
        all_goals (go_ret3; exact ⟨rfl, rfl⟩)
      · have hev : m % 2 = 0 ∧ l ≠ 0 := by
          by_cases he : m % 2 = 0
          · refine ⟨he, fun hl0 => hb ⟨hne, by omega, fun _ => hl0⟩⟩
          · exact absurd ⟨hne, by omega, fun h => absurd h he⟩ hb
        have h3' : decide ((3 : Int) < (m : Int)) = false := by simp; omega
        have h4 : (((m % 2 : Nat) : Int) != 0) = false := by simp; omega
        have h5 : ((l : Int) != 0) = true := by simp; omega
        rw [hev.1] at h2
        clear hb
        go_enter Try.func9, Try.ntmps9
        go_wp2_with fail
        all_goals (go_ret3; exact ⟨rfl, rfl⟩)

theorem own_two (w : World) (a b : Value) : ∀ j u, [a, b][j]? = some u → (w.alloc (.cells #[a, b] 5)).cell? ((⟨w.heap.size, 0, none⟩ : Addr).add j) = some u := by
  intro j u hj
  match j, hj with
  | 0, hj => simp at hj; subst hj; simp [Addr.add]
  | 1, hj => simp at hj; subst hj; simp [Addr.add]
  | (j + 2), hj => simp at hj

set_option maxRecDepth 100000 in
set_option maxHeartbeats 1000000 in
theorem unpack_good (s : ByteArray) (hs : s.size ≤ 4096) (hf : formU s.data.toList) (w : World) :
    Calls Try.prog 9 #[.string s] w fun e w' => e = .returned (.tuple #[.string (str (pathU s.data.toList)), .bool (leafU s.data.toList), .int .i64 0]) ∧ Below w.heap.size w w' := by
  obtain ⟨i0, hi0, hz0, hz1, hz2⟩ := info_parts info5
  have hmk := make_bytes 0 (2 * (s.size : Int)) (by omega) (by omega) (by omega)
  have hlen : s.data.toList.length = s.size := by simp
  have HL : Hid (s.data.toList.length = s.size) := hlen
  obtain ⟨hne, hm3, hev⟩ := hf
  have hp : 0 < s.size := by
    rcases Nat.eq_zero_or_pos s.size with h | h
    · rw [h] at hlen; exact absurd (List.length_eq_zero_iff.1 hlen) hne
    · exact h
  have e0 : s.data.toList.getD 0 0 = s[0] := by rw [List.getD_eq_getElem?_getD, List.getElem?_eq_getElem (by simpa using hp)]; rfl
  rw [e0] at hm3 hev
  have hd := div16 s[0]
  have ha := and15 s[0]
  have hll := lo_lt s[0]
  have HPA : Hid (pathU s.data.toList = (if (hi s[0]).toNat % 2 = 1 then [lo s[0]] else []) ++ halvesU (s.data.toList.drop 1)) := by unfold pathU; rw [e0]; rfl
  have HLE : Hid (leafU s.data.toList = decide (2 ≤ (hi s[0]).toNat % 4)) := by unfold leafU; rw [e0]; rfl
  generalize hcm : (hi s[0]).toNat = m at *
  clear hcm e0 hlen
  have h1' : decide ((4096 : Int) < (s.size : Int)) = false := by simp; omega
  have h0' : ((s.size : Int) == 0) = false := beq_eq_false_iff_ne.2 (by omega)
  have h3' : decide ((3 : Int) < (m : Int)) = false := by simp; omega
  have h2 := and1 m (by omega)
  have h22 := and2 m (by omega)
  have hi63 : (2 * (s.size : Int)).toNat = 2 * s.size := by omega
  by_cases ho : m % 2 = 1
  · rw [ho] at h2
    rw [if_pos ho] at HPA
    clear hev
    go_enter Try.func9, Try.ntmps9
    go_upto_region 12 with fail
    have hown := own_made w w.heap.size (2 * s.size) (Nat.le_refl _) (by unfold maxLen; omega)
    have hbel := (Below.refl w.heap.size w).alloc (Nat.le_refl _) (.cells (madeCells #[.int .u8 0] (2 * s.size)) 5)
    generalize hW : w.alloc (.cells (madeCells #[.int .u8 0] (2 * s.size)) 5) = W1 at *
    generalize hV : Value.slice (some ⟨w.heap.size, 0, none⟩) 0 (2 * s.size) = V1 at *
    have HOW : Hid (W1.ownsRow w.heap.size 5 1 V1 0 (u8c [])) := hown
    have HBE : Hid (Below w.heap.size w W1) := hbel
    clear hW hV hown hbel hmk hi63
    go_wp2_with (at_builtin; refine wpList_append_lies _ rfl (.tmp 40) (.tmp 42) 41 rfl w.heap.size 5 i0 (.int .u8 0) 1 1 Try.underlying41 hi0 hz0 hz1 hz2 rfl (by decide) V1 0 (u8c []) rfl (HOW.out.alloc _) ⟨W1.heap.size, 0, none⟩ 1 1 [.int .u8 ((lo s[0]).toNat : Int)] rfl rfl (cell_one_new _ _ _) ?c2 (by omega) ?c3 ?c4 ?c5 _ rfl ?c6)
    case c2 => intro u hu; simp at hu; subst hu; rfl
    case c3 => unfold maxLen; omega
    case c4 => omega
    case c5 => have := HBE.out.size; simp; omega
    intro g1 cap1 W2 hown2 hgrow2 hat2 hlt2
    have hb2 : Below w.heap.size w W2 := (HBE.out.alloc HBE.out.size _).grown hgrow2 (by have := HBE.out.size; simp; omega) (fun k hk => (HOW.out.lt k hk).1)
    have HO2 : Hid (W2.ownsRow w.heap.size 5 1 (.slice (some ⟨g1, 0, none⟩) 1 cap1) 1 (u8c [lo s[0]])) := hown2
    have HB2 : Hid (Below w.heap.size w W2) := hb2
    clear hown2 hgrow2 hat2 hlt2 hb2 HOW HBE
    go_wp2_with fail
    go_loopg [8, 9] s.size (fun n v r wr => ∃ j gb cap : Nat, n = s.size - j ∧ j + 1 ≤ s.size ∧ r = .int .i64 ((j + 1 : Nat) : Int) ∧ v = .slice (some ⟨gb, 0, none⟩) (1 + 2 * j) cap ∧
      wr.ownsRow w.heap.size 5 1 (.slice (some ⟨gb, 0, none⟩) (1 + 2 * j) cap) (1 + 2 * j) (u8c ([lo s[0]] ++ halvesU ((s.data.toList.drop 1).take j))) ∧ Below w.heap.size w wr)
    case atStart => exact ⟨0, g1, cap1, by omega, by omega, rfl, rfl, HO2.out, HB2.out⟩
    case round =>
      obtain ⟨j, gb, cap, hg, hj, rfl, rfl, hown, hbel⟩ := hrel
      have HG : Hid (gk = s.size - j) := hg
      clear hg HO2 HB2
      obtain ⟨p, hpp⟩ : ∃ p : Nat, p = j + 1 := ⟨_, rfl⟩
      obtain ⟨N, hN⟩ : ∃ N : Nat, N = 1 + 2 * j := ⟨_, rfl⟩
      have HP : Hid (p = j + 1) := hpp
      have HNN : Hid (N = 1 + 2 * j) := hN
      rw [← hpp, ← hN]
      rw [← hpp] at hj
      rw [← hN] at hown
      clear hpp hN
      by_cases hlt : p < s.size
      · have hd2 := div16 s[p]
        have ha2 := and15 s[p]
        have HS : Hid (halvesU ((s.data.toList.drop 1).take (j + 1)) = halvesU ((s.data.toList.drop 1).take j) ++ [hi s[p], lo s[p]]) := by
          have hp' := HP.out
          have hll : j < (s.data.toList.drop 1).length := by have := HL.out; rw [List.length_drop]; omega
          rw [List.take_succ_eq_append_getElem hll, halvesU_append]
          congr 1
          have e0 : (s.data.toList.drop 1)[j] = s[p] := by rw [List.getElem_drop]; subst hp'; simp only [Nat.add_comm 1 j]; rfl
          rw [e0]; rfl
        have HOW : Hid (wr.ownsRow w.heap.size 5 1 (.slice (some ⟨gb, 0, none⟩) N cap) N (u8c ([lo s[0]] ++ halvesU ((s.data.toList.drop 1).take j)))) := hown
        have HBE : Hid (Below w.heap.size w wr) := hbel
        have hjb : N < 8192 := by have := HP.out; have := HNN.out; omega
        have hp1 : (p : Int) < (s.size : Int) := by omega
        clear hown hbel
        generalize hi s[p] = cA at *
        generalize lo s[p] = cB at *
        generalize hks : u8c ([lo s[0]] ++ halvesU ((s.data.toList.drop 1).take j)) = ks at *
        have HK : Hid (u8c ([lo s[0]] ++ halvesU ((s.data.toList.drop 1).take j)) = ks) := hks
        clear hks
        go_wp2_with fail
        go_region_law (refine step_append_lies _ rfl (.tmp 50) (.tmp 59) 41 rfl w.heap.size 5 i0 (.int .u8 0) 1 1 Try.underlying41 hi0 hz0 hz1 hz2 rfl (by decide) (.slice (some ⟨gb, 0, none⟩) N cap) N ks (by simp [Act.eval]) (HOW.out.drew.alloc _) ⟨wr.heap.size, 0, none⟩ 2 2 [.int .u8 (cA.toNat : Int), .int .u8 (cB.toNat : Int)] (by simp [Act.eval]) rfl (own_two _ _ _) (by intro u hu; simp at hu; rcases hu with rfl | rfl <;> rfl) (by omega) (by unfold maxLen; omega) (by omega) (by have := HBE.out.size; simp; omega) _ rfl ?_; intro g2 cap2 W3 hown3 hgrow3 hat3 hlt3)
        all_goals
          have hb3 : Below w.heap.size w W3 := (HBE.out.drew.alloc HBE.out.size _).grown hgrow3 (by have := HBE.out.size; simp; omega) (fun k hk => (HOW.out.lt k hk).1)
          have HO3 : Hid (W3.ownsRow w.heap.size 5 1 (.slice (some ⟨g2, 0, none⟩) (N + 2) cap2) (N + 2) (ks ++ [.int .u8 (cA.toNat : Int), .int .u8 (cB.toNat : Int)])) := hown3
          have HB3 : Hid (Below w.heap.size w W3) := hb3
          clear hown3 hgrow3 hat3 hlt3 hb3
          go_wp2_with fail
          go_roundg (s.size - (j + 1))
          case measure => have := HG.out; have := HP.out; omega
          case rel =>
            have hNN := HNN.out
            refine ⟨j + 1, g2, cap2, rfl, by have := HP.out; omega, by have := HP.out; rw [show j + 1 + 1 = p + 1 by omega]; go_num, by rw [show 1 + 2 * (j + 1) = N + 2 by omega], ?_, HB3.out⟩
            have e : u8c ([lo s[0]] ++ halvesU ((s.data.toList.drop 1).take (j + 1))) = ks ++ [.int .u8 (cA.toNat : Int), .int .u8 (cB.toNat : Int)] := by
              rw [HS.out, ← HK.out]; simp [u8c]
            rw [e, show 1 + 2 * (j + 1) = N + 2 by omega]; exact HO3.out
      · have HBE : Hid (Below w.heap.size w wr) := hbel
        have hfin : [lo s[0]] ++ halvesU ((s.data.toList.drop 1).take j) = pathU s.data.toList := by
          have hp' := HP.out
          have hl := HL.out
          rw [HPA.out, List.take_of_length_le (by rw [List.length_drop]; omega)]
        have hlenP : (pathU s.data.toList).length = N := by
          have hp' := HP.out
          have hl := HL.out
          have hNN := HNN.out
          rw [HPA.out, List.length_append, halvesU_length, List.length_drop, hl, hNN]; simp; omega
        have hconv := run_convert_bytes_arg (P := Try.prog) wr 41 5 Try.underlying41 Try.underlying5 gb 0 N cap ((pathU s.data.toList).map (fun c => (c.toNat : Int))) (by
            rw [List.length_map, hlenP]) (fun i hi' => by
            have := hown.cellAt i (by rw [Nat.mul_one]; exact hi')
            rw [Nat.zero_add, this, hfin]
            have hlen' : i < (pathU s.data.toList).length := by rw [hlenP]; exact hi'
            simp [u8c, List.getD, List.getElem?_eq_getElem hlen']) 9 Try.underlying9
        rw [strOfNums_bytes] at hconv
        have HP1 : ¬ ((p : Int) < (s.size : Int)) := by omega
        have hleaf : (((m : Int) / 2 * 2) != 0) = leafU s.data.toList := by
          rw [HLE.out]
          by_cases h2m : 2 ≤ m % 4
          · rw [decide_eq_true h2m, bne_iff_ne]; omega
          · rw [decide_eq_false h2m]; simp; omega
        generalize hlfU : leafU s.data.toList = lf at *
        clear hown hbel hfin hlenP
        go_wp2_with fail
        go_ret3
        exact ⟨rfl, HBE.out⟩
  · have hm0 : m % 2 = 0 := by omega
    rw [hm0] at h2
    rw [if_neg ho] at HPA
    have hlo0 := hev hm0
    rw [hlo0] at ha
    clear hev
    go_enter Try.func9, Try.ntmps9
    go_upto_region 13 with fail
    have hown := own_made w w.heap.size (2 * s.size) (Nat.le_refl _) (by unfold maxLen; omega)
    have hbel := (Below.refl w.heap.size w).alloc (Nat.le_refl _) (.cells (madeCells #[.int .u8 0] (2 * s.size)) 5)
    generalize hW : w.alloc (.cells (madeCells #[.int .u8 0] (2 * s.size)) 5) = W1 at *
    obtain ⟨g1, hg1⟩ : ∃ g1, g1 = w.heap.size := ⟨_, rfl⟩
    obtain ⟨cap1, hcap1⟩ : ∃ c, c = 2 * s.size := ⟨_, rfl⟩
    have HO2 : Hid (W1.ownsRow w.heap.size 5 1 (.slice (some ⟨g1, 0, none⟩) 0 cap1) 0 (u8c [])) := by rw [hg1, hcap1]; exact hown
    have HB2 : Hid (Below w.heap.size w W1) := hbel
    rw [← hcap1, ← hg1]
    clear hW hown hbel hmk hi63 hg1 hcap1
    go_wp2_with fail
    go_loopg [8, 9] s.size (fun n v r wr => ∃ j gb cap : Nat, n = s.size - j ∧ j + 1 ≤ s.size ∧ r = .int .i64 ((j + 1 : Nat) : Int) ∧ v = .slice (some ⟨gb, 0, none⟩) (0 + 2 * j) cap ∧
      wr.ownsRow w.heap.size 5 1 (.slice (some ⟨gb, 0, none⟩) (0 + 2 * j) cap) (0 + 2 * j) (u8c ([] ++ halvesU ((s.data.toList.drop 1).take j))) ∧ Below w.heap.size w wr)
    case atStart => exact ⟨0, g1, cap1, by omega, by omega, rfl, rfl, HO2.out, HB2.out⟩
    case round =>
      obtain ⟨j, gb, cap, hg, hj, rfl, rfl, hown, hbel⟩ := hrel
      have HG : Hid (gk = s.size - j) := hg
      clear hg HO2 HB2
      obtain ⟨p, hpp⟩ : ∃ p : Nat, p = j + 1 := ⟨_, rfl⟩
      obtain ⟨N, hN⟩ : ∃ N : Nat, N = 0 + 2 * j := ⟨_, rfl⟩
      have HP : Hid (p = j + 1) := hpp
      have HNN : Hid (N = 0 + 2 * j) := hN
      rw [← hpp, ← hN]
      rw [← hpp] at hj
      rw [← hN] at hown
      clear hpp hN
      by_cases hlt : p < s.size
      · have hd2 := div16 s[p]
        have ha2 := and15 s[p]
        have HS : Hid (halvesU ((s.data.toList.drop 1).take (j + 1)) = halvesU ((s.data.toList.drop 1).take j) ++ [hi s[p], lo s[p]]) := by
          have hp' := HP.out
          have hll : j < (s.data.toList.drop 1).length := by have := HL.out; rw [List.length_drop]; omega
          rw [List.take_succ_eq_append_getElem hll, halvesU_append]
          congr 1
          have e0 : (s.data.toList.drop 1)[j] = s[p] := by rw [List.getElem_drop]; subst hp'; simp only [Nat.add_comm 1 j]; rfl
          rw [e0]; rfl
        have HOW : Hid (wr.ownsRow w.heap.size 5 1 (.slice (some ⟨gb, 0, none⟩) N cap) N (u8c ([] ++ halvesU ((s.data.toList.drop 1).take j)))) := hown
        have HBE : Hid (Below w.heap.size w wr) := hbel
        have hjb : N < 8192 := by have := HP.out; have := HNN.out; omega
        have hp1 : (p : Int) < (s.size : Int) := by omega
        clear hown hbel
        generalize hi s[p] = cA at *
        generalize lo s[p] = cB at *
        generalize hks : u8c ([] ++ halvesU ((s.data.toList.drop 1).take j)) = ks at *
        have HK : Hid (u8c ([] ++ halvesU ((s.data.toList.drop 1).take j)) = ks) := hks
        clear hks
        go_wp2_with fail
        go_region_law (refine step_append_lies _ rfl (.tmp 50) (.tmp 59) 41 rfl w.heap.size 5 i0 (.int .u8 0) 1 1 Try.underlying41 hi0 hz0 hz1 hz2 rfl (by decide) (.slice (some ⟨gb, 0, none⟩) N cap) N ks (by simp [Act.eval]) (HOW.out.drew.alloc _) ⟨wr.heap.size, 0, none⟩ 2 2 [.int .u8 (cA.toNat : Int), .int .u8 (cB.toNat : Int)] (by simp [Act.eval]) rfl (own_two _ _ _) (by intro u hu; simp at hu; rcases hu with rfl | rfl <;> rfl) (by omega) (by unfold maxLen; omega) (by omega) (by have := HBE.out.size; simp; omega) _ rfl ?_; intro g2 cap2 W3 hown3 hgrow3 hat3 hlt3)
        all_goals
          have hb3 : Below w.heap.size w W3 := (HBE.out.drew.alloc HBE.out.size _).grown hgrow3 (by have := HBE.out.size; simp; omega) (fun k hk => (HOW.out.lt k hk).1)
          have HO3 : Hid (W3.ownsRow w.heap.size 5 1 (.slice (some ⟨g2, 0, none⟩) (N + 2) cap2) (N + 2) (ks ++ [.int .u8 (cA.toNat : Int), .int .u8 (cB.toNat : Int)])) := hown3
          have HB3 : Hid (Below w.heap.size w W3) := hb3
          clear hown3 hgrow3 hat3 hlt3 hb3
          go_wp2_with fail
          go_roundg (s.size - (j + 1))
          case measure => have := HG.out; have := HP.out; omega
          case rel =>
            have hNN := HNN.out
            refine ⟨j + 1, g2, cap2, rfl, by have := HP.out; omega, by have := HP.out; rw [show j + 1 + 1 = p + 1 by omega]; go_num, by rw [show 0 + 2 * (j + 1) = N + 2 by omega], ?_, HB3.out⟩
            have e : u8c ([] ++ halvesU ((s.data.toList.drop 1).take (j + 1))) = ks ++ [.int .u8 (cA.toNat : Int), .int .u8 (cB.toNat : Int)] := by
              rw [HS.out, ← HK.out]; simp [u8c]
            rw [e, show 0 + 2 * (j + 1) = N + 2 by omega]; exact HO3.out
      · have HBE : Hid (Below w.heap.size w wr) := hbel
        have hfin : [] ++ halvesU ((s.data.toList.drop 1).take j) = pathU s.data.toList := by
          have hp' := HP.out
          have hl := HL.out
          rw [HPA.out, List.take_of_length_le (by rw [List.length_drop]; omega)]
        have hlenP : (pathU s.data.toList).length = N := by
          have hp' := HP.out
          have hl := HL.out
          have hNN := HNN.out
          rw [HPA.out, List.length_append, halvesU_length, List.length_drop, hl, hNN]; simp; omega
        have hconv := run_convert_bytes_arg (P := Try.prog) wr 41 5 Try.underlying41 Try.underlying5 gb 0 N cap ((pathU s.data.toList).map (fun c => (c.toNat : Int))) (by
            rw [List.length_map, hlenP]) (fun i hi' => by
            have := hown.cellAt i (by rw [Nat.mul_one]; exact hi')
            rw [Nat.zero_add, this, hfin]
            have hlen' : i < (pathU s.data.toList).length := by rw [hlenP]; exact hi'
            simp [u8c, List.getD, List.getElem?_eq_getElem hlen']) 9 Try.underlying9
        rw [strOfNums_bytes] at hconv
        have HP1 : ¬ ((p : Int) < (s.size : Int)) := by omega
        have hleaf : (((m : Int) / 2 * 2) != 0) = leafU s.data.toList := by
          rw [HLE.out]
          by_cases h2m : 2 ≤ m % 4
          · rw [decide_eq_true h2m, bne_iff_ne]; omega
          · rw [decide_eq_false h2m]; simp; omega
        generalize hlfU : leafU s.data.toList = lf at *
        clear hown hbel hfin hlenP
        go_wp2_with fail
        go_ret3
        exact ⟨rfl, HBE.out⟩
end Go.Proofs.Ytenmjjpkbcogbaa
