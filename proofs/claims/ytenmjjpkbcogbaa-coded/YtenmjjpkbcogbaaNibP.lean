/-
  The walk of nib.Pack, of a path that may be packed.
-/
import Derived.Test.YtenmjjpkbcogbaaNibA
import Derived.Deep.Cut
import Derived.Lib.Strings
import Derived.Deep.CutRange
import Derived.Deep.DeepCutAuto
namespace Go.Proofs.Ytenmjjpkbcogbaa
open Go.RowKit

theorem info5 : (Try.prog.info? 5).map (fun i => (i.zero, i.size, i.bytes)) = some (some (.int .u8 0), 1, 1) := by kernel_rfl
def u8c (l : List UInt8) : List Value := l.map (fun c => Value.int .u8 (c.toNat : Int))
def str (l : List UInt8) : ByteArray := ⟨l.toArray⟩

theorem make_bytes (n c : Int) (h0 : 0 ≤ n) (hn : n ≤ c) (hc : c ≤ 281474976710656) (w : World) :
    (Instr.makeSlice 41 (.int .i64 n) (.int .i64 c)).run Try.prog w = .ok (.slice (some ⟨w.heap.size, 0, none⟩) n.toNat c.toNat) (w.alloc (.cells (madeCells #[.int .u8 0] c.toNat) 5)) := by
  obtain ⟨i0, hi, hz0, hz1, hz2⟩ := info_parts info5
  have := run_make (P := Try.prog) w 41 5 i0 (.int .u8 0) Try.underlying41 hi hz0 .i64 .i64 n c h0 hn (by rw [hz2]; omega) (by omega)
  rw [hz1, Nat.mul_one] at this
  exact this

theorem own_made (w : World) (base c : Nat) (hb : base ≤ w.heap.size) (hc : c ≤ maxLen) : (w.alloc (.cells (madeCells #[.int .u8 0] c) 5)).ownsRow base 5 1 (.slice (some ⟨w.heap.size, 0, none⟩) 0 c) 0 (u8c []) :=
  ⟨rfl, .inr ⟨w.heap.size, c, _, rfl, hb, heap_alloc_new _ _, by omega, hc, by rw [size_madeCells, Nat.mul_one], by simp [u8c]⟩⟩

theorem strOfNums_bytes (l : List UInt8) : strOfNums (l.map (fun c => (c.toNat : Int))) = str l := by
  unfold strOfNums str
  congr 1
  rw [List.map_map]
  congr 1
  conv => rhs; rw [← List.map_id l]
  apply List.map_congr_left
  intro c _
  simp

theorem or16 (a b : Nat) (ha : a < 16) (hb : b < 16) : bits .or .u8 (IntKind.u8.wrap ((a : Int) * 16)) (b : Int) = ((16 * a + b : Nat) : Int) := by
  have e : IntKind.u8.wrap ((a : Int) * 16) = ((16 * a : Nat) : Int) := by rw [IntKind.wrap_u8']; omega
  rw [e, u8_or_nat _ _ (by omega) (by omega), nat_join 4 (16 * a) b (by omega) (by omega)]

set_option maxRecDepth 100000 in
set_option maxHeartbeats 400000 in
theorem pack_ol (s : ByteArray) (hs : s.size < 8192) (hn : nibsB s.data.toList = true) (hodd : s.size % 2 = 1) (w : World) :
    Calls Try.prog 10 #[.string s, .bool true] w fun e w' => e = .returned (.tuple #[.string (str (packU s.data.toList true)), .int .i64 0]) ∧ Below w.heap.size w w' := by
  have hm : s.size ≤ maxLen := by unfold maxLen; omega
  obtain ⟨i0, hi0, hz0, hz1, hz2⟩ := info_parts info5
  have hmk := make_bytes 0 ((s.size : Int) / 2 + 1) (by omega) (by omega) (by omega)
  have HN : Hid (nibsB s.data.toList = true) := hn
  have HO : Hid (s.size % 2 = 1) := hodd
  have hlen : s.data.toList.length = s.size := by simp
  have HL : Hid (s.data.toList.length = s.size) := hlen
  have ht1 : ((s.size : Int) % 2 == 1) = true := beq_iff_eq.2 (by omega)
  have hi63 : ((s.size : Int) / 2 + 1).toNat = s.size / 2 + 1 := by omega
  have h0 : 0 < s.size := by omega
  clear hlen hn hodd
  go_enter Try.func10, Try.ntmps10
  go_wp2_with fail
  refine (allHalf_calls s hm _).mono ?_
  rw [HN.out]
  rintro e w1 ⟨rfl, hw⟩
  have hw' := hw.symm
  subst hw'
  clear hm hw
  go_upto_region 15 with fail
  have hown := own_made w w.heap.size (s.size / 2 + 1) (Nat.le_refl _) (by unfold maxLen; omega)
  have hbel := (Below.refl w.heap.size w).alloc (Nat.le_refl _) (.cells (madeCells #[.int .u8 0] (s.size / 2 + 1)) 5)
  generalize hW : w.alloc (.cells (madeCells #[.int .u8 0] (s.size / 2 + 1)) 5) = W1 at *
  generalize hV : Value.slice (some ⟨w.heap.size, 0, none⟩) 0 (s.size / 2 + 1) = V1 at *
  have HOW : Hid (W1.ownsRow w.heap.size 5 1 V1 0 (u8c [])) := hown
  have HBE : Hid (Below w.heap.size w W1) := hbel
  clear hW hV hown hbel hmk hi63
  have hnb := nibsB_true HN.out
  have h0n : (s[0]).toNat < 16 := hnb _ (by rw [← Array.mem_def]; exact Array.getElem_mem (by simpa using h0))
  obtain ⟨B, hB⟩ : ∃ B : UInt8, B = join (UInt8.ofNat 3) s[0] := ⟨_, rfl⟩
  have hv0 : bits .or .u8 48 ((s[0]).toNat : Int) = (B.toNat : Int) := by
    have e := or16 3 (s[0]).toNat (by omega) h0n
    rw [hB, join_nat _ _ (by decide) h0n]; exact e
  have HB : Hid (B = join (UInt8.ofNat 3) s[0]) := hB
  clear hnb h0n hB
  go_wp2_with (at_builtin; refine wpList_append_lies _ rfl (.tmp 30) (.tmp 35) 41 rfl w.heap.size 5 i0 (.int .u8 0) 1 1 Try.underlying41 hi0 hz0 hz1 hz2 rfl (by decide) V1 0 (u8c []) rfl (HOW.out.alloc _) ⟨W1.heap.size, 0, none⟩ 1 1 [.int .u8 (B.toNat : Int)] rfl rfl (cell_one_new _ _ _) ?c2 (by omega) ?c3 ?c4 ?c5 _ rfl ?c6)
  case c2 => intro u hu; simp at hu; subst hu; rfl
  case c3 => unfold maxLen; omega
  case c4 => omega
  case c5 => have := HBE.out.size; simp; omega
  case c6 =>
    intro g1 cap1 W2 hown2 hgrow2 hat2 hlt2
    have hown2 : W2.ownsRow w.heap.size 5 1 (.slice (some ⟨g1, 0, none⟩) (0 + 1) cap1) (0 + 1) (u8c [B]) := hown2
    have hb2 : Below w.heap.size w W2 := (HBE.out.alloc HBE.out.size _).grown hgrow2 (by have := HBE.out.size; simp; omega) (fun k hk => (HOW.out.lt k hk).1)
    have HO2 : Hid (W2.ownsRow w.heap.size 5 1 (.slice (some ⟨g1, 0, none⟩) (0 + 1) cap1) (0 + 1) (u8c [B])) := hown2
    have HB2 : Hid (Below w.heap.size w W2) := hb2
    clear hown2 hgrow2 hat2 hlt2 hb2 HOW HBE hv0
    go_wp2_with fail
    go_loopg [7, 9] (s.size / 2) (fun n r v wr => ∃ j gb cap : Nat, n = s.size / 2 - j ∧ 1 + 2 * j ≤ s.size ∧ r = .int .i64 ((1 + 2 * j : Nat) : Int) ∧ v = .slice (some ⟨gb, 0, none⟩) (j + 1) cap ∧
      wr.ownsRow w.heap.size 5 1 (.slice (some ⟨gb, 0, none⟩) (j + 1) cap) (j + 1) (u8c (B :: pairs ((s.data.toList.drop 1).take (2 * j)))) ∧ Below w.heap.size w wr)
    case atStart => exact ⟨0, g1, cap1, by omega, by omega, rfl, rfl, HO2.out, HB2.out⟩
    case round =>
      obtain ⟨j, gb, cap, hg, hj, rfl, rfl, hown, hbel⟩ := hrel
      have HG : Hid (gk = s.size / 2 - j) := hg
      clear hg HO2 HB2
      obtain ⟨p, hp⟩ : ∃ p : Nat, p = 1 + 2 * j := ⟨_, rfl⟩
      have HP : Hid (p = 1 + 2 * j) := hp
      rw [← hp]
      rw [← hp] at hj
      clear hp
      by_cases hlt : p + 1 < s.size
      · have hnb := nibsB_true HN.out
        have n0 : (s[p]).toNat < 16 := hnb _ (by rw [← Array.mem_def]; exact Array.getElem_mem (by simpa using (by omega : p < s.size)))
        have n1 : (s[p + 1]).toNat < 16 := hnb _ (by rw [← Array.mem_def]; exact Array.getElem_mem (by simpa using hlt))
        have hv : bits .or .u8 (IntKind.u8.wrap (((s[p]).toNat : Int) * 16)) ((s[p + 1]).toNat : Int) = ((join s[p] s[p + 1]).toNat : Int) := by
          rw [or16 _ _ n0 n1, join_nat _ _ n0 n1]
        have HS : Hid (pairs ((s.data.toList.drop 1).take (2 * (j + 1))) = pairs ((s.data.toList.drop 1).take (2 * j)) ++ [join s[p] s[p + 1]]) := by
          have hp := HP.out
          have hll : 2 * j + 1 < (s.data.toList.drop 1).length := by have := HL.out; rw [List.length_drop]; omega
          have e : 2 * (j + 1) = 2 * j + 2 := by omega
          rw [e, take_two _ _ hll, pairs_append _ _ (by rw [List.length_take]; omega)]
          congr 1
          have e0 : (s.data.toList.drop 1)[2 * j] = s[p] := by rw [List.getElem_drop]; subst hp; rfl
          have e1 : (s.data.toList.drop 1)[2 * j + 1] = s[p + 1] := by rw [List.getElem_drop]; subst hp; rfl
          rw [e0, e1]; rfl
        have HOW : Hid (wr.ownsRow w.heap.size 5 1 (.slice (some ⟨gb, 0, none⟩) (j + 1) cap) (j + 1) (u8c (B :: pairs ((s.data.toList.drop 1).take (2 * j))))) := hown
        have HBE : Hid (Below w.heap.size w wr) := hbel
        have hjb : j < 4096 := by have := HP.out; omega
        have hp0 : p < s.size := by omega
        have hp1 : (p : Int) < (s.size : Int) := by omega
        have hp2 : (p : Int) + 1 < (s.size : Int) := by omega
        have hp3 : (0 : Int) ≤ (p : Int) + 1 := by omega
        have iw : IntKind.i64.wrap ((p : Int) + 1) = (p : Int) + 1 := by rw [IntKind.wrap_i64]; omega
        clear hnb n0 n1 hown hbel
        generalize hJ : join s[p] s[p + 1] = J at *
        generalize hks : u8c (B :: pairs ((s.data.toList.drop 1).take (2 * j))) = ks at *
        have HK : Hid (u8c (B :: pairs ((s.data.toList.drop 1).take (2 * j))) = ks) := hks
        clear hks
        go_wp2_with fail
        go_region_law (refine step_append_lies _ rfl (.tmp 44) (.tmp 54) 41 rfl w.heap.size 5 i0 (.int .u8 0) 1 1 Try.underlying41 hi0 hz0 hz1 hz2 rfl (by decide) (.slice (some ⟨gb, 0, none⟩) (j + 1) cap) (j + 1) ks (by simp [Act.eval]) (HOW.out.drew.alloc _) ⟨wr.heap.size, 0, none⟩ 1 1 [.int .u8 (J.toNat : Int)] (by simp [Act.eval]) rfl (cell_one_new _ _ _) (by intro u hu; simp at hu; subst hu; rfl) (by omega) (by unfold maxLen; omega) (by omega) (by have := HBE.out.size; simp; omega) _ rfl ?_; intro g2 cap2 W3 hown3 hgrow3 hat3 hlt3)
        all_goals
          have hb3 : Below w.heap.size w W3 := (HBE.out.drew.alloc HBE.out.size _).grown hgrow3 (by have := HBE.out.size; simp; omega) (fun k hk => (HOW.out.lt k hk).1)
          have HO3 : Hid (W3.ownsRow w.heap.size 5 1 (.slice (some ⟨g2, 0, none⟩) (j + 1 + 1) cap2) (j + 1 + 1) (ks ++ [.int .u8 (J.toNat : Int)])) := hown3
          have HB3 : Hid (Below w.heap.size w W3) := hb3
          clear hown3 hgrow3 hat3 hlt3 hb3
          go_wp2_with fail
          go_roundg (s.size / 2 - (j + 1))
          case measure => have := HG.out; have := HP.out; omega
          case rel =>
            refine ⟨j + 1, g2, cap2, rfl, by have := HP.out; omega, by have := HP.out; rw [show 1 + 2 * (j + 1) = p + 2 by omega]; go_num, rfl, ?_, HB3.out⟩
            have e : u8c (B :: pairs ((s.data.toList.drop 1).take (2 * (j + 1)))) = ks ++ [.int .u8 (J.toNat : Int)] := by
              rw [HS.out, ← HK.out]; simp [u8c]
            rw [e]; exact HO3.out
      · have HBE : Hid (Below w.heap.size w wr) := hbel
        have hfin : B :: pairs ((s.data.toList.drop 1).take (2 * j)) = packU s.data.toList true := by
          have hp := HP.out
          have ho := HO.out
          have hl := HL.out
          unfold packU
          rw [if_pos (by rw [hl]; omega), List.take_of_length_le (by rw [List.length_drop]; omega), HB.out]
          have e : s.data.toList.getD 0 0 = s[0] := by rw [List.getD_eq_getElem?_getD, List.getElem?_eq_getElem (by rw [hl]; exact h0)]; rfl
          rw [e]; rfl
        have hconv := run_convert_bytes_arg (P := Try.prog) wr 41 5 Try.underlying41 Try.underlying5 gb 0 (j + 1) cap ((packU s.data.toList true).map (fun c => (c.toNat : Int))) (by
            rw [List.length_map, packU_length]; have hp := HP.out; have hl := HL.out; have ho := HO.out; rw [hl]; omega) (fun i hi => by
            have := hown.cellAt i (by rw [Nat.mul_one]; exact hi)
            rw [Nat.zero_add, this, hfin]
            have hlen : i < (packU s.data.toList true).length := by rw [packU_length]; have hp := HP.out; have hl := HL.out; have ho := HO.out; rw [hl]; omega
            simp [u8c, List.getD, List.getElem?_eq_getElem hlen]) 9 Try.underlying9
        rw [strOfNums_bytes] at hconv
        have HP1 : ¬ ((p : Int) + 1 < (s.size : Int)) := by omega
        clear hown hbel hfin
        go_wp2_with fail
        go_ret2
        exact ⟨rfl, HBE.out⟩
set_option maxRecDepth 100000 in
set_option maxHeartbeats 400000 in
theorem pack_on (s : ByteArray) (hs : s.size < 8192) (hn : nibsB s.data.toList = true) (hodd : s.size % 2 = 1) (w : World) :
    Calls Try.prog 10 #[.string s, .bool false] w fun e w' => e = .returned (.tuple #[.string (str (packU s.data.toList false)), .int .i64 0]) ∧ Below w.heap.size w w' := by
  have hm : s.size ≤ maxLen := by unfold maxLen; omega
  obtain ⟨i0, hi0, hz0, hz1, hz2⟩ := info_parts info5
  have hmk := make_bytes 0 ((s.size : Int) / 2 + 1) (by omega) (by omega) (by omega)
  have HN : Hid (nibsB s.data.toList = true) := hn
  have HO : Hid (s.size % 2 = 1) := hodd
  have hlen : s.data.toList.length = s.size := by simp
  have HL : Hid (s.data.toList.length = s.size) := hlen
  have ht1 : ((s.size : Int) % 2 == 1) = true := beq_iff_eq.2 (by omega)
  have hi63 : ((s.size : Int) / 2 + 1).toNat = s.size / 2 + 1 := by omega
  have h0 : 0 < s.size := by omega
  clear hlen hn hodd
  go_enter Try.func10, Try.ntmps10
  go_wp2_with fail
  refine (allHalf_calls s hm _).mono ?_
  rw [HN.out]
  rintro e w1 ⟨rfl, hw⟩
  have hw' := hw.symm
  subst hw'
  clear hm hw
  go_upto_region 15 with fail
  have hown := own_made w w.heap.size (s.size / 2 + 1) (Nat.le_refl _) (by unfold maxLen; omega)
  have hbel := (Below.refl w.heap.size w).alloc (Nat.le_refl _) (.cells (madeCells #[.int .u8 0] (s.size / 2 + 1)) 5)
  generalize hW : w.alloc (.cells (madeCells #[.int .u8 0] (s.size / 2 + 1)) 5) = W1 at *
  generalize hV : Value.slice (some ⟨w.heap.size, 0, none⟩) 0 (s.size / 2 + 1) = V1 at *
  have HOW : Hid (W1.ownsRow w.heap.size 5 1 V1 0 (u8c [])) := hown
  have HBE : Hid (Below w.heap.size w W1) := hbel
  clear hW hV hown hbel hmk hi63
  have hnb := nibsB_true HN.out
  have h0n : (s[0]).toNat < 16 := hnb _ (by rw [← Array.mem_def]; exact Array.getElem_mem (by simpa using h0))
  obtain ⟨B, hB⟩ : ∃ B : UInt8, B = join (UInt8.ofNat 1) s[0] := ⟨_, rfl⟩
  have hv0 : bits .or .u8 16 ((s[0]).toNat : Int) = (B.toNat : Int) := by
    have e := or16 1 (s[0]).toNat (by omega) h0n
    rw [hB, join_nat _ _ (by decide) h0n]; exact e
  have HB : Hid (B = join (UInt8.ofNat 1) s[0]) := hB
  clear hnb h0n hB
  go_wp2_with (at_builtin; refine wpList_append_lies _ rfl (.tmp 30) (.tmp 35) 41 rfl w.heap.size 5 i0 (.int .u8 0) 1 1 Try.underlying41 hi0 hz0 hz1 hz2 rfl (by decide) V1 0 (u8c []) rfl (HOW.out.alloc _) ⟨W1.heap.size, 0, none⟩ 1 1 [.int .u8 (B.toNat : Int)] rfl rfl (cell_one_new _ _ _) ?c2 (by omega) ?c3 ?c4 ?c5 _ rfl ?c6)
  case c2 => intro u hu; simp at hu; subst hu; rfl
  case c3 => unfold maxLen; omega
  case c4 => omega
  case c5 => have := HBE.out.size; simp; omega
  case c6 =>
    intro g1 cap1 W2 hown2 hgrow2 hat2 hlt2
    have hown2 : W2.ownsRow w.heap.size 5 1 (.slice (some ⟨g1, 0, none⟩) (0 + 1) cap1) (0 + 1) (u8c [B]) := hown2
    have hb2 : Below w.heap.size w W2 := (HBE.out.alloc HBE.out.size _).grown hgrow2 (by have := HBE.out.size; simp; omega) (fun k hk => (HOW.out.lt k hk).1)
    have HO2 : Hid (W2.ownsRow w.heap.size 5 1 (.slice (some ⟨g1, 0, none⟩) (0 + 1) cap1) (0 + 1) (u8c [B])) := hown2
    have HB2 : Hid (Below w.heap.size w W2) := hb2
    clear hown2 hgrow2 hat2 hlt2 hb2 HOW HBE hv0
    go_wp2_with fail
    go_loopg [7, 9] (s.size / 2) (fun n r v wr => ∃ j gb cap : Nat, n = s.size / 2 - j ∧ 1 + 2 * j ≤ s.size ∧ r = .int .i64 ((1 + 2 * j : Nat) : Int) ∧ v = .slice (some ⟨gb, 0, none⟩) (j + 1) cap ∧
      wr.ownsRow w.heap.size 5 1 (.slice (some ⟨gb, 0, none⟩) (j + 1) cap) (j + 1) (u8c (B :: pairs ((s.data.toList.drop 1).take (2 * j)))) ∧ Below w.heap.size w wr)
    case atStart => exact ⟨0, g1, cap1, by omega, by omega, rfl, rfl, HO2.out, HB2.out⟩
    case round =>
      obtain ⟨j, gb, cap, hg, hj, rfl, rfl, hown, hbel⟩ := hrel
      have HG : Hid (gk = s.size / 2 - j) := hg
      clear hg HO2 HB2
      obtain ⟨p, hp⟩ : ∃ p : Nat, p = 1 + 2 * j := ⟨_, rfl⟩
      have HP : Hid (p = 1 + 2 * j) := hp
      rw [← hp]
      rw [← hp] at hj
      clear hp
      by_cases hlt : p + 1 < s.size
      · have hnb := nibsB_true HN.out
        have n0 : (s[p]).toNat < 16 := hnb _ (by rw [← Array.mem_def]; exact Array.getElem_mem (by simpa using (by omega : p < s.size)))
        have n1 : (s[p + 1]).toNat < 16 := hnb _ (by rw [← Array.mem_def]; exact Array.getElem_mem (by simpa using hlt))
        have hv : bits .or .u8 (IntKind.u8.wrap (((s[p]).toNat : Int) * 16)) ((s[p + 1]).toNat : Int) = ((join s[p] s[p + 1]).toNat : Int) := by
          rw [or16 _ _ n0 n1, join_nat _ _ n0 n1]
        have HS : Hid (pairs ((s.data.toList.drop 1).take (2 * (j + 1))) = pairs ((s.data.toList.drop 1).take (2 * j)) ++ [join s[p] s[p + 1]]) := by
          have hp := HP.out
          have hll : 2 * j + 1 < (s.data.toList.drop 1).length := by have := HL.out; rw [List.length_drop]; omega
          have e : 2 * (j + 1) = 2 * j + 2 := by omega
          rw [e, take_two _ _ hll, pairs_append _ _ (by rw [List.length_take]; omega)]
          congr 1
          have e0 : (s.data.toList.drop 1)[2 * j] = s[p] := by rw [List.getElem_drop]; subst hp; rfl
          have e1 : (s.data.toList.drop 1)[2 * j + 1] = s[p + 1] := by rw [List.getElem_drop]; subst hp; rfl
          rw [e0, e1]; rfl
        have HOW : Hid (wr.ownsRow w.heap.size 5 1 (.slice (some ⟨gb, 0, none⟩) (j + 1) cap) (j + 1) (u8c (B :: pairs ((s.data.toList.drop 1).take (2 * j))))) := hown
        have HBE : Hid (Below w.heap.size w wr) := hbel
        have hjb : j < 4096 := by have := HP.out; omega
        have hp0 : p < s.size := by omega
        have hp1 : (p : Int) < (s.size : Int) := by omega
        have hp2 : (p : Int) + 1 < (s.size : Int) := by omega
        have hp3 : (0 : Int) ≤ (p : Int) + 1 := by omega
        have iw : IntKind.i64.wrap ((p : Int) + 1) = (p : Int) + 1 := by rw [IntKind.wrap_i64]; omega
        clear hnb n0 n1 hown hbel
        generalize hJ : join s[p] s[p + 1] = J at *
        generalize hks : u8c (B :: pairs ((s.data.toList.drop 1).take (2 * j))) = ks at *
        have HK : Hid (u8c (B :: pairs ((s.data.toList.drop 1).take (2 * j))) = ks) := hks
        clear hks
        go_wp2_with fail
        go_region_law (refine step_append_lies _ rfl (.tmp 44) (.tmp 54) 41 rfl w.heap.size 5 i0 (.int .u8 0) 1 1 Try.underlying41 hi0 hz0 hz1 hz2 rfl (by decide) (.slice (some ⟨gb, 0, none⟩) (j + 1) cap) (j + 1) ks (by simp [Act.eval]) (HOW.out.drew.alloc _) ⟨wr.heap.size, 0, none⟩ 1 1 [.int .u8 (J.toNat : Int)] (by simp [Act.eval]) rfl (cell_one_new _ _ _) (by intro u hu; simp at hu; subst hu; rfl) (by omega) (by unfold maxLen; omega) (by omega) (by have := HBE.out.size; simp; omega) _ rfl ?_; intro g2 cap2 W3 hown3 hgrow3 hat3 hlt3)
        all_goals
          have hb3 : Below w.heap.size w W3 := (HBE.out.drew.alloc HBE.out.size _).grown hgrow3 (by have := HBE.out.size; simp; omega) (fun k hk => (HOW.out.lt k hk).1)
          have HO3 : Hid (W3.ownsRow w.heap.size 5 1 (.slice (some ⟨g2, 0, none⟩) (j + 1 + 1) cap2) (j + 1 + 1) (ks ++ [.int .u8 (J.toNat : Int)])) := hown3
          have HB3 : Hid (Below w.heap.size w W3) := hb3
          clear hown3 hgrow3 hat3 hlt3 hb3
          go_wp2_with fail
          go_roundg (s.size / 2 - (j + 1))
          case measure => have := HG.out; have := HP.out; omega
          case rel =>
            refine ⟨j + 1, g2, cap2, rfl, by have := HP.out; omega, by have := HP.out; rw [show 1 + 2 * (j + 1) = p + 2 by omega]; go_num, rfl, ?_, HB3.out⟩
            have e : u8c (B :: pairs ((s.data.toList.drop 1).take (2 * (j + 1)))) = ks ++ [.int .u8 (J.toNat : Int)] := by
              rw [HS.out, ← HK.out]; simp [u8c]
            rw [e]; exact HO3.out
      · have HBE : Hid (Below w.heap.size w wr) := hbel
        have hfin : B :: pairs ((s.data.toList.drop 1).take (2 * j)) = packU s.data.toList false := by
          have hp := HP.out
          have ho := HO.out
          have hl := HL.out
          unfold packU
          rw [if_pos (by rw [hl]; omega), List.take_of_length_le (by rw [List.length_drop]; omega), HB.out]
          have e : s.data.toList.getD 0 0 = s[0] := by rw [List.getD_eq_getElem?_getD, List.getElem?_eq_getElem (by rw [hl]; exact h0)]; rfl
          rw [e]; rfl
        have hconv := run_convert_bytes_arg (P := Try.prog) wr 41 5 Try.underlying41 Try.underlying5 gb 0 (j + 1) cap ((packU s.data.toList false).map (fun c => (c.toNat : Int))) (by
            rw [List.length_map, packU_length]; have hp := HP.out; have hl := HL.out; have ho := HO.out; rw [hl]; omega) (fun i hi => by
            have := hown.cellAt i (by rw [Nat.mul_one]; exact hi)
            rw [Nat.zero_add, this, hfin]
            have hlen : i < (packU s.data.toList false).length := by rw [packU_length]; have hp := HP.out; have hl := HL.out; have ho := HO.out; rw [hl]; omega
            simp [u8c, List.getD, List.getElem?_eq_getElem hlen]) 9 Try.underlying9
        rw [strOfNums_bytes] at hconv
        have HP1 : ¬ ((p : Int) + 1 < (s.size : Int)) := by omega
        clear hown hbel hfin
        go_wp2_with fail
        go_ret2
        exact ⟨rfl, HBE.out⟩
set_option maxRecDepth 100000 in
set_option maxHeartbeats 400000 in
theorem pack_el (s : ByteArray) (hs : s.size < 8192) (hn : nibsB s.data.toList = true) (hodd : s.size % 2 = 0) (w : World) :
    Calls Try.prog 10 #[.string s, .bool true] w fun e w' => e = .returned (.tuple #[.string (str (packU s.data.toList true)), .int .i64 0]) ∧ Below w.heap.size w w' := by
  have hm : s.size ≤ maxLen := by unfold maxLen; omega
  obtain ⟨i0, hi0, hz0, hz1, hz2⟩ := info_parts info5
  have hmk := make_bytes 0 ((s.size : Int) / 2 + 1) (by omega) (by omega) (by omega)
  have HN : Hid (nibsB s.data.toList = true) := hn
  have HO : Hid (s.size % 2 = 0) := hodd
  have hlen : s.data.toList.length = s.size := by simp
  have HL : Hid (s.data.toList.length = s.size) := hlen
  have ht1 : ((s.size : Int) % 2 == 1) = false := beq_eq_false_iff_ne.2 (by omega)
  have hi63 : ((s.size : Int) / 2 + 1).toNat = s.size / 2 + 1 := by omega
  skip
  clear hlen hn hodd
  go_enter Try.func10, Try.ntmps10
  go_wp2_with fail
  refine (allHalf_calls s hm _).mono ?_
  rw [HN.out]
  rintro e w1 ⟨rfl, hw⟩
  have hw' := hw.symm
  subst hw'
  clear hm hw
  go_upto_region 15 with fail
  have hown := own_made w w.heap.size (s.size / 2 + 1) (Nat.le_refl _) (by unfold maxLen; omega)
  have hbel := (Below.refl w.heap.size w).alloc (Nat.le_refl _) (.cells (madeCells #[.int .u8 0] (s.size / 2 + 1)) 5)
  generalize hW : w.alloc (.cells (madeCells #[.int .u8 0] (s.size / 2 + 1)) 5) = W1 at *
  generalize hV : Value.slice (some ⟨w.heap.size, 0, none⟩) 0 (s.size / 2 + 1) = V1 at *
  have HOW : Hid (W1.ownsRow w.heap.size 5 1 V1 0 (u8c [])) := hown
  have HBE : Hid (Below w.heap.size w W1) := hbel
  clear hW hV hown hbel hmk hi63
  obtain ⟨B, hB⟩ : ∃ B : UInt8, B = join (UInt8.ofNat 2) 0 := ⟨_, rfl⟩
  have HB : Hid (B = join (UInt8.ofNat 2) 0) := hB
  have HBn : Hid (B.toNat = 32) := by rw [hB]; rfl
  clear hB
  go_wp2_with (at_builtin; refine wpList_append_lies _ rfl (.tmp 30) (.tmp 35) 41 rfl w.heap.size 5 i0 (.int .u8 0) 1 1 Try.underlying41 hi0 hz0 hz1 hz2 rfl (by decide) V1 0 (u8c []) rfl (HOW.out.alloc _) ⟨W1.heap.size, 0, none⟩ 1 1 [.int .u8 32] rfl rfl (cell_one_new _ _ _) ?c2 (by omega) ?c3 ?c4 ?c5 _ rfl ?c6)
  case c2 => intro u hu; simp at hu; subst hu; rfl
  case c3 => unfold maxLen; omega
  case c4 => omega
  case c5 => have := HBE.out.size; simp; omega
  case c6 =>
    intro g1 cap1 W2 hown2 hgrow2 hat2 hlt2
    have hown2 : W2.ownsRow w.heap.size 5 1 (.slice (some ⟨g1, 0, none⟩) (0 + 1) cap1) (0 + 1) (u8c [B]) := by
      have e : u8c [B] = u8c [] ++ [Value.int .u8 32] := by simp [u8c, HBn.out]
      rw [e]; exact hown2
    have hb2 : Below w.heap.size w W2 := (HBE.out.alloc HBE.out.size _).grown hgrow2 (by have := HBE.out.size; simp; omega) (fun k hk => (HOW.out.lt k hk).1)
    have HO2 : Hid (W2.ownsRow w.heap.size 5 1 (.slice (some ⟨g1, 0, none⟩) (0 + 1) cap1) (0 + 1) (u8c [B])) := hown2
    have HB2 : Hid (Below w.heap.size w W2) := hb2
    clear hown2 hgrow2 hat2 hlt2 hb2 HOW HBE 
    go_wp2_with fail
    go_loopg [7, 9] (s.size / 2) (fun n r v wr => ∃ j gb cap : Nat, n = s.size / 2 - j ∧ 0 + 2 * j ≤ s.size ∧ r = .int .i64 ((0 + 2 * j : Nat) : Int) ∧ v = .slice (some ⟨gb, 0, none⟩) (j + 1) cap ∧
      wr.ownsRow w.heap.size 5 1 (.slice (some ⟨gb, 0, none⟩) (j + 1) cap) (j + 1) (u8c (B :: pairs (s.data.toList.take (2 * j)))) ∧ Below w.heap.size w wr)
    case atStart => exact ⟨0, g1, cap1, by omega, by omega, rfl, rfl, HO2.out, HB2.out⟩
    case round =>
      obtain ⟨j, gb, cap, hg, hj, rfl, rfl, hown, hbel⟩ := hrel
      have HG : Hid (gk = s.size / 2 - j) := hg
      clear hg HO2 HB2
      obtain ⟨p, hp⟩ : ∃ p : Nat, p = 0 + 2 * j := ⟨_, rfl⟩
      have HP : Hid (p = 0 + 2 * j) := hp
      rw [← hp]
      rw [← hp] at hj
      clear hp
      by_cases hlt : p + 1 < s.size
      · have hnb := nibsB_true HN.out
        have n0 : (s[p]).toNat < 16 := hnb _ (by rw [← Array.mem_def]; exact Array.getElem_mem (by simpa using (by omega : p < s.size)))
        have n1 : (s[p + 1]).toNat < 16 := hnb _ (by rw [← Array.mem_def]; exact Array.getElem_mem (by simpa using hlt))
        have hv : bits .or .u8 (IntKind.u8.wrap (((s[p]).toNat : Int) * 16)) ((s[p + 1]).toNat : Int) = ((join s[p] s[p + 1]).toNat : Int) := by
          rw [or16 _ _ n0 n1, join_nat _ _ n0 n1]
        have HS : Hid (pairs (s.data.toList.take (2 * (j + 1))) = pairs (s.data.toList.take (2 * j)) ++ [join s[p] s[p + 1]]) := by
          have hp := HP.out
          have hll : 2 * j + 1 < s.data.toList.length := by have := HL.out; omega
          have e : 2 * (j + 1) = 2 * j + 2 := by omega
          rw [e, take_two _ _ hll, pairs_append _ _ (by rw [List.length_take]; omega)]
          congr 1
          have e0 : s.data.toList[2 * j] = s[p] := by subst hp; simp only [Nat.zero_add]; rfl
          have e1 : s.data.toList[2 * j + 1] = s[p + 1] := by subst hp; simp only [Nat.zero_add]; rfl
          rw [e0, e1]; rfl
        have HOW : Hid (wr.ownsRow w.heap.size 5 1 (.slice (some ⟨gb, 0, none⟩) (j + 1) cap) (j + 1) (u8c (B :: pairs (s.data.toList.take (2 * j))))) := hown
        have HBE : Hid (Below w.heap.size w wr) := hbel
        have hjb : j < 4096 := by have := HP.out; omega
        have hp0 : p < s.size := by omega
        have hp1 : (p : Int) < (s.size : Int) := by omega
        have hp2 : (p : Int) + 1 < (s.size : Int) := by omega
        have hp3 : (0 : Int) ≤ (p : Int) + 1 := by omega
        have iw : IntKind.i64.wrap ((p : Int) + 1) = (p : Int) + 1 := by rw [IntKind.wrap_i64]; omega
        clear hnb n0 n1 hown hbel
        generalize hJ : join s[p] s[p + 1] = J at *
        generalize hks : u8c (B :: pairs (s.data.toList.take (2 * j))) = ks at *
        have HK : Hid (u8c (B :: pairs (s.data.toList.take (2 * j))) = ks) := hks
        clear hks
        go_wp2_with fail
        go_region_law (refine step_append_lies _ rfl (.tmp 44) (.tmp 54) 41 rfl w.heap.size 5 i0 (.int .u8 0) 1 1 Try.underlying41 hi0 hz0 hz1 hz2 rfl (by decide) (.slice (some ⟨gb, 0, none⟩) (j + 1) cap) (j + 1) ks (by simp [Act.eval]) (HOW.out.drew.alloc _) ⟨wr.heap.size, 0, none⟩ 1 1 [.int .u8 (J.toNat : Int)] (by simp [Act.eval]) rfl (cell_one_new _ _ _) (by intro u hu; simp at hu; subst hu; rfl) (by omega) (by unfold maxLen; omega) (by omega) (by have := HBE.out.size; simp; omega) _ rfl ?_; intro g2 cap2 W3 hown3 hgrow3 hat3 hlt3)
        all_goals
          have hb3 : Below w.heap.size w W3 := (HBE.out.drew.alloc HBE.out.size _).grown hgrow3 (by have := HBE.out.size; simp; omega) (fun k hk => (HOW.out.lt k hk).1)
          have HO3 : Hid (W3.ownsRow w.heap.size 5 1 (.slice (some ⟨g2, 0, none⟩) (j + 1 + 1) cap2) (j + 1 + 1) (ks ++ [.int .u8 (J.toNat : Int)])) := hown3
          have HB3 : Hid (Below w.heap.size w W3) := hb3
          clear hown3 hgrow3 hat3 hlt3 hb3
          go_wp2_with fail
          go_roundg (s.size / 2 - (j + 1))
          case measure => have := HG.out; have := HP.out; omega
          case rel =>
            refine ⟨j + 1, g2, cap2, rfl, by have := HP.out; omega, by have := HP.out; rw [show 0 + 2 * (j + 1) = p + 2 by omega]; go_num, rfl, ?_, HB3.out⟩
            have e : u8c (B :: pairs (s.data.toList.take (2 * (j + 1)))) = ks ++ [.int .u8 (J.toNat : Int)] := by
              rw [HS.out, ← HK.out]; simp [u8c]
            rw [e]; exact HO3.out
      · have HBE : Hid (Below w.heap.size w wr) := hbel
        have hfin : B :: pairs (s.data.toList.take (2 * j)) = packU s.data.toList true := by
          have hp := HP.out
          have ho := HO.out
          have hl := HL.out
          unfold packU
          rw [if_neg (by rw [hl]; omega), List.take_of_length_le (by omega), HB.out]
          skip
          rfl
        have hconv := run_convert_bytes_arg (P := Try.prog) wr 41 5 Try.underlying41 Try.underlying5 gb 0 (j + 1) cap ((packU s.data.toList true).map (fun c => (c.toNat : Int))) (by
            rw [List.length_map, packU_length]; have hp := HP.out; have hl := HL.out; have ho := HO.out; rw [hl]; omega) (fun i hi => by
            have := hown.cellAt i (by rw [Nat.mul_one]; exact hi)
            rw [Nat.zero_add, this, hfin]
            have hlen : i < (packU s.data.toList true).length := by rw [packU_length]; have hp := HP.out; have hl := HL.out; have ho := HO.out; rw [hl]; omega
            simp [u8c, List.getD, List.getElem?_eq_getElem hlen]) 9 Try.underlying9
        rw [strOfNums_bytes] at hconv
        have HP1 : ¬ ((p : Int) + 1 < (s.size : Int)) := by omega
        clear hown hbel hfin
        go_wp2_with fail
        go_ret2
        exact ⟨rfl, HBE.out⟩
set_option maxRecDepth 100000 in
set_option maxHeartbeats 400000 in
theorem pack_en (s : ByteArray) (hs : s.size < 8192) (hn : nibsB s.data.toList = true) (hodd : s.size % 2 = 0) (w : World) :
    Calls Try.prog 10 #[.string s, .bool false] w fun e w' => e = .returned (.tuple #[.string (str (packU s.data.toList false)), .int .i64 0]) ∧ Below w.heap.size w w' := by
  have hm : s.size ≤ maxLen := by unfold maxLen; omega
  obtain ⟨i0, hi0, hz0, hz1, hz2⟩ := info_parts info5
  have hmk := make_bytes 0 ((s.size : Int) / 2 + 1) (by omega) (by omega) (by omega)
  have HN : Hid (nibsB s.data.toList = true) := hn
  have HO : Hid (s.size % 2 = 0) := hodd
  have hlen : s.data.toList.length = s.size := by simp
  have HL : Hid (s.data.toList.length = s.size) := hlen
  have ht1 : ((s.size : Int) % 2 == 1) = false := beq_eq_false_iff_ne.2 (by omega)
  have hi63 : ((s.size : Int) / 2 + 1).toNat = s.size / 2 + 1 := by omega
  skip
  clear hlen hn hodd
  go_enter Try.func10, Try.ntmps10
  go_wp2_with fail
  refine (allHalf_calls s hm _).mono ?_
  rw [HN.out]
  rintro e w1 ⟨rfl, hw⟩
  have hw' := hw.symm
  subst hw'
  clear hm hw
  go_upto_region 15 with fail
  have hown := own_made w w.heap.size (s.size / 2 + 1) (Nat.le_refl _) (by unfold maxLen; omega)
  have hbel := (Below.refl w.heap.size w).alloc (Nat.le_refl _) (.cells (madeCells #[.int .u8 0] (s.size / 2 + 1)) 5)
  generalize hW : w.alloc (.cells (madeCells #[.int .u8 0] (s.size / 2 + 1)) 5) = W1 at *
  generalize hV : Value.slice (some ⟨w.heap.size, 0, none⟩) 0 (s.size / 2 + 1) = V1 at *
  have HOW : Hid (W1.ownsRow w.heap.size 5 1 V1 0 (u8c [])) := hown
  have HBE : Hid (Below w.heap.size w W1) := hbel
  clear hW hV hown hbel hmk hi63
  obtain ⟨B, hB⟩ : ∃ B : UInt8, B = join (UInt8.ofNat 0) 0 := ⟨_, rfl⟩
  have HB : Hid (B = join (UInt8.ofNat 0) 0) := hB
  have HBn : Hid (B.toNat = 0) := by rw [hB]; rfl
  clear hB
  go_wp2_with (at_builtin; refine wpList_append_lies _ rfl (.tmp 30) (.tmp 35) 41 rfl w.heap.size 5 i0 (.int .u8 0) 1 1 Try.underlying41 hi0 hz0 hz1 hz2 rfl (by decide) V1 0 (u8c []) rfl (HOW.out.alloc _) ⟨W1.heap.size, 0, none⟩ 1 1 [.int .u8 0] rfl rfl (cell_one_new _ _ _) ?c2 (by omega) ?c3 ?c4 ?c5 _ rfl ?c6)
  case c2 => intro u hu; simp at hu; subst hu; rfl
  case c3 => unfold maxLen; omega
  case c4 => omega
  case c5 => have := HBE.out.size; simp; omega
  case c6 =>
    intro g1 cap1 W2 hown2 hgrow2 hat2 hlt2
    have hown2 : W2.ownsRow w.heap.size 5 1 (.slice (some ⟨g1, 0, none⟩) (0 + 1) cap1) (0 + 1) (u8c [B]) := by
      have e : u8c [B] = u8c [] ++ [Value.int .u8 0] := by simp [u8c, HBn.out]
      rw [e]; exact hown2
    have hb2 : Below w.heap.size w W2 := (HBE.out.alloc HBE.out.size _).grown hgrow2 (by have := HBE.out.size; simp; omega) (fun k hk => (HOW.out.lt k hk).1)
    have HO2 : Hid (W2.ownsRow w.heap.size 5 1 (.slice (some ⟨g1, 0, none⟩) (0 + 1) cap1) (0 + 1) (u8c [B])) := hown2
    have HB2 : Hid (Below w.heap.size w W2) := hb2
    clear hown2 hgrow2 hat2 hlt2 hb2 HOW HBE 
    go_wp2_with fail
    go_loopg [7, 9] (s.size / 2) (fun n r v wr => ∃ j gb cap : Nat, n = s.size / 2 - j ∧ 0 + 2 * j ≤ s.size ∧ r = .int .i64 ((0 + 2 * j : Nat) : Int) ∧ v = .slice (some ⟨gb, 0, none⟩) (j + 1) cap ∧
      wr.ownsRow w.heap.size 5 1 (.slice (some ⟨gb, 0, none⟩) (j + 1) cap) (j + 1) (u8c (B :: pairs (s.data.toList.take (2 * j)))) ∧ Below w.heap.size w wr)
    case atStart => exact ⟨0, g1, cap1, by omega, by omega, rfl, rfl, HO2.out, HB2.out⟩
    case round =>
      obtain ⟨j, gb, cap, hg, hj, rfl, rfl, hown, hbel⟩ := hrel
      have HG : Hid (gk = s.size / 2 - j) := hg
      clear hg HO2 HB2
      obtain ⟨p, hp⟩ : ∃ p : Nat, p = 0 + 2 * j := ⟨_, rfl⟩
      have HP : Hid (p = 0 + 2 * j) := hp
      rw [← hp]
      rw [← hp] at hj
      clear hp
      by_cases hlt : p + 1 < s.size
      · have hnb := nibsB_true HN.out
        have n0 : (s[p]).toNat < 16 := hnb _ (by rw [← Array.mem_def]; exact Array.getElem_mem (by simpa using (by omega : p < s.size)))
        have n1 : (s[p + 1]).toNat < 16 := hnb _ (by rw [← Array.mem_def]; exact Array.getElem_mem (by simpa using hlt))
        have hv : bits .or .u8 (IntKind.u8.wrap (((s[p]).toNat : Int) * 16)) ((s[p + 1]).toNat : Int) = ((join s[p] s[p + 1]).toNat : Int) := by
          rw [or16 _ _ n0 n1, join_nat _ _ n0 n1]
        have HS : Hid (pairs (s.data.toList.take (2 * (j + 1))) = pairs (s.data.toList.take (2 * j)) ++ [join s[p] s[p + 1]]) := by
          have hp := HP.out
          have hll : 2 * j + 1 < s.data.toList.length := by have := HL.out; omega
          have e : 2 * (j + 1) = 2 * j + 2 := by omega
          rw [e, take_two _ _ hll, pairs_append _ _ (by rw [List.length_take]; omega)]
          congr 1
          have e0 : s.data.toList[2 * j] = s[p] := by subst hp; simp only [Nat.zero_add]; rfl
          have e1 : s.data.toList[2 * j + 1] = s[p + 1] := by subst hp; simp only [Nat.zero_add]; rfl
          rw [e0, e1]; rfl
        have HOW : Hid (wr.ownsRow w.heap.size 5 1 (.slice (some ⟨gb, 0, none⟩) (j + 1) cap) (j + 1) (u8c (B :: pairs (s.data.toList.take (2 * j))))) := hown
        have HBE : Hid (Below w.heap.size w wr) := hbel
        have hjb : j < 4096 := by have := HP.out; omega
        have hp0 : p < s.size := by omega
        have hp1 : (p : Int) < (s.size : Int) := by omega
        have hp2 : (p : Int) + 1 < (s.size : Int) := by omega
        have hp3 : (0 : Int) ≤ (p : Int) + 1 := by omega
        have iw : IntKind.i64.wrap ((p : Int) + 1) = (p : Int) + 1 := by rw [IntKind.wrap_i64]; omega
        clear hnb n0 n1 hown hbel
        generalize hJ : join s[p] s[p + 1] = J at *
        generalize hks : u8c (B :: pairs (s.data.toList.take (2 * j))) = ks at *
        have HK : Hid (u8c (B :: pairs (s.data.toList.take (2 * j))) = ks) := hks
        clear hks
        go_wp2_with fail
        go_region_law (refine step_append_lies _ rfl (.tmp 44) (.tmp 54) 41 rfl w.heap.size 5 i0 (.int .u8 0) 1 1 Try.underlying41 hi0 hz0 hz1 hz2 rfl (by decide) (.slice (some ⟨gb, 0, none⟩) (j + 1) cap) (j + 1) ks (by simp [Act.eval]) (HOW.out.drew.alloc _) ⟨wr.heap.size, 0, none⟩ 1 1 [.int .u8 (J.toNat : Int)] (by simp [Act.eval]) rfl (cell_one_new _ _ _) (by intro u hu; simp at hu; subst hu; rfl) (by omega) (by unfold maxLen; omega) (by omega) (by have := HBE.out.size; simp; omega) _ rfl ?_; intro g2 cap2 W3 hown3 hgrow3 hat3 hlt3)
        all_goals
          have hb3 : Below w.heap.size w W3 := (HBE.out.drew.alloc HBE.out.size _).grown hgrow3 (by have := HBE.out.size; simp; omega) (fun k hk => (HOW.out.lt k hk).1)
          have HO3 : Hid (W3.ownsRow w.heap.size 5 1 (.slice (some ⟨g2, 0, none⟩) (j + 1 + 1) cap2) (j + 1 + 1) (ks ++ [.int .u8 (J.toNat : Int)])) := hown3
          have HB3 : Hid (Below w.heap.size w W3) := hb3
          clear hown3 hgrow3 hat3 hlt3 hb3
          go_wp2_with fail
          go_roundg (s.size / 2 - (j + 1))
          case measure => have := HG.out; have := HP.out; omega
          case rel =>
            refine ⟨j + 1, g2, cap2, rfl, by have := HP.out; omega, by have := HP.out; rw [show 0 + 2 * (j + 1) = p + 2 by omega]; go_num, rfl, ?_, HB3.out⟩
            have e : u8c (B :: pairs (s.data.toList.take (2 * (j + 1)))) = ks ++ [.int .u8 (J.toNat : Int)] := by
              rw [HS.out, ← HK.out]; simp [u8c]
            rw [e]; exact HO3.out
      · have HBE : Hid (Below w.heap.size w wr) := hbel
        have hfin : B :: pairs (s.data.toList.take (2 * j)) = packU s.data.toList false := by
          have hp := HP.out
          have ho := HO.out
          have hl := HL.out
          unfold packU
          rw [if_neg (by rw [hl]; omega), List.take_of_length_le (by omega), HB.out]
          skip
          rfl
        have hconv := run_convert_bytes_arg (P := Try.prog) wr 41 5 Try.underlying41 Try.underlying5 gb 0 (j + 1) cap ((packU s.data.toList false).map (fun c => (c.toNat : Int))) (by
            rw [List.length_map, packU_length]; have hp := HP.out; have hl := HL.out; have ho := HO.out; rw [hl]; omega) (fun i hi => by
            have := hown.cellAt i (by rw [Nat.mul_one]; exact hi)
            rw [Nat.zero_add, this, hfin]
            have hlen : i < (packU s.data.toList false).length := by rw [packU_length]; have hp := HP.out; have hl := HL.out; have ho := HO.out; rw [hl]; omega
            simp [u8c, List.getD, List.getElem?_eq_getElem hlen]) 9 Try.underlying9
        rw [strOfNums_bytes] at hconv
        have HP1 : ¬ ((p : Int) + 1 < (s.size : Int)) := by omega
        clear hown hbel hfin
        go_wp2_with fail
        go_ret2
        exact ⟨rfl, HBE.out⟩

theorem pack_calls (s : ByteArray) (leaf : Bool) (hs : s.size < 8192) (hn : Nibs s.data.toList) (w : World) :
    Calls Try.prog 10 #[.string s, .bool leaf] w fun e w' => e = .returned (.tuple #[.string (str (packU s.data.toList leaf)), .int .i64 0]) ∧ Below w.heap.size w w' := by
  have h := nibsB_of hn
  by_cases ho : s.size % 2 = 1
  · cases leaf
    · exact pack_on s hs h ho w
    · exact pack_ol s hs h ho w
  · have he : s.size % 2 = 0 := by omega
    cases leaf
    · exact pack_en s hs h he w
    · exact pack_el s hs h he w
end Go.Proofs.Ytenmjjpkbcogbaa
