import Derived.Test.YtenmjjpkbcogbaaDoorZb
import Derived.Test.YtenmjjpkbcogbaaDoorZa
import Derived.Test.YtenmjjpkbcogbaaDoorTb
import Derived.Test.YtenmjjpkbcogbaaDoorTe

/- KnA -/
namespace Go.Proofs.YtenmjjpkbcogbaaDoor
open Go.RowKit

def Hexy (c : UInt8) : Prop := (48 ≤ c.toNat ∧ c.toNat ≤ 57) ∨ (97 ≤ c.toNat ∧ c.toNat ≤ 102)
def digV (c : UInt8) : UInt8 := if 97 ≤ c.toNat then UInt8.ofNat (c.toNat - 87) else UInt8.ofNat (c.toNat - 48)
theorem digV_nat (c : UInt8) (h : Hexy c) : (digV c).toNat = if 97 ≤ c.toNat then c.toNat - 87 else c.toNat - 48 := by
  unfold digV
  rcases h with h | h
  · rw [if_neg (by omega), if_neg (by omega), UInt8.toNat_ofNat']; omega
  · rw [if_pos h.1, if_pos h.1, UInt8.toNat_ofNat']; omega
theorem digV_lt (c : UInt8) (h : Hexy c) : (digV c).toNat < 16 := by
  rw [digV_nat c h]
  rcases h with h | h
  · rw [if_neg (by omega)]; omega
  · rw [if_pos h.1]; omega

theorem digit_calls (c : UInt8) (h : Hexy c) (w : World) : Calls Tryd.prog 31 #[.int .u8 (c.toNat : Int)] w fun e w' => e = .returned (.int .u8 ((digV c).toNat : Int)) ∧ w' = w := by
  have hd := digV_nat c h
  obtain ⟨d, hD⟩ : ∃ d, d = (digV c).toNat := ⟨_, rfl⟩
  rw [← hD] at hd ⊢
  have HD : Hid (d = if 97 ≤ c.toNat then c.toNat - 87 else c.toNat - 48) := hd
  clear hd hD
  unfold Hexy at h
  generalize c.toNat = n at *
  rcases h with h | h
  · have h1 : ¬ (97 : Int) ≤ (n : Int) := by omega
    have HE : Hid ((d : Int) = (n : Int) - 48) := by have := HD.out; rw [if_neg (by omega)] at this; show _ = _; omega
    have w1 : IntKind.u8.wrap ((n : Int) - 48) = (n : Int) - 48 := by rw [IntKind.wrap_u8]; omega
    go_enter Tryd.func31, Tryd.ntmps31
    go_wp2_with fail
    go_ret
    refine ⟨?_, rfl⟩
    rw [HE.out]; rfl
  · have h1 : (97 : Int) ≤ (n : Int) := by omega
    have HE : Hid ((d : Int) = (n : Int) - 87) := by have := HD.out; rw [if_pos h.1] at this; show _ = _; omega
    go_enter Tryd.func31, Tryd.ntmps31
    go_wp2_with fail
    go_ret
    refine ⟨?_, rfl⟩
    rw [HE.out]
    show Ending.returned (Value.int .u8 ((n : Int) - 97 + 10)) = _
    congr 2
    omega

/-- The bytes that pairs of digits name. -/
def hexL (l : List UInt8) : List UInt8 := pairs (l.map digV)

set_option maxRecDepth 100000 in
set_option maxHeartbeats 400000 in
theorem bytes_calls (s : ByteArray) (n : Nat) (hs : s.size = 2 * n) (hn : n ≤ 1000) (hx : ∀ c ∈ s.data.toList, Hexy c) (w : World) :
    Calls Tryd.prog 20 #[.string s] w fun e w' => e = .returned (.string (str (hexL s.data.toList))) ∧ Below w.heap.size w w' := by
  obtain ⟨i0, hi0, hz0, hz1, hz2⟩ := info_parts info5
  have hmk := make_bytes 0 (n : Int) (by omega) (by omega) (by omega)
  have hdv : (s.size : Int) / 2 = (n : Int) := by omega
  have HL : Hid (s.data.toList.length = 2 * n) := by show _ = _; rw [← hs]; simp
  have HSZ : Hid (s.size = 2 * n) := hs
  clear hs
  go_enter Tryd.func20, Tryd.ntmps20
  go_upto_region 2 with fail
  have hown := own_made w w.heap.size n (Nat.le_refl _) (by unfold maxLen; omega)
  have hbel := (Below.refl w.heap.size w).alloc (Nat.le_refl _) (.cells (madeCells #[.int .u8 0] n) 5)
  generalize hW : w.alloc (.cells (madeCells #[.int .u8 0] n) 5) = W1 at *
  obtain ⟨g1, hg1⟩ : ∃ g1, g1 = w.heap.size := ⟨_, rfl⟩
  have HO2 : Hid (W1.ownsRow w.heap.size 5 1 (.slice (some ⟨g1, 0, none⟩) 0 n) 0 (u8c [])) := by rw [hg1]; exact hown
  have HB2 : Hid (Below w.heap.size w W1) := hbel
  rw [← hg1]
  clear hW hown hbel hmk hg1 hdv
  go_wp2_with fail
  go_loopg [3, 4] n (fun g v r wr => ∃ j gb cap : Nat, g = n - j ∧ j ≤ n ∧ r = .int .i64 ((2 * j : Nat) : Int) ∧ v = .slice (some ⟨gb, 0, none⟩) j cap ∧
      wr.ownsRow w.heap.size 5 1 (.slice (some ⟨gb, 0, none⟩) j cap) j (u8c (hexL (s.data.toList.take (2 * j)))) ∧ Below w.heap.size w wr)
  case atStart => exact ⟨0, g1, n, rfl, by omega, rfl, rfl, HO2.out, HB2.out⟩
  case round =>
    obtain ⟨j, gb, cap, hg, hj, rfl, rfl, hown, hbel⟩ := hrel
    have HG : Hid (gk = n - j) := hg
    clear hg HO2 HB2
    obtain ⟨p, hp⟩ : ∃ p : Nat, p = 2 * j := ⟨_, rfl⟩
    have HP : Hid (p = 2 * j) := hp
    rw [← hp]
    rw [← hp] at hown
    by_cases hlt : j < n
    · have hs0 : p < s.size := by rw [HSZ.out]; omega
      have hs1 : p + 1 < s.size := by rw [HSZ.out]; omega
      have hs0I : (p : Int) < (s.size : Int) := by omega
      have hpb : p < 2001 := by omega
      have hs1I : (p : Int) + 1 < (s.size : Int) := by omega
      have m0 : s[p] ∈ s.data.toList := by rw [← Array.mem_def]; exact Array.getElem_mem (by simpa using hs0)
      have m1 : s[p + 1] ∈ s.data.toList := by rw [← Array.mem_def]; exact Array.getElem_mem (by simpa using hs1)
      have x0 := hx _ m0
      have x1 := hx _ m1
      have HU : Hid (∀ W, Calls Tryd.prog 31 #[.int .u8 ((s[p]).toNat : Int)] W fun e w' => e = .returned (.int .u8 ((digV s[p]).toNat : Int)) ∧ w' = W) := digit_calls _ x0
      have HV : Hid (∀ W, Calls Tryd.prog 31 #[.int .u8 ((s[p + 1]).toNat : Int)] W fun e w' => e = .returned (.int .u8 ((digV s[p + 1]).toNat : Int)) ∧ w' = W) := digit_calls _ x1
      have lu := digV_lt _ x0
      have lv := digV_lt _ x1
      have HOW : Hid (wr.ownsRow w.heap.size 5 1 (.slice (some ⟨gb, 0, none⟩) j cap) j (u8c (hexL (s.data.toList.take p)))) := hown
      have HBE : Hid (Below w.heap.size w wr) := hbel
      have HS : Hid (hexL (s.data.toList.take (p + 2)) = hexL (s.data.toList.take p) ++ [join (digV s[p]) (digV s[p + 1])]) := by
        have l0 : p < s.data.toList.length := by simpa using hs0
        have l1 : p + 1 < s.data.toList.length := by simpa using hs1
        show _ = _
        unfold hexL
        rw [show p + 2 = p + 1 + 1 by omega, List.take_succ_eq_append_getElem l1, List.take_succ_eq_append_getElem l0, List.map_append, List.map_append, List.append_assoc, pairs_append _ _ (by rw [List.length_map, List.length_take]; have := HP.out; omega)]
        rfl
      have hr1 : IntKind.i64.wrap ((p : Int) + 1) = (p : Int) + 1 := by rw [IntKind.wrap_i64]; have := HSZ.out; omega
      have hr2 : ((p : Int) + 1).toNat = p + 1 := by omega
      have hor : bits .or .u8 (((digV s[p]).toNat : Int) * 16) ((digV s[p + 1]).toNat : Int) = ((join (digV s[p]) (digV s[p + 1])).toNat : Int) := by
        rw [join_nat _ _ lu lv]
        generalize (digV s[p]).toNat = a at lu ⊢
        generalize (digV s[p + 1]).toNat = b at lv ⊢
        have := u8_or_nat (a * 16) b (by omega) (by omega)
        have e := Nat.two_pow_add_eq_or_of_lt (i := 4) (b := b) (by omega) a
        have e2 : a * 16 ||| b = 16 * a + b := by rw [Nat.mul_comm a 16]; exact e.symm
        rw [e2] at this
        simpa using this
      clear hown hbel hp m0 m1 x0 x1 hx
      generalize digV s[p] = cu at *
      generalize digV s[p + 1] = cv at *
      generalize hJ : join cu cv = cj at *
      go_wp2_with fail
      refine (HU.out _).mono ?_
      rintro e w1 ⟨rfl, rfl⟩
      go_wp2_with fail
      refine (HV.out _).mono ?_
      rintro e w1 ⟨rfl, rfl⟩
      generalize hks : u8c (hexL (s.data.toList.take p)) = ks at *
      have HK : Hid (u8c (hexL (s.data.toList.take p)) = ks) := hks
      clear hks hJ HU HV
      go_wp2_with (at_builtin; refine wpList_append_lies _ rfl (.tmp 27) (.tmp 32) 54 rfl w.heap.size 5 i0 (.int .u8 0) 1 1 Tryd.underlying54 hi0 hz0 hz1 hz2 rfl (by decide) (.slice (some ⟨gb, 0, none⟩) j cap) j ks rfl (HOW.out.alloc _) ⟨w1.heap.size, 0, none⟩ 1 1 [.int .u8 (cj.toNat : Int)] rfl rfl (cell_one_new _ _ _) ?c2 (by omega) ?c3 ?c4 ?c5 _ rfl ?c6)
      case c2 => intro u hu; simp at hu; subst hu; rfl
      case c3 => unfold maxLen; omega
      case c4 => omega
      case c5 => have := HBE.out.size; simp; omega
      intro g2 cap2 W3 hown3 hgrow3 hat3 hlt3
      have HB3 : Hid (Below w.heap.size w W3) := (HBE.out.alloc HBE.out.size _).grown hgrow3 (by have := HBE.out.size; simp; omega) (fun k hk => (HOW.out.lt k hk).1)
      have HO3 : Hid (W3.ownsRow w.heap.size 5 1 (.slice (some ⟨g2, 0, none⟩) (j + 1) cap2) (j + 1) (ks ++ [.int .u8 (cj.toNat : Int)])) := hown3
      clear hown3 hgrow3 hat3 hlt3 HOW HBE
      go_wp2_with fail
      go_roundg (n - (j + 1))
      case measure => have := HG.out; omega
      case rel =>
        have hP := HP.out
        refine ⟨j + 1, g2, cap2, rfl, by omega, by rw [show 2 * (j + 1) = p + 2 by omega]; go_num, rfl, ?_, HB3.out⟩
        have e : u8c (hexL (s.data.toList.take (2 * (j + 1)))) = ks ++ [.int .u8 (cj.toNat : Int)] := by
          rw [show 2 * (j + 1) = p + 2 by omega, HS.out, ← HK.out]; simp [u8c]
        rw [e]; exact HO3.out
    · have hjn : j = n := by omega
      have HBE : Hid (Below w.heap.size w wr) := hbel
      have hlast : ¬ ((p : Int) + 1 < (s.size : Int)) := by have := HSZ.out; omega
      have hr1 : IntKind.i64.wrap ((p : Int) + 1) = (p : Int) + 1 := by rw [IntKind.wrap_i64]; have := HSZ.out; omega
      have hfin : hexL (s.data.toList.take p) = hexL s.data.toList := by
        rw [List.take_of_length_le (by have := HL.out; omega)]
      have hlenP : (hexL s.data.toList).length = j := by
        unfold hexL
        rw [pairs_length, List.length_map, HL.out]; omega
      have hconv := run_convert_bytes_arg (P := Tryd.prog) wr 54 5 Tryd.underlying54 Tryd.underlying5 gb 0 j cap ((hexL s.data.toList).map (fun c => (c.toNat : Int))) (by
          rw [List.length_map, hlenP]) (fun i hi' => by
          have := hown.cellAt i (by rw [Nat.mul_one]; exact hi')
          rw [Nat.zero_add, this, hfin]
          have hlen' : i < (hexL s.data.toList).length := by rw [hlenP]; exact hi'
          simp [u8c, List.getD, List.getElem?_eq_getElem hlen']) 9 Tryd.underlying9
      rw [strOfNums_bytes] at hconv
      clear hown hbel hfin hlenP hjn hp hx
      go_wp2_with fail
      go_ret
      exact ⟨rfl, HBE.out⟩
end Go.Proofs.YtenmjjpkbcogbaaDoor

/- KnB -/
namespace Go.Proofs.YtenmjjpkbcogbaaDoor
open Go.RowKit

/-- Digits, two for each of n bytes. -/
structure HexOf (hex : ByteArray) (n : Nat) : Prop where
  size : hex.size = 2 * n
  few : n ≤ 1000
  hexy : ∀ c ∈ hex.data.toList, Hexy c

theorem sum_true (s hex : ByteArray) (n : Nat) (hs : s.size ≤ 4096) (H : HexOf hex n) (he : hashF s = str (hexL hex.data.toList)) (w : World) (T : Tabs w) :
    Calls Tryd.prog 9 #[.string s, .string hex] w fun e w' => e = .returned (.bool true) ∧ Below w.heap.size w w' := by
  have HS : Hid (Calls Tryd.prog 14 #[.string s] w fun e w' => e = .returned (.string (str (hexL hex.data.toList))) ∧ Below w.heap.size w w') := by
    have := sum_calls s (by unfold maxLen; omega) w T
    rw [he] at this; exact this
  have HB : Hid (∀ W : World, Calls Tryd.prog 20 #[.string hex] W fun e w' => e = .returned (.string (str (hexL hex.data.toList))) ∧ Below W.heap.size W w') := bytes_calls hex n H.size H.few H.hexy
  clear he T H hs
  generalize str (hexL hex.data.toList) = R at *
  have hr : (R.toList == R.toList) = true := by simp
  go_enter Tryd.func9, Tryd.ntmps9
  go_wp2_with fail
  refine HS.out.mono ?_
  rintro e w1 ⟨rfl, hb1⟩
  have HB1 : Hid (Below w.heap.size w w1) := hb1
  clear hb1 HS
  go_wp2_with fail
  refine (HB.out _).mono ?_
  rintro e w2 ⟨rfl, hb2⟩
  have HB2 : Hid (Below w.heap.size w w2) := HB1.out.trans (hb2.mono HB1.out.size)
  clear hb2 HB1 HB
  go_wp2_with fail
  go_ret
  exact ⟨rfl, HB2.out⟩

theorem coding_true (s hex : ByteArray) (n : Nat) (hs : s.size ≤ 4096) (H : HexOf hex n) (he : encOut (textT s.data.toList) = str (hexL hex.data.toList)) (h0 : encErr (textT s.data.toList) = 0) (w : World) :
    Calls Tryd.prog 11 #[.string s, .string hex] w fun e w' => e = .returned (.bool true) ∧ Below w.heap.size w w' := by
  have HE : Hid (∀ W : World, Calls Tryd.prog 26 #[.agg #[.bool false, .string s, .slice none 0 0]] W fun e w' => e = .returned (.tuple #[.string (str (hexL hex.data.toList)), .int .i64 0]) ∧ Below W.heap.size W w') := fun W => by
    have := encode_calls W (fun _ => False) _ _ _ _ (item_text 6 W (fun _ => False) s (.slice none 0 0) (by omega))
    rw [he, h0] at this; exact this
  have HB : Hid (∀ W : World, Calls Tryd.prog 20 #[.string hex] W fun e w' => e = .returned (.string (str (hexL hex.data.toList))) ∧ Below W.heap.size W w') := bytes_calls hex n H.size H.few H.hexy
  clear he H hs h0
  generalize str (hexL hex.data.toList) = R at *
  have hr : (R.toList == R.toList) = true := by simp
  go_enter Tryd.func11, Tryd.ntmps11
  go_wp2_with fail
  refine (HE.out _).mono ?_
  rintro e w1 ⟨rfl, hb1⟩
  have HB1 : Hid (Below w.heap.size w w1) := hb1
  clear hb1 HE
  go_wp2_with fail
  refine (HB.out _).mono ?_
  rintro e w2 ⟨rfl, hb2⟩
  have HB2 : Hid (Below w.heap.size w w2) := HB1.out.trans (hb2.mono HB1.out.size)
  clear hb2 HB1 HB
  go_wp2_with fail
  go_ret
  exact ⟨rfl, HB2.out⟩

theorem packing_true (p hex : ByteArray) (leaf : Bool) (n : Nat) (hs : p.size < 8192) (hn : Nibs p.data.toList) (H : HexOf hex n) (he : packU p.data.toList leaf = hexL hex.data.toList) (w : World) :
    Calls Tryd.prog 13 #[.string p, .bool leaf, .string hex] w fun e w' => e = .returned (.bool true) ∧ Below w.heap.size w w' := by
  have HE : Hid (∀ W : World, Calls Tryd.prog 27 #[.string p, .bool leaf] W fun e w' => e = .returned (.tuple #[.string (str (hexL hex.data.toList)), .int .i64 0]) ∧ Below W.heap.size W w') := fun W => by
    have := pack_calls p leaf hs hn W
    rw [he] at this; exact this
  have HB : Hid (∀ W : World, Calls Tryd.prog 20 #[.string hex] W fun e w' => e = .returned (.string (str (hexL hex.data.toList))) ∧ Below W.heap.size W w') := bytes_calls hex n H.size H.few H.hexy
  clear he H hs hn
  generalize str (hexL hex.data.toList) = R at *
  have hr : (R.toList == R.toList) = true := by simp
  go_enter Tryd.func13, Tryd.ntmps13
  go_wp2_with fail
  refine (HE.out _).mono ?_
  rintro e w1 ⟨rfl, hb1⟩
  have HB1 : Hid (Below w.heap.size w w1) := hb1
  clear hb1 HE
  go_wp2_with fail
  refine (HB.out _).mono ?_
  rintro e w2 ⟨rfl, hb2⟩
  have HB2 : Hid (Below w.heap.size w w2) := HB1.out.trans (hb2.mono HB1.out.size)
  clear hb2 HB1 HB
  go_wp2_with fail
  go_ret
  exact ⟨rfl, HB2.out⟩

theorem make_two (w : World) : (Instr.makeSlice 45 (.int .i64 2) (.int .i64 2)).run Tryd.prog w = .ok (.slice (some ⟨w.heap.size, 0, none⟩) 2 2) (w.alloc (.cells #[.bool false, .string ⟨#[]⟩, .slice none 0 0, .bool false, .string ⟨#[]⟩, .slice none 0 0] 47)) := by
  obtain ⟨i0, hi, hz0, hz1, hz2⟩ := info_parts info25
  have := run_make (P := Tryd.prog) w 45 47 i0 _ Tryd.underlying45 hi hz0 .i64 .i64 2 2 (by omega) (by omega) (by rw [hz2]; omega) (by omega)
  rw [hz1] at this
  have e : madeCells (Value.agg #[.bool false, .string ⟨#[]⟩, .slice none 0 0]).cells (Int.toNat 2 * 3) = #[.bool false, .string ⟨#[]⟩, .slice none 0 0, .bool false, .string ⟨#[]⟩, .slice none 0 0] := by
    apply Array.ext_getElem?
    intro j
    match j with
    | 0 => simp [madeCells, Value.cells]
    | 1 => simp [madeCells, Value.cells]
    | 2 => simp [madeCells, Value.cells]
    | 3 => simp [madeCells, Value.cells]
    | 4 => simp [madeCells, Value.cells]
    | 5 => simp [madeCells, Value.cells]
    | j + 6 => rw [Array.getElem?_eq_none (by rw [size_madeCells]; show 6 ≤ j + 6; omega), Array.getElem?_eq_none (by simp)]
  rw [e] at this
  exact this

set_option maxRecDepth 100000 in
set_option maxHeartbeats 400000 in
theorem listed_true (s t hex : ByteArray) (n : Nat) (hs : s.size ≤ 4096) (ht : t.size ≤ 4096) (H : HexOf hex n) (he : encOut (listT [textT s.data.toList, textT t.data.toList]) = str (hexL hex.data.toList)) (h0 : encErr (listT [textT s.data.toList, textT t.data.toList]) = 0) (w : World) :
    Calls Tryd.prog 12 #[.string s, .string t, .string hex] w fun e w' => e = .returned (.bool true) ∧ Below w.heap.size w w' := by
  have HE : Hid (∀ (W : World) (g : Nat), W.heap[g]? = some (.cells #[.bool false, .string s, .slice none 0 0, .bool false, .string t, .slice none 0 0] 47 (0, 0)) → Calls Tryd.prog 26 #[.agg #[.bool true, .string ⟨#[]⟩, .slice (some ⟨g, 0, none⟩) 2 2]] W fun e w' => e = .returned (.tuple #[.string (str (hexL hex.data.toList)), .int .i64 0]) ∧ Below W.heap.size W w') := fun W g hg => by
    have := encode_calls W (fun _ => True) _ _ _ _ (pair_item 5 W (fun _ => True) g _ _ _ _ _ _ 47 (0, 0) _ _ ⟨#[]⟩ hg trivial (item_text 5 W _ s (.slice none 0 0) (by omega)) (item_text 5 W _ t (.slice none 0 0) (by omega)))
    rw [he, h0] at this; exact this
  have HB : Hid (∀ W : World, Calls Tryd.prog 20 #[.string hex] W fun e w' => e = .returned (.string (str (hexL hex.data.toList))) ∧ Below W.heap.size W w') := bytes_calls hex n H.size H.few H.hexy
  have hmk := make_two
  clear he H hs ht h0
  generalize str (hexL hex.data.toList) = R at *
  have hr : (R.toList == R.toList) = true := by simp
  go_enter Tryd.func12, Tryd.ntmps12
  go_wp2_with fail
  refine (HE.out _ _ (heap_alloc_new _ _)).mono ?_
  rintro e w1 ⟨rfl, hb1⟩
  have HB1 : Hid (Below w.heap.size w w1) := ((Below.refl w.heap.size w).alloc (Nat.le_refl _) _).trans (hb1.mono (by simp))
  clear hb1 HE
  go_wp2_with fail
  refine (HB.out _).mono ?_
  rintro e w2 ⟨rfl, hb2⟩
  have HB2 : Hid (Below w.heap.size w w2) := HB1.out.trans (hb2.mono HB1.out.size)
  clear hb2 HB1 HB
  go_wp2_with fail
  go_ret
  exact ⟨rfl, HB2.out⟩
end Go.Proofs.YtenmjjpkbcogbaaDoor

/- KnC -/
namespace Go.Proofs.YtenmjjpkbcogbaaDoor
open Go.RowKit

set_option maxRecDepth 100000 in
set_option maxHeartbeats 1000000 in
theorem newStore_calls (w : World) : Calls Tryd.prog 21 #[] w fun e w' => e = .returned (.pointer (some ⟨w.heap.size, 0, none⟩)) ∧ Below w.heap.size w w' := by
  go_enter Tryd.func21, Tryd.ntmps21
  go_wp2_with fail
  go_ret
  exact ⟨rfl, (Below.refl _ _).alloc (Nat.le_refl _) _⟩

theorem emptyRoot_calls (w : World) (T : Tabs w) : Calls Tryd.prog 22 #[] w fun e w' => e = .returned (.string (str emptyR)) ∧ Below w.heap.size w w' := by
  have HS : Hid (Calls Tryd.prog 14 #[.string ⟨#[128]⟩] w fun e w' => e = .returned (.string (str emptyR)) ∧ Below w.heap.size w w') := by
    have := sum_calls ⟨#[128]⟩ (by decide) w T
    show Calls Tryd.prog 14 _ w _
    unfold emptyR
    rw [str_hashL]; exact this
  clear T
  generalize str emptyR = R at *
  go_enter Tryd.func22, Tryd.ntmps22
  go_wp2_with fail
  refine HS.out.mono ?_
  rintro e w1 ⟨rfl, hb⟩
  have HB : Hid (Below w.heap.size w w1) := hb
  clear hb HS
  go_wp2_with fail
  go_ret
  exact ⟨rfl, HB.out⟩

/-- The map behind the first i puts. -/
def treeTo (ps : List (ByteArray × ByteArray)) (i : Nat) : Nd := (ps.take i).foldl (fun t p => withP t (keyP p.1) p.2.data.toList) .nil
theorem treeTo_succ (ps : List (ByteArray × ByteArray)) (i : Nat) (h : i < ps.length) : treeTo ps (i + 1) = withP (treeTo ps i) (keyP (ps[i]).1) (ps[i]).2.data.toList := by
  unfold treeTo
  rw [List.take_succ_eq_append_getElem h, List.foldl_append]; rfl
/-- The pairs lie in a slice's cells. -/
structure PairsAt (w : World) (v : Value) (ps : List (ByteArray × ByteArray)) : Prop where
  lie : (ps.length = 0 ∧ v = .slice none 0 0) ∨ ∃ g cap, v = .slice (some ⟨g, 0, none⟩) ps.length cap ∧ g < w.heap.size ∧ ∀ i (h : i < ps.length), w.cell? ⟨g, i * 2, none⟩ = some (.string (ps[i]).1) ∧ w.cell? ⟨g, i * 2 + 1, none⟩ = some (.string (ps[i]).2)
structure PairsOk (ps : List (ByteArray × ByteArray)) : Prop where
  few : ps.length ≤ 100
  key : ∀ i (h : i < ps.length), (ps[i]).1.size ≤ 40
  val : ∀ i (h : i < ps.length), (ps[i]).2.size ≤ 160
  pos : ∀ i (h : i < ps.length), 0 < (ps[i]).2.size
  opened : ∀ i (h : i < ps.length), Opened (treeTo ps i) (keyP (ps[i]).1)
theorem topP_empty : topP emptyR = .nil := by unfold topP; rw [if_pos rfl]
theorem emptyR_len : emptyR.length = 32 := hashL_length _
end Go.Proofs.YtenmjjpkbcogbaaDoor

/- KnD -/
namespace Go.Proofs.YtenmjjpkbcogbaaDoor
open Go.RowKit

theorem open_empty (w : World) (st : Option Addr) (T : Tabs w) :
    Calls Tryd.prog 23 #[.pointer st, .string (str emptyR)] w fun e w' => ∃ tb, e = .returned (.tuple #[.pointer (some ⟨tb, 0, none⟩), .int .i64 0]) ∧ w.heap.size ≤ tb ∧ TrieAt w' tb st none ∧ Below w.heap.size w w' := by
  refine (Open_calls w st emptyR emptyR_len T).mono ?_
  rw [topP_empty]
  rintro e w' ⟨tb, u, h1, h2, h3, h4, h5⟩
  have hu : Value.pointer u = .pointer none := h4
  cases hu
  exact ⟨tb, h1, h2, h3, h5⟩

set_option maxRecDepth 100000 in
set_option maxHeartbeats 400000 in
theorem rooted_true (v : Value) (ps : List (ByteArray × ByteArray)) (hex : ByteArray) (n : Nat) (w : World) (T : Tabs w) (P : PairsAt w v ps) (O : PairsOk ps) (H : HexOf hex n) (he : rootP (treeTo ps ps.length) = hexL hex.data.toList) :
    Calls Tryd.prog 10 #[v, .string hex] w fun e w' => e = .returned (.bool true) ∧ Below w.heap.size w w' := by
  have HB : Hid (∀ W : World, Calls Tryd.prog 20 #[.string hex] W fun e w' => e = .returned (.string (str (hexL hex.data.toList))) ∧ Below W.heap.size W w') := bytes_calls hex n H.size H.few H.hexy
  have HO : Hid (PairsOk ps) := O
  have HE : Hid (rootP (treeTo ps ps.length) = hexL hex.data.toList) := he
  have HT : Hid (Tabs w) := T
  have HP : Hid (PairsAt w v ps) := P
  have HN : Hid (∀ W : World, Calls Tryd.prog 21 #[] W fun e w' => e = .returned (.pointer (some ⟨W.heap.size, 0, none⟩)) ∧ Below W.heap.size W w') := newStore_calls
  have HM : Hid (∀ W : World, Tabs W → Calls Tryd.prog 22 #[] W fun e w' => e = .returned (.string (str emptyR)) ∧ Below W.heap.size W w') := emptyRoot_calls
  have hN := O.few
  obtain ⟨N, hNN⟩ : ∃ N, N = ps.length := ⟨_, rfl⟩
  have HNN : Hid (N = ps.length) := hNN
  obtain ⟨a, cap, hv⟩ : ∃ a cap, v = .slice a N cap := by
    rcases P.lie with ⟨h0, h1⟩ | ⟨g, cap, h1, _⟩
    · exact ⟨none, 0, by rw [h1, hNN, h0]⟩
    · exact ⟨_, cap, by rw [h1, hNN]⟩
  subst hv
  rw [← hNN] at hN
  clear O he T P H hNN
  go_enter Tryd.func10, Tryd.ntmps10
  go_wp2_with fail
  refine (HN.out _).mono ?_
  rintro e w1 ⟨rfl, hb1⟩
  have HB1 : Hid (Below w.heap.size w w1) := hb1
  clear hb1 HN
  go_wp2_with fail
  refine (HM.out _ (HT.out.below HB1.out)).mono ?_
  rintro e w2 ⟨rfl, hb2⟩
  have HB2 : Hid (Below w.heap.size w w2) := HB1.out.trans (hb2.mono HB1.out.size)
  clear hb2 HM HB1
  go_wp2_with fail
  refine (open_empty w2 _ (HT.out.below HB2.out)).mono ?_
  rintro e w3 ⟨tb, rfl, htb, hT3, hb3⟩
  have HB3 : Hid (Below w.heap.size w w3) := HB2.out.trans (hb3.mono HB2.out.size)
  have HT3 : Hid (TrieAt w3 tb (some ⟨w.heap.size, 0, none⟩) none) := hT3
  have htbw : w.heap.size ≤ tb := Nat.le_trans HB2.out.size htb
  clear hb3 hT3 HB2 htb
  go_wp2_with fail
  go_loopg [9] N (fun g r wr => ∃ (i : Nat) (u : Option Addr) (S : Nat → Prop), g = N - i ∧ i ≤ N ∧ r = .int .i64 (i : Int) ∧ TrieAt wr tb (some ⟨w.heap.size, 0, none⟩) u ∧ At wr (treeTo ps i) S (.pointer u) ∧ ¬ S tb ∧ Fine (treeTo ps i) ∧ Below w.heap.size w wr)
  case atStart => exact ⟨0, none, fun _ => False, rfl, by omega, rfl, HT3.out, rfl, fun h => h, trivial, HB3.out⟩
  case round =>
    obtain ⟨i, u, S, hg, hi, rfl, hTA, hAt, hS, hF, hBe⟩ := hrel
    have HG : Hid (gk = N - i) := hg
    have HTA : Hid (TrieAt wr tb (some ⟨w.heap.size, 0, none⟩) u) := hTA
    have HAt : Hid (At wr (treeTo ps i) S (.pointer u)) := hAt
    have HNS : Hid (¬ S tb) := hS
    have HF : Hid (Fine (treeTo ps i)) := hF
    have HBe : Hid (Below w.heap.size w wr) := hBe
    clear hg hTA hAt hS hF hBe HT3 HB3
    by_cases hlt : i < N
    · have hips : i < ps.length := by rw [← HNN.out]; exact hlt
      obtain ⟨g, hag, hgl, hc⟩ : ∃ g, a = some ⟨g, 0, none⟩ ∧ g < w.heap.size ∧ (w.cell? ⟨g, i * 2, none⟩ = some (.string (ps[i]).1) ∧ w.cell? ⟨g, i * 2 + 1, none⟩ = some (.string (ps[i]).2)) := by
        rcases HP.out.lie with ⟨h0, _⟩ | ⟨g, cap', h1, h2, h3⟩
        · omega
        · cases h1; exact ⟨g, rfl, h2, h3 i hips⟩
      subst hag
      have d0 := (HBe.out.cell (p := ⟨g, i * 2, none⟩) hgl).trans hc.1
      have d1 := (HBe.out.cell (p := ⟨g, i * 2 + 1, none⟩) hgl).trans hc.2
      have hFn : Fine (treeTo ps (i + 1)) := by
        rw [treeTo_succ ps i hips]
        exact fine_with HF.out (HO.out.opened i hips) (keyP_nibs _) (by rw [keyP_len]; have := HO.out.key i hips; omega) (by have := HO.out.val i hips; simpa using this)
      have HPT : Hid (∀ W : World, Below wr.heap.size wr W → Calls Tryd.prog 24 #[.pointer (some ⟨tb, 0, none⟩), .string (ps[i]).1, .string (ps[i]).2] W fun e w' => e = .returned (.int .i64 0) ∧ (∃ u', TrieAt w' tb (some ⟨w.heap.size, 0, none⟩) u' ∧ ∃ S', At w' (treeTo ps (i + 1)) S' (.pointer u') ∧ ¬ S' tb) ∧ Below w.heap.size w w') := fun W hW => by
        rw [treeTo_succ ps i hips]
        refine (Put_open W tb _ u (treeTo ps i) S _ _ (HTA.out.kept (hW.block _ HTA.out.lt)) (HAt.out.below hW) HF.out (HO.out.opened i hips) (HO.out.key i hips) (HO.out.val i hips) (HO.out.pos i hips) ((HT.out.below HBe.out).below hW) HNS.out).mono ?_
        rintro e w' ⟨h1, u', h2, h3, h4⟩
        have hBW : Below w.heap.size w W := HBe.out.trans (hW.mono HBe.out.size)
        exact ⟨h1, ⟨u', h2, _, h3, fun h => h.2 rfl⟩, hBW.trans ⟨h4.os, h4.tape, h4.output, h4.size, fun k hk => h4.block k (Nat.lt_of_lt_of_le hk hBW.size) (by omega)⟩⟩
      have HFn : Hid (Fine (treeTo ps (i + 1))) := hFn
      have hI : (i : Int) < (N : Int) := by omega
      clear hFn hc HTA HAt HNS HF
      generalize (ps[i]).1 = kk at *
      generalize (ps[i]).2 = vv at *
      clear hips
      go_wp2_with fail
      go_region_with (go_at_call 24; refine (HPT.out _ (by first | exact Below.refl _ _ | exact (Below.refl _ _).drew)).mono ?_; rintro e1 w4 ⟨rfl, h4⟩; have HF4 : Hid _ := h4; clear h4)
      all_goals
        go_wp2_with fail
        go_roundg (N - (i + 1))
        case measure => have := HG.out; omega
        case rel =>
          obtain ⟨⟨u', q1, S', q2, q3⟩, q4⟩ := HF4.out
          exact ⟨i + 1, u', S', rfl, by omega, by go_num, q1, q2, q3, HFn.out, q4⟩
    · obtain rfl : i = N := by omega
      have hI : ¬ (i : Int) < (i : Int) := by omega
      have HRT : Hid (∀ W : World, Below wr.heap.size wr W → Calls Tryd.prog 25 #[.pointer (some ⟨tb, 0, none⟩)] W fun e w' => e = .returned (.string (str (hexL hex.data.toList))) ∧ Below W.heap.size W w') := fun W hW => by
        have := Root_calls W tb _ u (treeTo ps i) S (HTA.out.kept (hW.block _ HTA.out.lt)) (HAt.out.below hW) HF.out ((HT.out.below HBe.out).below hW)
        rw [HNN.out, HE.out] at this
        exact this
      clear HTA HAt HNS HF HE HO HP
      generalize str (hexL hex.data.toList) = R at *
      have hr : (R.toList == R.toList) = true := by simp
      go_wp2_with fail
      refine (HRT.out _ (Below.refl _ _)).mono ?_
      rintro e w5 ⟨rfl, hb5⟩
      have HB5 : Hid (Below w.heap.size w w5) := HBe.out.trans (hb5.mono HBe.out.size)
      clear hb5 HRT
      go_wp2_with fail
      refine (HB.out _).mono ?_
      rintro e w6 ⟨rfl, hb6⟩
      have HB6 : Hid (Below w.heap.size w w6) := HB5.out.trans (hb6.mono HB5.out.size)
      clear hb6 HB HB5
      go_wp2_with fail
      go_ret
      exact ⟨rfl, HB6.out⟩
end Go.Proofs.YtenmjjpkbcogbaaDoor
