import Derived.Laws.BitsAllLaws
import Derived.Laws.BytesArg
import Derived.Test.YtenmjjpkbcogbaaDoorRows
import Derived.WalkKit
import Derived.WalkSpells
import Derived.WalkLawsBesides
import Derived.BigRegion
import Derived.BigQuiet
import Derived.Deep.QuietTactic
import Derived.Deep.RegionLaw
import Derived.Deep.AppendLies
import Derived.Deep.LoopGhost
import Derived.Deep.Cut
import Derived.Lib.Strings
import Derived.Deep.CutRange
import Derived.Deep.DeepCutAuto

/- Nib -/
namespace Go.Proofs.YtenmjjpkbcogbaaDoor
open Go

def hi (c : UInt8) : UInt8 := UInt8.ofNat (c.toNat / 16)
def lo (c : UInt8) : UInt8 := UInt8.ofNat (c.toNat % 16)
def join (a b : UInt8) : UInt8 := UInt8.ofNat (16 * a.toNat + b.toNat)
theorem hi_nat (c : UInt8) : (hi c).toNat = c.toNat / 16 := by
  have := c.toNat_lt; unfold hi; rw [UInt8.toNat_ofNat']; omega
theorem lo_nat (c : UInt8) : (lo c).toNat = c.toNat % 16 := by
  have := c.toNat_lt; unfold lo; rw [UInt8.toNat_ofNat']; omega
theorem join_nat (a b : UInt8) (ha : a.toNat < 16) (hb : b.toNat < 16) : (join a b).toNat = 16 * a.toNat + b.toNat := by
  unfold join; rw [UInt8.toNat_ofNat']; omega
theorem hi_lt (c : UInt8) : (hi c).toNat < 16 := by have := c.toNat_lt; rw [hi_nat]; omega
theorem lo_lt (c : UInt8) : (lo c).toNat < 16 := by rw [lo_nat]; omega
theorem u8_ext {a b : UInt8} (h : a.toNat = b.toNat) : a = b := UInt8.toNat_inj.1 h
theorem join_halves (c : UInt8) : join (hi c) (lo c) = c := by
  apply u8_ext; rw [join_nat _ _ (hi_lt c) (lo_lt c), hi_nat, lo_nat]; omega
theorem hi_join (a b : UInt8) (ha : a.toNat < 16) (hb : b.toNat < 16) : hi (join a b) = a := by
  apply u8_ext; rw [hi_nat, join_nat a b ha hb]; omega
theorem lo_join (a b : UInt8) (ha : a.toNat < 16) (hb : b.toNat < 16) : lo (join a b) = b := by
  apply u8_ext; rw [lo_nat, join_nat a b ha hb]; omega

def pairs : List UInt8 → List UInt8
  | a :: b :: r => join a b :: pairs r
  | _ => []
def halvesU : List UInt8 → List UInt8
  | [] => []
  | c :: r => hi c :: lo c :: halvesU r
def Nibs (l : List UInt8) : Prop := ∀ x, x ∈ l → x.toNat < 16

theorem halvesU_length : ∀ l : List UInt8, (halvesU l).length = 2 * l.length
  | [] => rfl
  | c :: r => by simp only [halvesU, List.length_cons, halvesU_length r]; omega
theorem halvesU_nibs : ∀ l : List UInt8, Nibs (halvesU l)
  | [] => fun x h => by cases h
  | c :: r => fun x h => by
    simp only [halvesU, List.mem_cons] at h
    rcases h with rfl | rfl | h
    · exact hi_lt c
    · exact lo_lt c
    · exact halvesU_nibs r x h
theorem halvesU_append : ∀ l m : List UInt8, halvesU (l ++ m) = halvesU l ++ halvesU m
  | [], m => rfl
  | c :: r, m => by simp only [List.cons_append, halvesU, halvesU_append r m]
theorem pairs_halves : ∀ l : List UInt8, pairs (halvesU l) = l
  | [] => rfl
  | c :: r => by simp only [halvesU, pairs, join_halves, pairs_halves r]
theorem pairs_append : ∀ l m : List UInt8, l.length % 2 = 0 → pairs (l ++ m) = pairs l ++ pairs m
  | [], m, _ => rfl
  | [a], m, h => by simp at h
  | a :: b :: r, m, h => by
    have := pairs_append r m (by simp at h; omega)
    simp only [List.cons_append, pairs, this]
theorem halves_pairs : ∀ l : List UInt8, l.length % 2 = 0 → Nibs l → halvesU (pairs l) = l
  | [], _, _ => rfl
  | [a], h, _ => by simp at h
  | a :: b :: r, h, n => by
    have ha := n a (by simp)
    have hb := n b (by simp)
    have := halves_pairs r (by simp at h; omega) (fun x hx => n x (by simp [hx]))
    simp only [pairs, halvesU, hi_join a b ha hb, lo_join a b ha hb, this]
theorem pairs_length : ∀ l : List UInt8, (pairs l).length = l.length / 2
  | [] => rfl
  | [a] => by simp [pairs]
  | a :: b :: r => by simp only [pairs, List.length_cons, pairs_length r]; omega
theorem take_two (l : List UInt8) (j : Nat) (h : j + 1 < l.length) : l.take (j + 2) = l.take j ++ [l[j], l[j + 1]] := by
  show l.take ((j + 1) + 1) = _
  rw [List.take_succ_eq_append_getElem (show j + 1 < l.length from h), List.take_succ_eq_append_getElem (show j < l.length by omega), List.append_assoc]
  rfl

/-- the first byte's upper half -/
def markN (odd leaf : Bool) : Nat := (if leaf then 2 else 0) + (if odd then 1 else 0)
def packU (l : List UInt8) (leaf : Bool) : List UInt8 :=
  if l.length % 2 = 1 then join (UInt8.ofNat (markN true leaf)) (l.getD 0 0) :: pairs (l.drop 1) else join (UInt8.ofNat (markN false leaf)) 0 :: pairs l
/-- of which path -/
def pathU (t : List UInt8) : List UInt8 := (if (hi (t.getD 0 0)).toNat % 2 = 1 then [lo (t.getD 0 0)] else []) ++ halvesU (t.drop 1)
def leafU (t : List UInt8) : Bool := decide (2 ≤ (hi (t.getD 0 0)).toNat % 4)
def formU (t : List UInt8) : Prop := t ≠ [] ∧ (hi (t.getD 0 0)).toNat ≤ 3 ∧ ((hi (t.getD 0 0)).toNat % 2 = 0 → (lo (t.getD 0 0)).toNat = 0)

theorem packU_length (l : List UInt8) (leaf : Bool) : (packU l leaf).length = l.length / 2 + 1 := by
  unfold packU
  split
  · simp only [List.length_cons, pairs_length, List.length_drop]; omega
  · simp only [List.length_cons, pairs_length]
theorem mark_nat (odd leaf : Bool) : (UInt8.ofNat (markN odd leaf)).toNat = markN odd leaf := by cases odd <;> cases leaf <;> rfl
theorem mark_lt (odd leaf : Bool) : (UInt8.ofNat (markN odd leaf)).toNat < 16 := by cases odd <;> cases leaf <;> decide

theorem nibs_get (l : List UInt8) (h : Nibs l) (i : Nat) : (l.getD i 0).toNat < 16 := by
  rcases Nat.lt_or_ge i l.length with hi | hi
  · have e : l.getD i 0 = l[i] := by simp [List.getD, List.getElem?_eq_getElem hi]
    rw [e]; exact h _ (List.getElem_mem hi)
  · have e : l.getD i 0 = 0 := by simp [List.getD, List.getElem?_eq_none hi]
    rw [e]; decide

/-- what is packed is of its form, and is unpacked again -/
theorem pack_form (l : List UInt8) (leaf : Bool) (h : Nibs l) : formU (packU l leaf) ∧ pathU (packU l leaf) = l ∧ leafU (packU l leaf) = leaf := by
  by_cases ho : l.length % 2 = 1
  · have e : packU l leaf = join (UInt8.ofNat (markN true leaf)) (l.getD 0 0) :: pairs (l.drop 1) := by unfold packU; rw [if_pos ho]
    have h0 := nibs_get l h 0
    have hh : hi (join (UInt8.ofNat (markN true leaf)) (l.getD 0 0)) = UInt8.ofNat (markN true leaf) := hi_join _ _ (mark_lt _ _) h0
    have hl : lo (join (UInt8.ofNat (markN true leaf)) (l.getD 0 0)) = l.getD 0 0 := lo_join _ _ (mark_lt _ _) h0
    rw [e]
    refine ⟨⟨by simp, ?_, ?_⟩, ?_, ?_⟩
    · rw [List.getD_cons_zero, hh, mark_nat]; cases leaf <;> decide
    · rw [List.getD_cons_zero, hh, mark_nat]; cases leaf <;> simp [markN]
    · unfold pathU
      rw [List.getD_cons_zero, hh, mark_nat, hl, List.drop_succ_cons, List.drop_zero, halves_pairs _ (by simp; omega) (fun x hx => h x (List.mem_of_mem_drop hx))]
      rw [if_pos (by cases leaf <;> rfl)]
      cases l with
      | nil => simp at ho
      | cons a r => rfl
    · unfold leafU
      rw [List.getD_cons_zero, hh, mark_nat]; cases leaf <;> rfl
  · have e : packU l leaf = join (UInt8.ofNat (markN false leaf)) 0 :: pairs l := by unfold packU; rw [if_neg ho]
    have h0 : (0 : UInt8).toNat < 16 := by decide
    have hh : hi (join (UInt8.ofNat (markN false leaf)) 0) = UInt8.ofNat (markN false leaf) := hi_join _ _ (mark_lt _ _) h0
    have hl : lo (join (UInt8.ofNat (markN false leaf)) 0) = 0 := lo_join _ _ (mark_lt _ _) h0
    rw [e]
    refine ⟨⟨by simp, ?_, ?_⟩, ?_, ?_⟩
    · rw [List.getD_cons_zero, hh, mark_nat]; cases leaf <;> decide
    · rw [List.getD_cons_zero, hl]; intro _; rfl
    · unfold pathU
      rw [List.getD_cons_zero, hh, mark_nat, List.drop_succ_cons, List.drop_zero, halves_pairs _ (by omega) h]
      rw [if_neg (by cases leaf <;> decide)]
      rfl
    · unfold leafU
      rw [List.getD_cons_zero, hh, mark_nat]; cases leaf <;> rfl

theorem path_nibs (t : List UInt8) : Nibs (pathU t) := by
  intro x hx
  unfold pathU at hx
  rcases List.mem_append.1 hx with h | h
  · split at h
    · simp only [List.mem_singleton] at h; subst h; exact lo_lt _
    · cases h
  · exact halvesU_nibs _ x h
theorem path_length (t : List UInt8) (_h : t ≠ []) : (pathU t).length = (if (hi (t.getD 0 0)).toNat % 2 = 1 then 1 else 0) + 2 * (t.length - 1) := by
  unfold pathU
  rw [List.length_append, halvesU_length, List.length_drop]
  split <;> simp

/-- what is unpacked is packed again -/
theorem form_pack (t : List UInt8) (h : formU t) : packU (pathU t) (leafU t) = t := by
  obtain ⟨hn, h3, hz⟩ := h
  cases t with
  | nil => exact absurd rfl hn
  | cons c r =>
    simp only [List.getD_cons_zero] at h3 hz
    have hl := path_length (c :: r) (by simp)
    simp only [List.getD_cons_zero, List.length_cons] at hl
    have hcj := join_halves c
    unfold packU
    by_cases ho : (hi c).toNat % 2 = 1
    · rw [if_pos ho] at hl
      rw [if_pos (by omega)]
      have e : pathU (c :: r) = lo c :: halvesU r := by unfold pathU; simp only [List.getD_cons_zero, if_pos ho, List.drop_succ_cons, List.drop_zero, List.singleton_append]
      rw [e]
      simp only [List.getD_cons_zero, List.drop_succ_cons, List.drop_zero, pairs_halves]
      congr 1
      have : UInt8.ofNat (markN true (leafU (c :: r))) = hi c := by
        apply u8_ext
        rw [mark_nat]
        unfold leafU markN
        simp only [List.getD_cons_zero, if_true]
        by_cases h2 : 2 ≤ (hi c).toNat % 4
        · simp only [h2, decide_true, if_true]; omega
        · simp only [h2, decide_false]; simp; omega
      rw [this, hcj]
    · rw [if_neg ho] at hl
      rw [if_neg (by omega)]
      have e : pathU (c :: r) = halvesU r := by unfold pathU; simp only [List.getD_cons_zero, if_neg ho, List.drop_succ_cons, List.drop_zero, List.nil_append]
      rw [e, pairs_halves]
      congr 1
      have hlo : lo c = 0 := u8_ext (hz (by omega))
      have : UInt8.ofNat (markN false (leafU (c :: r))) = hi c := by
        apply u8_ext
        rw [mark_nat]
        unfold leafU markN
        simp only [List.getD_cons_zero]
        by_cases h2 : 2 ≤ (hi c).toNat % 4
        · simp only [h2, decide_true, if_true]; simp; omega
        · simp only [h2, decide_false]; simp; omega
      rw [this]
      rw [hlo] at hcj
      exact hcj
end Go.Proofs.YtenmjjpkbcogbaaDoor

/- NibA -/
namespace Go.Proofs.YtenmjjpkbcogbaaDoor
open Go.RowKit

def nibsB (l : List UInt8) : Bool := l.all (fun c => decide (c.toNat < 16))
theorem nibsB_true {l : List UInt8} (h : nibsB l = true) : Nibs l := fun x hx => by
  have := List.all_eq_true.1 h x hx
  simpa using this
theorem nibsB_of {l : List UInt8} (h : Nibs l) : nibsB l = true := List.all_eq_true.2 fun x hx => by simpa using h x hx
theorem nibsB_false {l : List UInt8} (k : Nat) (hk : k < l.length) (h : 15 < (l[k]).toNat) : nibsB l = false := by
  cases hb : nibsB l with
  | false => rfl
  | true =>
    have := nibsB_true hb _ (List.getElem_mem hk)
    omega

theorem allHalf_calls (s : ByteArray) (hs : s.size ≤ maxLen) (w : World) :
    Calls Tryd.prog 37 #[.string s] w fun e w' => e = .returned (.bool (nibsB s.data.toList)) ∧ w' = w := by
  unfold maxLen at hs
  go_enter Tryd.func37, Tryd.ntmps37
  go_wp2_with fail
  go_loopg [3] s.size (fun g r wr => wr = w ∧ ∃ k : Nat, g = s.size - k ∧ k ≤ s.size ∧ r = .int .i64 k ∧ Hid (∀ j, (h : j < s.size) → j < k → (s[j]).toNat < 16))
  case atStart => exact ⟨rfl, 0, rfl, by omega, rfl, fun j _ h => by omega⟩
  case round =>
    obtain ⟨rfl, k, hg, hk, rfl, hall⟩ := hrel
    have HG : Hid (gk = s.size - k) := hg
    clear hg
    by_cases hlt : k < s.size
    · by_cases hc : 15 < (s[k]).toNat
      · have hci : (15 : Int) < ((s[k]).toNat : Int) := by omega
        have hf : nibsB s.data.toList = false := nibsB_false k (by simpa using hlt) hc
        have HF : Hid (nibsB s.data.toList = false) := hf
        clear hf
        go_wp2_with fail
        go_ret
        exact ⟨by rw [HF.out]; rfl, rfl⟩
      · have hci : ¬ (15 : Int) < ((s[k]).toNat : Int) := by omega
        go_wp2_with fail
        go_roundg (s.size - (k + 1))
        case measure => have := HG.out; omega
        case rel => exact ⟨rfl, k + 1, rfl, by omega, by go_num, fun j hj hj2 => by
            by_cases e : j = k
            · subst e; omega
            · exact hall.out j hj (by omega)⟩
    · have ht : nibsB s.data.toList = true := nibsB_of fun x hx => by
        obtain ⟨j, hj, rfl⟩ := List.getElem_of_mem hx
        exact hall.out j (by simpa using hj) (by have : j < s.size := (by simpa using hj); omega)
      have HT : Hid (nibsB s.data.toList = true) := ht
      clear ht
      go_wp2_with fail
      go_ret
      exact ⟨by rw [HT.out]; rfl, rfl⟩
end Go.Proofs.YtenmjjpkbcogbaaDoor

/- NibP -/
namespace Go.Proofs.YtenmjjpkbcogbaaDoor
open Go.RowKit

theorem info5 : (Tryd.prog.info? 5).map (fun i => (i.zero, i.size, i.bytes)) = some (some (.int .u8 0), 1, 1) := by kernel_rfl
def u8c (l : List UInt8) : List Value := l.map (fun c => Value.int .u8 (c.toNat : Int))
def str (l : List UInt8) : ByteArray := ⟨l.toArray⟩

theorem make_bytes (n c : Int) (h0 : 0 ≤ n) (hn : n ≤ c) (hc : c ≤ 281474976710656) (w : World) :
    (Instr.makeSlice 54 (.int .i64 n) (.int .i64 c)).run Tryd.prog w = .ok (.slice (some ⟨w.heap.size, 0, none⟩) n.toNat c.toNat) (w.alloc (.cells (madeCells #[.int .u8 0] c.toNat) 5)) := by
  obtain ⟨i0, hi, hz0, hz1, hz2⟩ := info_parts info5
  have := run_make (P := Tryd.prog) w 54 5 i0 (.int .u8 0) Tryd.underlying54 hi hz0 .i64 .i64 n c h0 hn (by rw [hz2]; omega) (by omega)
  rw [hz1, Nat.mul_one] at this
  exact this

theorem own_made (w : World) (base c : Nat) (hb : base ≤ w.heap.size) (hc : c ≤ maxLen) : (w.alloc (.cells (madeCells #[.int .u8 0] c) 5)).ownsRow base 5 1 (.slice (some ⟨w.heap.size, 0, none⟩) 0 c) 0 (u8c []) :=
  ⟨rfl, .inr ⟨w.heap.size, c, _, rfl, hb, heap_alloc_new _ _, by omega, hc, by rw [size_madeCells, Nat.mul_one], by simp [u8c]⟩⟩

theorem strOfNums_bytes (l : List UInt8) : strOfNums (l.map (fun c => (c.toNat : Int))) = str l := by
  unfold strOfNums str
  congr 1
  rw [List.map_map]
  congr 1
  conv => rhs; rw [← List.map_id l]
  apply List.map_congr_left
  intro c _
  simp

theorem or16 (a b : Nat) (ha : a < 16) (hb : b < 16) : bits .or .u8 (IntKind.u8.wrap ((a : Int) * 16)) (b : Int) = ((16 * a + b : Nat) : Int) := by
  have e : IntKind.u8.wrap ((a : Int) * 16) = ((16 * a : Nat) : Int) := by rw [IntKind.wrap_u8']; omega
  rw [e, u8_or_nat _ _ (by omega) (by omega), nat_join 4 (16 * a) b (by omega) (by omega)]

set_option maxRecDepth 100000 in
set_option maxHeartbeats 400000 in
theorem pack_ol (s : ByteArray) (hs : s.size < 8192) (hn : nibsB s.data.toList = true) (hodd : s.size % 2 = 1) (w : World) :
    Calls Tryd.prog 27 #[.string s, .bool true] w fun e w' => e = .returned (.tuple #[.string (str (packU s.data.toList true)), .int .i64 0]) ∧ Below w.heap.size w w' := by
  have hm : s.size ≤ maxLen := by unfold maxLen; omega
  obtain ⟨i0, hi0, hz0, hz1, hz2⟩ := info_parts info5
  have hmk := make_bytes 0 ((s.size : Int) / 2 + 1) (by omega) (by omega) (by omega)
  have HN : Hid (nibsB s.data.toList = true) := hn
  have HO : Hid (s.size % 2 = 1) := hodd
  have hlen : s.data.toList.length = s.size := by simp
  have HL : Hid (s.data.toList.length = s.size) := hlen
  have ht1 : ((s.size : Int) % 2 == 1) = true := beq_iff_eq.2 (by omega)
  have hi63 : ((s.size : Int) / 2 + 1).toNat = s.size / 2 + 1 := by omega
  have h0 : 0 < s.size := by omega
  clear hlen hn hodd
  go_enter Tryd.func27, Tryd.ntmps27
  go_wp2_with fail
  refine (allHalf_calls s hm _).mono ?_
  rw [HN.out]
  rintro e w1 ⟨rfl, hw⟩
  have hw' := hw.symm
  subst hw'
  clear hm hw
  go_upto_region 15 with fail
  have hown := own_made w w.heap.size (s.size / 2 + 1) (Nat.le_refl _) (by unfold maxLen; omega)
  have hbel := (Below.refl w.heap.size w).alloc (Nat.le_refl _) (.cells (madeCells #[.int .u8 0] (s.size / 2 + 1)) 5)
  generalize hW : w.alloc (.cells (madeCells #[.int .u8 0] (s.size / 2 + 1)) 5) = W1 at *
  generalize hV : Value.slice (some ⟨w.heap.size, 0, none⟩) 0 (s.size / 2 + 1) = V1 at *
  have HOW : Hid (W1.ownsRow w.heap.size 5 1 V1 0 (u8c [])) := hown
  have HBE : Hid (Below w.heap.size w W1) := hbel
  clear hW hV hown hbel hmk hi63
  have hnb := nibsB_true HN.out
  have h0n : (s[0]).toNat < 16 := hnb _ (by rw [← Array.mem_def]; exact Array.getElem_mem (by simpa using h0))
  obtain ⟨B, hB⟩ : ∃ B : UInt8, B = join (UInt8.ofNat 3) s[0] := ⟨_, rfl⟩
  have hv0 : bits .or .u8 48 ((s[0]).toNat : Int) = (B.toNat : Int) := by
    have e := or16 3 (s[0]).toNat (by omega) h0n
    rw [hB, join_nat _ _ (by decide) h0n]; exact e
  have HB : Hid (B = join (UInt8.ofNat 3) s[0]) := hB
  clear hnb h0n hB
  go_wp2_with (at_builtin; refine wpList_append_lies _ rfl (.tmp 30) (.tmp 35) 54 rfl w.heap.size 5 i0 (.int .u8 0) 1 1 Tryd.underlying54 hi0 hz0 hz1 hz2 rfl (by decide) V1 0 (u8c []) rfl (HOW.out.alloc _) ⟨W1.heap.size, 0, none⟩ 1 1 [.int .u8 (B.toNat : Int)] rfl rfl (cell_one_new _ _ _) ?c2 (by omega) ?c3 ?c4 ?c5 _ rfl ?c6)
  case c2 => intro u hu; simp at hu; subst hu; rfl
  case c3 => unfold maxLen; omega
  case c4 => omega
  case c5 => have := HBE.out.size; simp; omega
  case c6 =>
    intro g1 cap1 W2 hown2 hgrow2 hat2 hlt2
    have hown2 : W2.ownsRow w.heap.size 5 1 (.slice (some ⟨g1, 0, none⟩) (0 + 1) cap1) (0 + 1) (u8c [B]) := hown2
    have hb2 : Below w.heap.size w W2 := (HBE.out.alloc HBE.out.size _).grown hgrow2 (by have := HBE.out.size; simp; omega) (fun k hk => (HOW.out.lt k hk).1)
    have HO2 : Hid (W2.ownsRow w.heap.size 5 1 (.slice (some ⟨g1, 0, none⟩) (0 + 1) cap1) (0 + 1) (u8c [B])) := hown2
    have HB2 : Hid (Below w.heap.size w W2) := hb2
    clear hown2 hgrow2 hat2 hlt2 hb2 HOW HBE hv0
    go_wp2_with fail
    go_loopg [7, 9] (s.size / 2) (fun n r v wr => ∃ j gb cap : Nat, n = s.size / 2 - j ∧ 1 + 2 * j ≤ s.size ∧ r = .int .i64 ((1 + 2 * j : Nat) : Int) ∧ v = .slice (some ⟨gb, 0, none⟩) (j + 1) cap ∧
      wr.ownsRow w.heap.size 5 1 (.slice (some ⟨gb, 0, none⟩) (j + 1) cap) (j + 1) (u8c (B :: pairs ((s.data.toList.drop 1).take (2 * j)))) ∧ Below w.heap.size w wr)
    case atStart => exact ⟨0, g1, cap1, by omega, by omega, rfl, rfl, HO2.out, HB2.out⟩
    case round =>
      obtain ⟨j, gb, cap, hg, hj, rfl, rfl, hown, hbel⟩ := hrel
      have HG : Hid (gk = s.size / 2 - j) := hg
      clear hg HO2 HB2
      obtain ⟨p, hp⟩ : ∃ p : Nat, p = 1 + 2 * j := ⟨_, rfl⟩
      have HP : Hid (p = 1 + 2 * j) := hp
      rw [← hp]
      rw [← hp] at hj
      clear hp
      by_cases hlt : p + 1 < s.size
      · have hnb := nibsB_true HN.out
        have n0 : (s[p]).toNat < 16 := hnb _ (by rw [← Array.mem_def]; exact Array.getElem_mem (by simpa using (by omega : p < s.size)))
        have n1 : (s[p + 1]).toNat < 16 := hnb _ (by rw [← Array.mem_def]; exact Array.getElem_mem (by simpa using hlt))
        have hv : bits .or .u8 (IntKind.u8.wrap (((s[p]).toNat : Int) * 16)) ((s[p + 1]).toNat : Int) = ((join s[p] s[p + 1]).toNat : Int) := by
          rw [or16 _ _ n0 n1, join_nat _ _ n0 n1]
        have HS : Hid (pairs ((s.data.toList.drop 1).take (2 * (j + 1))) = pairs ((s.data.toList.drop 1).take (2 * j)) ++ [join s[p] s[p + 1]]) := by
          have hp := HP.out
          have hll : 2 * j + 1 < (s.data.toList.drop 1).length := by have := HL.out; rw [List.length_drop]; omega
          have e : 2 * (j + 1) = 2 * j + 2 := by omega
          rw [e, take_two _ _ hll, pairs_append _ _ (by rw [List.length_take]; omega)]
          congr 1
          have e0 : (s.data.toList.drop 1)[2 * j] = s[p] := by rw [List.getElem_drop]; subst hp; rfl
          have e1 : (s.data.toList.drop 1)[2 * j + 1] = s[p + 1] := by rw [List.getElem_drop]; subst hp; rfl
          rw [e0, e1]; rfl
        have HOW : Hid (wr.ownsRow w.heap.size 5 1 (.slice (some ⟨gb, 0, none⟩) (j + 1) cap) (j + 1) (u8c (B :: pairs ((s.data.toList.drop 1).take (2 * j))))) := hown
        have HBE : Hid (Below w.heap.size w wr) := hbel
        have hjb : j < 4096 := by have := HP.out; omega
        have hp0 : p < s.size := by omega
        have hp1 : (p : Int) < (s.size : Int) := by omega
        have hp2 : (p : Int) + 1 < (s.size : Int) := by omega
        have hp3 : (0 : Int) ≤ (p : Int) + 1 := by omega
        have iw : IntKind.i64.wrap ((p : Int) + 1) = (p : Int) + 1 := by rw [IntKind.wrap_i64]; omega
        clear hnb n0 n1 hown hbel
        generalize hJ : join s[p] s[p + 1] = J at *
        generalize hks : u8c (B :: pairs ((s.data.toList.drop 1).take (2 * j))) = ks at *
        have HK : Hid (u8c (B :: pairs ((s.data.toList.drop 1).take (2 * j))) = ks) := hks
        clear hks
        go_wp2_with fail
        go_region_law (refine step_append_lies _ rfl (.tmp 44) (.tmp 54) 54 rfl w.heap.size 5 i0 (.int .u8 0) 1 1 Tryd.underlying54 hi0 hz0 hz1 hz2 rfl (by decide) (.slice (some ⟨gb, 0, none⟩) (j + 1) cap) (j + 1) ks (by simp [Act.eval]) (HOW.out.drew.alloc _) ⟨wr.heap.size, 0, none⟩ 1 1 [.int .u8 (J.toNat : Int)] (by simp [Act.eval]) rfl (cell_one_new _ _ _) (by intro u hu; simp at hu; subst hu; rfl) (by omega) (by unfold maxLen; omega) (by omega) (by have := HBE.out.size; simp; omega) _ rfl ?_; intro g2 cap2 W3 hown3 hgrow3 hat3 hlt3)
        all_goals
          have hb3 : Below w.heap.size w W3 := (HBE.out.drew.alloc HBE.out.size _).grown hgrow3 (by have := HBE.out.size; simp; omega) (fun k hk => (HOW.out.lt k hk).1)
          have HO3 : Hid (W3.ownsRow w.heap.size 5 1 (.slice (some ⟨g2, 0, none⟩) (j + 1 + 1) cap2) (j + 1 + 1) (ks ++ [.int .u8 (J.toNat : Int)])) := hown3
          have HB3 : Hid (Below w.heap.size w W3) := hb3
          clear hown3 hgrow3 hat3 hlt3 hb3
          go_wp2_with fail
          go_roundg (s.size / 2 - (j + 1))
          case measure => have := HG.out; have := HP.out; omega
          case rel =>
            refine ⟨j + 1, g2, cap2, rfl, by have := HP.out; omega, by have := HP.out; rw [show 1 + 2 * (j + 1) = p + 2 by omega]; go_num, rfl, ?_, HB3.out⟩
            have e : u8c (B :: pairs ((s.data.toList.drop 1).take (2 * (j + 1)))) = ks ++ [.int .u8 (J.toNat : Int)] := by
              rw [HS.out, ← HK.out]; simp [u8c]
            rw [e]; exact HO3.out
      · have HBE : Hid (Below w.heap.size w wr) := hbel
        have hfin : B :: pairs ((s.data.toList.drop 1).take (2 * j)) = packU s.data.toList true := by
          have hp := HP.out
          have ho := HO.out
          have hl := HL.out
          unfold packU
          rw [if_pos (by rw [hl]; omega), List.take_of_length_le (by rw [List.length_drop]; omega), HB.out]
          have e : s.data.toList.getD 0 0 = s[0] := by rw [List.getD_eq_getElem?_getD, List.getElem?_eq_getElem (by rw [hl]; exact h0)]; rfl
          rw [e]; rfl
        have hconv := run_convert_bytes_arg (P := Tryd.prog) wr 54 5 Tryd.underlying54 Tryd.underlying5 gb 0 (j + 1) cap ((packU s.data.toList true).map (fun c => (c.toNat : Int))) (by
            rw [List.length_map, packU_length]; have hp := HP.out; have hl := HL.out; have ho := HO.out; rw [hl]; omega) (fun i hi => by
            have := hown.cellAt i (by rw [Nat.mul_one]; exact hi)
            rw [Nat.zero_add, this, hfin]
            have hlen : i < (packU s.data.toList true).length := by rw [packU_length]; have hp := HP.out; have hl := HL.out; have ho := HO.out; rw [hl]; omega
            simp [u8c, List.getD, List.getElem?_eq_getElem hlen]) 9 Tryd.underlying9
        rw [strOfNums_bytes] at hconv
        have HP1 : ¬ ((p : Int) + 1 < (s.size : Int)) := by omega
        clear hown hbel hfin
        go_wp2_with fail
        go_ret2
        exact ⟨rfl, HBE.out⟩
set_option maxRecDepth 100000 in
set_option maxHeartbeats 400000 in
theorem pack_on (s : ByteArray) (hs : s.size < 8192) (hn : nibsB s.data.toList = true) (hodd : s.size % 2 = 1) (w : World) :
    Calls Tryd.prog 27 #[.string s, .bool false] w fun e w' => e = .returned (.tuple #[.string (str (packU s.data.toList false)), .int .i64 0]) ∧ Below w.heap.size w w' := by
  have hm : s.size ≤ maxLen := by unfold maxLen; omega
  obtain ⟨i0, hi0, hz0, hz1, hz2⟩ := info_parts info5
  have hmk := make_bytes 0 ((s.size : Int) / 2 + 1) (by omega) (by omega) (by omega)
  have HN : Hid (nibsB s.data.toList = true) := hn
  have HO : Hid (s.size % 2 = 1) := hodd
  have hlen : s.data.toList.length = s.size := by simp
  have HL : Hid (s.data.toList.length = s.size) := hlen
  have ht1 : ((s.size : Int) % 2 == 1) = true := beq_iff_eq.2 (by omega)
  have hi63 : ((s.size : Int) / 2 + 1).toNat = s.size / 2 + 1 := by omega
  have h0 : 0 < s.size := by omega
  clear hlen hn hodd
  go_enter Tryd.func27, Tryd.ntmps27
  go_wp2_with fail
  refine (allHalf_calls s hm _).mono ?_
  rw [HN.out]
  rintro e w1 ⟨rfl, hw⟩
  have hw' := hw.symm
  subst hw'
  clear hm hw
  go_upto_region 15 with fail
  have hown := own_made w w.heap.size (s.size / 2 + 1) (Nat.le_refl _) (by unfold maxLen; omega)
  have hbel := (Below.refl w.heap.size w).alloc (Nat.le_refl _) (.cells (madeCells #[.int .u8 0] (s.size / 2 + 1)) 5)
  generalize hW : w.alloc (.cells (madeCells #[.int .u8 0] (s.size / 2 + 1)) 5) = W1 at *
  generalize hV : Value.slice (some ⟨w.heap.size, 0, none⟩) 0 (s.size / 2 + 1) = V1 at *
  have HOW : Hid (W1.ownsRow w.heap.size 5 1 V1 0 (u8c [])) := hown
  have HBE : Hid (Below w.heap.size w W1) := hbel
  clear hW hV hown hbel hmk hi63
  have hnb := nibsB_true HN.out
  have h0n : (s[0]).toNat < 16 := hnb _ (by rw [← Array.mem_def]; exact Array.getElem_mem (by simpa using h0))
  obtain ⟨B, hB⟩ : ∃ B : UInt8, B = join (UInt8.ofNat 1) s[0] := ⟨_, rfl⟩
  have hv0 : bits .or .u8 16 ((s[0]).toNat : Int) = (B.toNat : Int) := by
    have e := or16 1 (s[0]).toNat (by omega) h0n
    rw [hB, join_nat _ _ (by decide) h0n]; exact e
  have HB : Hid (B = join (UInt8.ofNat 1) s[0]) := hB
  clear hnb h0n hB
  go_wp2_with (at_builtin; refine wpList_append_lies _ rfl (.tmp 30) (.tmp 35) 54 rfl w.heap.size 5 i0 (.int .u8 0) 1 1 Tryd.underlying54 hi0 hz0 hz1 hz2 rfl (by decide) V1 0 (u8c []) rfl (HOW.out.alloc _) ⟨W1.heap.size, 0, none⟩ 1 1 [.int .u8 (B.toNat : Int)] rfl rfl (cell_one_new _ _ _) ?c2 (by omega) ?c3 ?c4 ?c5 _ rfl ?c6)
  case c2 => intro u hu; simp at hu; subst hu; rfl
  case c3 => unfold maxLen; omega
  case c4 => omega
  case c5 => have := HBE.out.size; simp; omega
  case c6 =>
    intro g1 cap1 W2 hown2 hgrow2 hat2 hlt2
    have hown2 : W2.ownsRow w.heap.size 5 1 (.slice (some ⟨g1, 0, none⟩) (0 + 1) cap1) (0 + 1) (u8c [B]) := hown2
    have hb2 : Below w.heap.size w W2 := (HBE.out.alloc HBE.out.size _).grown hgrow2 (by have := HBE.out.size; simp; omega) (fun k hk => (HOW.out.lt k hk).1)
    have HO2 : Hid (W2.ownsRow w.heap.size 5 1 (.slice (some ⟨g1, 0, none⟩) (0 + 1) cap1) (0 + 1) (u8c [B])) := hown2
    have HB2 : Hid (Below w.heap.size w W2) := hb2
    clear hown2 hgrow2 hat2 hlt2 hb2 HOW HBE hv0
    go_wp2_with fail
    go_loopg [7, 9] (s.size / 2) (fun n r v wr => ∃ j gb cap : Nat, n = s.size / 2 - j ∧ 1 + 2 * j ≤ s.size ∧ r = .int .i64 ((1 + 2 * j : Nat) : Int) ∧ v = .slice (some ⟨gb, 0, none⟩) (j + 1) cap ∧
      wr.ownsRow w.heap.size 5 1 (.slice (some ⟨gb, 0, none⟩) (j + 1) cap) (j + 1) (u8c (B :: pairs ((s.data.toList.drop 1).take (2 * j)))) ∧ Below w.heap.size w wr)
    case atStart => exact ⟨0, g1, cap1, by omega, by omega, rfl, rfl, HO2.out, HB2.out⟩
    case round =>
      obtain ⟨j, gb, cap, hg, hj, rfl, rfl, hown, hbel⟩ := hrel
      have HG : Hid (gk = s.size / 2 - j) := hg
      clear hg HO2 HB2
      obtain ⟨p, hp⟩ : ∃ p : Nat, p = 1 + 2 * j := ⟨_, rfl⟩
      have HP : Hid (p = 1 + 2 * j) := hp
      rw [← hp]
      rw [← hp] at hj
      clear hp
      by_cases hlt : p + 1 < s.size
      · have hnb := nibsB_true HN.out
        have n0 : (s[p]).toNat < 16 := hnb _ (by rw [← Array.mem_def]; exact Array.getElem_mem (by simpa using (by omega : p < s.size)))
        have n1 : (s[p + 1]).toNat < 16 := hnb _ (by rw [← Array.mem_def]; exact Array.getElem_mem (by simpa using hlt))
        have hv : bits .or .u8 (IntKind.u8.wrap (((s[p]).toNat : Int) * 16)) ((s[p + 1]).toNat : Int) = ((join s[p] s[p + 1]).toNat : Int) := by
          rw [or16 _ _ n0 n1, join_nat _ _ n0 n1]
        have HS : Hid (pairs ((s.data.toList.drop 1).take (2 * (j + 1))) = pairs ((s.data.toList.drop 1).take (2 * j)) ++ [join s[p] s[p + 1]]) := by
          have hp := HP.out
          have hll : 2 * j + 1 < (s.data.toList.drop 1).length := by have := HL.out; rw [List.length_drop]; omega
          have e : 2 * (j + 1) = 2 * j + 2 := by omega
          rw [e, take_two _ _ hll, pairs_append _ _ (by rw [List.length_take]; omega)]
          congr 1
          have e0 : (s.data.toList.drop 1)[2 * j] = s[p] := by rw [List.getElem_drop]; subst hp; rfl
          have e1 : (s.data.toList.drop 1)[2 * j + 1] = s[p + 1] := by rw [List.getElem_drop]; subst hp; rfl
          rw [e0, e1]; rfl
        have HOW : Hid (wr.ownsRow w.heap.size 5 1 (.slice (some ⟨gb, 0, none⟩) (j + 1) cap) (j + 1) (u8c (B :: pairs ((s.data.toList.drop 1).take (2 * j))))) := hown
        have HBE : Hid (Below w.heap.size w wr) := hbel
        have hjb : j < 4096 := by have := HP.out; omega
        have hp0 : p < s.size := by omega
        have hp1 : (p : Int) < (s.size : Int) := by omega
        have hp2 : (p : Int) + 1 < (s.size : Int) := by omega
        have hp3 : (0 : Int) ≤ (p : Int) + 1 := by omega
        have iw : IntKind.i64.wrap ((p : Int) + 1) = (p : Int) + 1 := by rw [IntKind.wrap_i64]; omega
        clear hnb n0 n1 hown hbel
        generalize hJ : join s[p] s[p + 1] = J at *
        generalize hks : u8c (B :: pairs ((s.data.toList.drop 1).take (2 * j))) = ks at *
        have HK : Hid (u8c (B :: pairs ((s.data.toList.drop 1).take (2 * j))) = ks) := hks
        clear hks
        go_wp2_with fail
        go_region_law (refine step_append_lies _ rfl (.tmp 44) (.tmp 54) 54 rfl w.heap.size 5 i0 (.int .u8 0) 1 1 Tryd.underlying54 hi0 hz0 hz1 hz2 rfl (by decide) (.slice (some ⟨gb, 0, none⟩) (j + 1) cap) (j + 1) ks (by simp [Act.eval]) (HOW.out.drew.alloc _) ⟨wr.heap.size, 0, none⟩ 1 1 [.int .u8 (J.toNat : Int)] (by simp [Act.eval]) rfl (cell_one_new _ _ _) (by intro u hu; simp at hu; subst hu; rfl) (by omega) (by unfold maxLen; omega) (by omega) (by have := HBE.out.size; simp; omega) _ rfl ?_; intro g2 cap2 W3 hown3 hgrow3 hat3 hlt3)
        all_goals
          have hb3 : Below w.heap.size w W3 := (HBE.out.drew.alloc HBE.out.size _).grown hgrow3 (by have := HBE.out.size; simp; omega) (fun k hk => (HOW.out.lt k hk).1)
          have HO3 : Hid (W3.ownsRow w.heap.size 5 1 (.slice (some ⟨g2, 0, none⟩) (j + 1 + 1) cap2) (j + 1 + 1) (ks ++ [.int .u8 (J.toNat : Int)])) := hown3
          have HB3 : Hid (Below w.heap.size w W3) := hb3
          clear hown3 hgrow3 hat3 hlt3 hb3
          go_wp2_with fail
          go_roundg (s.size / 2 - (j + 1))
          case measure => have := HG.out; have := HP.out; omega
          case rel =>
            refine ⟨j + 1, g2, cap2, rfl, by have := HP.out; omega, by have := HP.out; rw [show 1 + 2 * (j + 1) = p + 2 by omega]; go_num, rfl, ?_, HB3.out⟩
            have e : u8c (B :: pairs ((s.data.toList.drop 1).take (2 * (j + 1)))) = ks ++ [.int .u8 (J.toNat : Int)] := by
              rw [HS.out, ← HK.out]; simp [u8c]
            rw [e]; exact HO3.out
      · have HBE : Hid (Below w.heap.size w wr) := hbel
        have hfin : B :: pairs ((s.data.toList.drop 1).take (2 * j)) = packU s.data.toList false := by
          have hp := HP.out
          have ho := HO.out
          have hl := HL.out
          unfold packU
          rw [if_pos (by rw [hl]; omega), List.take_of_length_le (by rw [List.length_drop]; omega), HB.out]
          have e : s.data.toList.getD 0 0 = s[0] := by rw [List.getD_eq_getElem?_getD, List.getElem?_eq_getElem (by rw [hl]; exact h0)]; rfl
          rw [e]; rfl
        have hconv := run_convert_bytes_arg (P := Tryd.prog) wr 54 5 Tryd.underlying54 Tryd.underlying5 gb 0 (j + 1) cap ((packU s.data.toList false).map (fun c => (c.toNat : Int))) (by
            rw [List.length_map, packU_length]; have hp := HP.out; have hl := HL.out; have ho := HO.out; rw [hl]; omega) (fun i hi => by
            have := hown.cellAt i (by rw [Nat.mul_one]; exact hi)
            rw [Nat.zero_add, this, hfin]
            have hlen : i < (packU s.data.toList false).length := by rw [packU_length]; have hp := HP.out; have hl := HL.out; have ho := HO.out; rw [hl]; omega
            simp [u8c, List.getD, List.getElem?_eq_getElem hlen]) 9 Tryd.underlying9
        rw [strOfNums_bytes] at hconv
        have HP1 : ¬ ((p : Int) + 1 < (s.size : Int)) := by omega
        clear hown hbel hfin
        go_wp2_with fail
        go_ret2
        exact ⟨rfl, HBE.out⟩
set_option maxRecDepth 100000 in
set_option maxHeartbeats 400000 in
theorem pack_el (s : ByteArray) (hs : s.size < 8192) (hn : nibsB s.data.toList = true) (hodd : s.size % 2 = 0) (w : World) :
    Calls Tryd.prog 27 #[.string s, .bool true] w fun e w' => e = .returned (.tuple #[.string (str (packU s.data.toList true)), .int .i64 0]) ∧ Below w.heap.size w w' := by
  have hm : s.size ≤ maxLen := by unfold maxLen; omega
  obtain ⟨i0, hi0, hz0, hz1, hz2⟩ := info_parts info5
  have hmk := make_bytes 0 ((s.size : Int) / 2 + 1) (by omega) (by omega) (by omega)
  have HN : Hid (nibsB s.data.toList = true) := hn
  have HO : Hid (s.size % 2 = 0) := hodd
  have hlen : s.data.toList.length = s.size := by simp
  have HL : Hid (s.data.toList.length = s.size) := hlen
  have ht1 : ((s.size : Int) % 2 == 1) = false := beq_eq_false_iff_ne.2 (by omega)
  have hi63 : ((s.size : Int) / 2 + 1).toNat = s.size / 2 + 1 := by omega
  skip
  clear hlen hn hodd
  go_enter Tryd.func27, Tryd.ntmps27
  go_wp2_with fail
  refine (allHalf_calls s hm _).mono ?_
  rw [HN.out]
  rintro e w1 ⟨rfl, hw⟩
  have hw' := hw.symm
  subst hw'
  clear hm hw
  go_upto_region 15 with fail
  have hown := own_made w w.heap.size (s.size / 2 + 1) (Nat.le_refl _) (by unfold maxLen; omega)
  have hbel := (Below.refl w.heap.size w).alloc (Nat.le_refl _) (.cells (madeCells #[.int .u8 0] (s.size / 2 + 1)) 5)
  generalize hW : w.alloc (.cells (madeCells #[.int .u8 0] (s.size / 2 + 1)) 5) = W1 at *
  generalize hV : Value.slice (some ⟨w.heap.size, 0, none⟩) 0 (s.size / 2 + 1) = V1 at *
  have HOW : Hid (W1.ownsRow w.heap.size 5 1 V1 0 (u8c [])) := hown
  have HBE : Hid (Below w.heap.size w W1) := hbel
  clear hW hV hown hbel hmk hi63
  obtain ⟨B, hB⟩ : ∃ B : UInt8, B = join (UInt8.ofNat 2) 0 := ⟨_, rfl⟩
  have HB : Hid (B = join (UInt8.ofNat 2) 0) := hB
  have HBn : Hid (B.toNat = 32) := by rw [hB]; rfl
  clear hB
  go_wp2_with (at_builtin; refine wpList_append_lies _ rfl (.tmp 30) (.tmp 35) 54 rfl w.heap.size 5 i0 (.int .u8 0) 1 1 Tryd.underlying54 hi0 hz0 hz1 hz2 rfl (by decide) V1 0 (u8c []) rfl (HOW.out.alloc _) ⟨W1.heap.size, 0, none⟩ 1 1 [.int .u8 32] rfl rfl (cell_one_new _ _ _) ?c2 (by omega) ?c3 ?c4 ?c5 _ rfl ?c6)
  case c2 => intro u hu; simp at hu; subst hu; rfl
  case c3 => unfold maxLen; omega
  case c4 => omega
  case c5 => have := HBE.out.size; simp; omega
  case c6 =>
    intro g1 cap1 W2 hown2 hgrow2 hat2 hlt2
    have hown2 : W2.ownsRow w.heap.size 5 1 (.slice (some ⟨g1, 0, none⟩) (0 + 1) cap1) (0 + 1) (u8c [B]) := by
      have e : u8c [B] = u8c [] ++ [Value.int .u8 32] := by simp [u8c, HBn.out]
      rw [e]; exact hown2
    have hb2 : Below w.heap.size w W2 := (HBE.out.alloc HBE.out.size _).grown hgrow2 (by have := HBE.out.size; simp; omega) (fun k hk => (HOW.out.lt k hk).1)
    have HO2 : Hid (W2.ownsRow w.heap.size 5 1 (.slice (some ⟨g1, 0, none⟩) (0 + 1) cap1) (0 + 1) (u8c [B])) := hown2
    have HB2 : Hid (Below w.heap.size w W2) := hb2
    clear hown2 hgrow2 hat2 hlt2 hb2 HOW HBE 
    go_wp2_with fail
    go_loopg [7, 9] (s.size / 2) (fun n r v wr => ∃ j gb cap : Nat, n = s.size / 2 - j ∧ 0 + 2 * j ≤ s.size ∧ r = .int .i64 ((0 + 2 * j : Nat) : Int) ∧ v = .slice (some ⟨gb, 0, none⟩) (j + 1) cap ∧
      wr.ownsRow w.heap.size 5 1 (.slice (some ⟨gb, 0, none⟩) (j + 1) cap) (j + 1) (u8c (B :: pairs (s.data.toList.take (2 * j)))) ∧ Below w.heap.size w wr)
    case atStart => exact ⟨0, g1, cap1, by omega, by omega, rfl, rfl, HO2.out, HB2.out⟩
    case round =>
      obtain ⟨j, gb, cap, hg, hj, rfl, rfl, hown, hbel⟩ := hrel
      have HG : Hid (gk = s.size / 2 - j) := hg
      clear hg HO2 HB2
      obtain ⟨p, hp⟩ : ∃ p : Nat, p = 0 + 2 * j := ⟨_, rfl⟩
      have HP : Hid (p = 0 + 2 * j) := hp
      rw [← hp]
      rw [← hp] at hj
      clear hp
      by_cases hlt : p + 1 < s.size
      · have hnb := nibsB_true HN.out
        have n0 : (s[p]).toNat < 16 := hnb _ (by rw [← Array.mem_def]; exact Array.getElem_mem (by simpa using (by omega : p < s.size)))
        have n1 : (s[p + 1]).toNat < 16 := hnb _ (by rw [← Array.mem_def]; exact Array.getElem_mem (by simpa using hlt))
        have hv : bits .or .u8 (IntKind.u8.wrap (((s[p]).toNat : Int) * 16)) ((s[p + 1]).toNat : Int) = ((join s[p] s[p + 1]).toNat : Int) := by
          rw [or16 _ _ n0 n1, join_nat _ _ n0 n1]
        have HS : Hid (pairs (s.data.toList.take (2 * (j + 1))) = pairs (s.data.toList.take (2 * j)) ++ [join s[p] s[p + 1]]) := by
          have hp := HP.out
          have hll : 2 * j + 1 < s.data.toList.length := by have := HL.out; omega
          have e : 2 * (j + 1) = 2 * j + 2 := by omega
          rw [e, take_two _ _ hll, pairs_append _ _ (by rw [List.length_take]; omega)]
          congr 1
          have e0 : s.data.toList[2 * j] = s[p] := by subst hp; simp only [Nat.zero_add]; rfl
          have e1 : s.data.toList[2 * j + 1] = s[p + 1] := by subst hp; simp only [Nat.zero_add]; rfl
          rw [e0, e1]; rfl
        have HOW : Hid (wr.ownsRow w.heap.size 5 1 (.slice (some ⟨gb, 0, none⟩) (j + 1) cap) (j + 1) (u8c (B :: pairs (s.data.toList.take (2 * j))))) := hown
        have HBE : Hid (Below w.heap.size w wr) := hbel
        have hjb : j < 4096 := by have := HP.out; omega
        have hp0 : p < s.size := by omega
        have hp1 : (p : Int) < (s.size : Int) := by omega
        have hp2 : (p : Int) + 1 < (s.size : Int) := by omega
        have hp3 : (0 : Int) ≤ (p : Int) + 1 := by omega
        have iw : IntKind.i64.wrap ((p : Int) + 1) = (p : Int) + 1 := by rw [IntKind.wrap_i64]; omega
        clear hnb n0 n1 hown hbel
        generalize hJ : join s[p] s[p + 1] = J at *
        generalize hks : u8c (B :: pairs (s.data.toList.take (2 * j))) = ks at *
        have HK : Hid (u8c (B :: pairs (s.data.toList.take (2 * j))) = ks) := hks
        clear hks
        go_wp2_with fail
        go_region_law (refine step_append_lies _ rfl (.tmp 44) (.tmp 54) 54 rfl w.heap.size 5 i0 (.int .u8 0) 1 1 Tryd.underlying54 hi0 hz0 hz1 hz2 rfl (by decide) (.slice (some ⟨gb, 0, none⟩) (j + 1) cap) (j + 1) ks (by simp [Act.eval]) (HOW.out.drew.alloc _) ⟨wr.heap.size, 0, none⟩ 1 1 [.int .u8 (J.toNat : Int)] (by simp [Act.eval]) rfl (cell_one_new _ _ _) (by intro u hu; simp at hu; subst hu; rfl) (by omega) (by unfold maxLen; omega) (by omega) (by have := HBE.out.size; simp; omega) _ rfl ?_; intro g2 cap2 W3 hown3 hgrow3 hat3 hlt3)
        all_goals
          have hb3 : Below w.heap.size w W3 := (HBE.out.drew.alloc HBE.out.size _).grown hgrow3 (by have := HBE.out.size; simp; omega) (fun k hk => (HOW.out.lt k hk).1)
          have HO3 : Hid (W3.ownsRow w.heap.size 5 1 (.slice (some ⟨g2, 0, none⟩) (j + 1 + 1) cap2) (j + 1 + 1) (ks ++ [.int .u8 (J.toNat : Int)])) := hown3
          have HB3 : Hid (Below w.heap.size w W3) := hb3
          clear hown3 hgrow3 hat3 hlt3 hb3
          go_wp2_with fail
          go_roundg (s.size / 2 - (j + 1))
          case measure => have := HG.out; have := HP.out; omega
          case rel =>
            refine ⟨j + 1, g2, cap2, rfl, by have := HP.out; omega, by have := HP.out; rw [show 0 + 2 * (j + 1) = p + 2 by omega]; go_num, rfl, ?_, HB3.out⟩
            have e : u8c (B :: pairs (s.data.toList.take (2 * (j + 1)))) = ks ++ [.int .u8 (J.toNat : Int)] := by
              rw [HS.out, ← HK.out]; simp [u8c]
            rw [e]; exact HO3.out
      · have HBE : Hid (Below w.heap.size w wr) := hbel
        have hfin : B :: pairs (s.data.toList.take (2 * j)) = packU s.data.toList true := by
          have hp := HP.out
          have ho := HO.out
          have hl := HL.out
          unfold packU
          rw [if_neg (by rw [hl]; omega), List.take_of_length_le (by omega), HB.out]
          skip
          rfl
        have hconv := run_convert_bytes_arg (P := Tryd.prog) wr 54 5 Tryd.underlying54 Tryd.underlying5 gb 0 (j + 1) cap ((packU s.data.toList true).map (fun c => (c.toNat : Int))) (by
            rw [List.length_map, packU_length]; have hp := HP.out; have hl := HL.out; have ho := HO.out; rw [hl]; omega) (fun i hi => by
            have := hown.cellAt i (by rw [Nat.mul_one]; exact hi)
            rw [Nat.zero_add, this, hfin]
            have hlen : i < (packU s.data.toList true).length := by rw [packU_length]; have hp := HP.out; have hl := HL.out; have ho := HO.out; rw [hl]; omega
            simp [u8c, List.getD, List.getElem?_eq_getElem hlen]) 9 Tryd.underlying9
        rw [strOfNums_bytes] at hconv
        have HP1 : ¬ ((p : Int) + 1 < (s.size : Int)) := by omega
        clear hown hbel hfin
        go_wp2_with fail
        go_ret2
        exact ⟨rfl, HBE.out⟩
set_option maxRecDepth 100000 in
set_option maxHeartbeats 400000 in
theorem pack_en (s : ByteArray) (hs : s.size < 8192) (hn : nibsB s.data.toList = true) (hodd : s.size % 2 = 0) (w : World) :
    Calls Tryd.prog 27 #[.string s, .bool false] w fun e w' => e = .returned (.tuple #[.string (str (packU s.data.toList false)), .int .i64 0]) ∧ Below w.heap.size w w' := by
  have hm : s.size ≤ maxLen := by unfold maxLen; omega
  obtain ⟨i0, hi0, hz0, hz1, hz2⟩ := info_parts info5
  have hmk := make_bytes 0 ((s.size : Int) / 2 + 1) (by omega) (by omega) (by omega)
  have HN : Hid (nibsB s.data.toList = true) := hn
  have HO : Hid (s.size % 2 = 0) := hodd
  have hlen : s.data.toList.length = s.size := by simp
  have HL : Hid (s.data.toList.length = s.size) := hlen
  have ht1 : ((s.size : Int) % 2 == 1) = false := beq_eq_false_iff_ne.2 (by omega)
  have hi63 : ((s.size : Int) / 2 + 1).toNat = s.size / 2 + 1 := by omega
  skip
  clear hlen hn hodd
  go_enter Tryd.func27, Tryd.ntmps27
  go_wp2_with fail
  refine (allHalf_calls s hm _).mono ?_
  rw [HN.out]
  rintro e w1 ⟨rfl, hw⟩
  have hw' := hw.symm
  subst hw'
  clear hm hw
  go_upto_region 15 with fail
  have hown := own_made w w.heap.size (s.size / 2 + 1) (Nat.le_refl _) (by unfold maxLen; omega)
  have hbel := (Below.refl w.heap.size w).alloc (Nat.le_refl _) (.cells (madeCells #[.int .u8 0] (s.size / 2 + 1)) 5)
  generalize hW : w.alloc (.cells (madeCells #[.int .u8 0] (s.size / 2 + 1)) 5) = W1 at *
  generalize hV : Value.slice (some ⟨w.heap.size, 0, none⟩) 0 (s.size / 2 + 1) = V1 at *
  have HOW : Hid (W1.ownsRow w.heap.size 5 1 V1 0 (u8c [])) := hown
  have HBE : Hid (Below w.heap.size w W1) := hbel
  clear hW hV hown hbel hmk hi63
  obtain ⟨B, hB⟩ : ∃ B : UInt8, B = join (UInt8.ofNat 0) 0 := ⟨_, rfl⟩
  have HB : Hid (B = join (UInt8.ofNat 0) 0) := hB
  have HBn : Hid (B.toNat = 0) := by rw [hB]; rfl
  clear hB
  go_wp2_with (at_builtin; refine wpList_append_lies _ rfl (.tmp 30) (.tmp 35) 54 rfl w.heap.size 5 i0 (.int .u8 0) 1 1 Tryd.underlying54 hi0 hz0 hz1 hz2 rfl (by decide) V1 0 (u8c []) rfl (HOW.out.alloc _) ⟨W1.heap.size, 0, none⟩ 1 1 [.int .u8 0] rfl rfl (cell_one_new _ _ _) ?c2 (by omega) ?c3 ?c4 ?c5 _ rfl ?c6)
  case c2 => intro u hu; simp at hu; subst hu; rfl
  case c3 => unfold maxLen; omega
  case c4 => omega
  case c5 => have := HBE.out.size; simp; omega
  case c6 =>
    intro g1 cap1 W2 hown2 hgrow2 hat2 hlt2
    have hown2 : W2.ownsRow w.heap.size 5 1 (.slice (some ⟨g1, 0, none⟩) (0 + 1) cap1) (0 + 1) (u8c [B]) := by
      have e : u8c [B] = u8c [] ++ [Value.int .u8 0] := by simp [u8c, HBn.out]
      rw [e]; exact hown2
    have hb2 : Below w.heap.size w W2 := (HBE.out.alloc HBE.out.size _).grown hgrow2 (by have := HBE.out.size; simp; omega) (fun k hk => (HOW.out.lt k hk).1)
    have HO2 : Hid (W2.ownsRow w.heap.size 5 1 (.slice (some ⟨g1, 0, none⟩) (0 + 1) cap1) (0 + 1) (u8c [B])) := hown2
    have HB2 : Hid (Below w.heap.size w W2) := hb2
    clear hown2 hgrow2 hat2 hlt2 hb2 HOW HBE 
    go_wp2_with fail
    go_loopg [7, 9] (s.size / 2) (fun n r v wr => ∃ j gb cap : Nat, n = s.size / 2 - j ∧ 0 + 2 * j ≤ s.size ∧ r = .int .i64 ((0 + 2 * j : Nat) : Int) ∧ v = .slice (some ⟨gb, 0, none⟩) (j + 1) cap ∧
      wr.ownsRow w.heap.size 5 1 (.slice (some ⟨gb, 0, none⟩) (j + 1) cap) (j + 1) (u8c (B :: pairs (s.data.toList.take (2 * j)))) ∧ Below w.heap.size w wr)
    case atStart => exact ⟨0, g1, cap1, by omega, by omega, rfl, rfl, HO2.out, HB2.out⟩
    case round =>
      obtain ⟨j, gb, cap, hg, hj, rfl, rfl, hown, hbel⟩ := hrel
      have HG : Hid (gk = s.size / 2 - j) := hg
      clear hg HO2 HB2
      obtain ⟨p, hp⟩ : ∃ p : Nat, p = 0 + 2 * j := ⟨_, rfl⟩
      have HP : Hid (p = 0 + 2 * j) := hp
      rw [← hp]
      rw [← hp] at hj
      clear hp
      by_cases hlt : p + 1 < s.size
      · have hnb := nibsB_true HN.out
        have n0 : (s[p]).toNat < 16 := hnb _ (by rw [← Array.mem_def]; exact Array.getElem_mem (by simpa using (by omega : p < s.size)))
        have n1 : (s[p + 1]).toNat < 16 := hnb _ (by rw [← Array.mem_def]; exact Array.getElem_mem (by simpa using hlt))
        have hv : bits .or .u8 (IntKind.u8.wrap (((s[p]).toNat : Int) * 16)) ((s[p + 1]).toNat : Int) = ((join s[p] s[p + 1]).toNat : Int) := by
          rw [or16 _ _ n0 n1, join_nat _ _ n0 n1]
        have HS : Hid (pairs (s.data.toList.take (2 * (j + 1))) = pairs (s.data.toList.take (2 * j)) ++ [join s[p] s[p + 1]]) := by
          have hp := HP.out
          have hll : 2 * j + 1 < s.data.toList.length := by have := HL.out; omega
          have e : 2 * (j + 1) = 2 * j + 2 := by omega
          rw [e, take_two _ _ hll, pairs_append _ _ (by rw [List.length_take]; omega)]
          congr 1
          have e0 : s.data.toList[2 * j] = s[p] := by subst hp; simp only [Nat.zero_add]; rfl
          have e1 : s.data.toList[2 * j + 1] = s[p + 1] := by subst hp; simp only [Nat.zero_add]; rfl
          rw [e0, e1]; rfl
        have HOW : Hid (wr.ownsRow w.heap.size 5 1 (.slice (some ⟨gb, 0, none⟩) (j + 1) cap) (j + 1) (u8c (B :: pairs (s.data.toList.take (2 * j))))) := hown
        have HBE : Hid (Below w.heap.size w wr) := hbel
        have hjb : j < 4096 := by have := HP.out; omega
        have hp0 : p < s.size := by omega
        have hp1 : (p : Int) < (s.size : Int) := by omega
        have hp2 : (p : Int) + 1 < (s.size : Int) := by omega
        have hp3 : (0 : Int) ≤ (p : Int) + 1 := by omega
        have iw : IntKind.i64.wrap ((p : Int) + 1) = (p : Int) + 1 := by rw [IntKind.wrap_i64]; omega
        clear hnb n0 n1 hown hbel
        generalize hJ : join s[p] s[p + 1] = J at *
        generalize hks : u8c (B :: pairs (s.data.toList.take (2 * j))) = ks at *
        have HK : Hid (u8c (B :: pairs (s.data.toList.take (2 * j))) = ks) := hks
        clear hks
        go_wp2_with fail
        go_region_law (refine step_append_lies _ rfl (.tmp 44) (.tmp 54) 54 rfl w.heap.size 5 i0 (.int .u8 0) 1 1 Tryd.underlying54 hi0 hz0 hz1 hz2 rfl (by decide) (.slice (some ⟨gb, 0, none⟩) (j + 1) cap) (j + 1) ks (by simp [Act.eval]) (HOW.out.drew.alloc _) ⟨wr.heap.size, 0, none⟩ 1 1 [.int .u8 (J.toNat : Int)] (by simp [Act.eval]) rfl (cell_one_new _ _ _) (by intro u hu; simp at hu; subst hu; rfl) (by omega) (by unfold maxLen; omega) (by omega) (by have := HBE.out.size; simp; omega) _ rfl ?_; intro g2 cap2 W3 hown3 hgrow3 hat3 hlt3)
        all_goals
          have hb3 : Below w.heap.size w W3 := (HBE.out.drew.alloc HBE.out.size _).grown hgrow3 (by have := HBE.out.size; simp; omega) (fun k hk => (HOW.out.lt k hk).1)
          have HO3 : Hid (W3.ownsRow w.heap.size 5 1 (.slice (some ⟨g2, 0, none⟩) (j + 1 + 1) cap2) (j + 1 + 1) (ks ++ [.int .u8 (J.toNat : Int)])) := hown3
          have HB3 : Hid (Below w.heap.size w W3) := hb3
          clear hown3 hgrow3 hat3 hlt3 hb3
          go_wp2_with fail
          go_roundg (s.size / 2 - (j + 1))
          case measure => have := HG.out; have := HP.out; omega
          case rel =>
            refine ⟨j + 1, g2, cap2, rfl, by have := HP.out; omega, by have := HP.out; rw [show 0 + 2 * (j + 1) = p + 2 by omega]; go_num, rfl, ?_, HB3.out⟩
            have e : u8c (B :: pairs (s.data.toList.take (2 * (j + 1)))) = ks ++ [.int .u8 (J.toNat : Int)] := by
              rw [HS.out, ← HK.out]; simp [u8c]
            rw [e]; exact HO3.out
      · have HBE : Hid (Below w.heap.size w wr) := hbel
        have hfin : B :: pairs (s.data.toList.take (2 * j)) = packU s.data.toList false := by
          have hp := HP.out
          have ho := HO.out
          have hl := HL.out
          unfold packU
          rw [if_neg (by rw [hl]; omega), List.take_of_length_le (by omega), HB.out]
          skip
          rfl
        have hconv := run_convert_bytes_arg (P := Tryd.prog) wr 54 5 Tryd.underlying54 Tryd.underlying5 gb 0 (j + 1) cap ((packU s.data.toList false).map (fun c => (c.toNat : Int))) (by
            rw [List.length_map, packU_length]; have hp := HP.out; have hl := HL.out; have ho := HO.out; rw [hl]; omega) (fun i hi => by
            have := hown.cellAt i (by rw [Nat.mul_one]; exact hi)
            rw [Nat.zero_add, this, hfin]
            have hlen : i < (packU s.data.toList false).length := by rw [packU_length]; have hp := HP.out; have hl := HL.out; have ho := HO.out; rw [hl]; omega
            simp [u8c, List.getD, List.getElem?_eq_getElem hlen]) 9 Tryd.underlying9
        rw [strOfNums_bytes] at hconv
        have HP1 : ¬ ((p : Int) + 1 < (s.size : Int)) := by omega
        clear hown hbel hfin
        go_wp2_with fail
        go_ret2
        exact ⟨rfl, HBE.out⟩

theorem pack_calls (s : ByteArray) (leaf : Bool) (hs : s.size < 8192) (hn : Nibs s.data.toList) (w : World) :
    Calls Tryd.prog 27 #[.string s, .bool leaf] w fun e w' => e = .returned (.tuple #[.string (str (packU s.data.toList leaf)), .int .i64 0]) ∧ Below w.heap.size w w' := by
  have h := nibsB_of hn
  by_cases ho : s.size % 2 = 1
  · cases leaf
    · exact pack_on s hs h ho w
    · exact pack_ol s hs h ho w
  · have he : s.size % 2 = 0 := by omega
    cases leaf
    · exact pack_en s hs h he w
    · exact pack_el s hs h he w
end Go.Proofs.YtenmjjpkbcogbaaDoor

/- NibU -/
namespace Go.Proofs.YtenmjjpkbcogbaaDoor
open Go.RowKit

theorem and15 (c : UInt8) : bits .and .u8 (c.toNat : Int) 15 = ((lo c).toNat : Int) := by
  have := u8_and_nat c.toNat 15 c.toNat_lt (by omega)
  rw [nat_mask4] at this
  rw [lo_nat]; exact this
theorem div16 (c : UInt8) : (c.toNat : Int) / 16 = ((hi c).toNat : Int) := by rw [hi_nat]; omega
theorem and1 (m : Nat) (h : m < 256) : bits .and .u8 (m : Int) 1 = ((m % 2 : Nat) : Int) := by
  have := u8_and_nat m 1 h (by omega)
  rw [nat_mask1] at this
  exact this
theorem and2 (m : Nat) (h : m < 4) : bits .and .u8 (m : Int) 2 = ((m / 2 * 2 : Nat) : Int) := by
  have := u8_and_nat m 2 (by omega) (by omega)
  rw [show (2 : Nat) = 2 ^ 1 from rfl, nat_bit] at this
  have e : m / 2 ^ 1 % 2 * 2 ^ 1 = m / 2 * 2 := by omega
  rw [e] at this
  exact this

set_option maxRecDepth 100000 in
set_option maxHeartbeats 400000 in
theorem unpack_bad (s : ByteArray) (hs : s.size ≤ maxLen) (hb : 4096 < s.size ∨ ¬ formU s.data.toList) (w : World) :
    Calls Tryd.prog 77 #[.string s] w fun e w' => e = .returned (.tuple #[.string ByteArray.empty, .bool false, .int .i64 (if 4096 < s.size then 1 else 7)]) ∧ w' = w := by
  unfold maxLen at hs
  by_cases h1 : 4096 < s.size
  · rw [if_pos h1]
    have h1' : (4096 : Int) < (s.size : Int) := by omega
    clear hb
    go_enter Tryd.func77, Tryd.ntmps77
    go_wp2_with fail
    go_ret3
    exact ⟨rfl, rfl⟩
  · rw [if_neg h1]
    have hb : ¬ formU s.data.toList := by rcases hb with h | h; exact absurd h h1; exact h
    by_cases h0 : s.size = 0
    · have h0' : ((s.size : Int) == 0) = true := beq_iff_eq.2 (by omega)
      clear hb h0
      go_enter Tryd.func77, Tryd.ntmps77
      go_wp2_with fail
      go_ret3
      exact ⟨rfl, rfl⟩
    · have h0' : ((s.size : Int) == 0) = false := beq_eq_false_iff_ne.2 (by omega)
      have hp : 0 < s.size := by omega
      have e0 : s.data.toList.getD 0 0 = s[0] := by rw [List.getD_eq_getElem?_getD, List.getElem?_eq_getElem (by simpa using hp)]; rfl
      have hne : s.data.toList ≠ [] := by
        intro h
        have hl : s.data.toList.length = s.size := by simp
        rw [h] at hl
        have : (0 : Nat) = s.size := hl
        omega
      unfold formU at hb
      rw [e0] at hb
      have hd := div16 s[0]
      have ha := and15 s[0]
      have hm := hi_lt s[0]
      have hl := lo_lt s[0]
      generalize hcm : (hi s[0]).toNat = m at *
      generalize hcl : (lo s[0]).toNat = l at *
      clear hcm hcl e0
      have h2 := and1 m (by omega)
      by_cases h3 : 3 < m
      · have h3' : (3 : Int) < (m : Int) := by omega
        clear hb
        go_enter Tryd.func77, Tryd.ntmps77
        go_wp2_with fail
        all_goals (go_ret3; exact ⟨rfl, rfl⟩)
      · have hev : m % 2 = 0 ∧ l ≠ 0 := by
          by_cases he : m % 2 = 0
          · refine ⟨he, fun hl0 => hb ⟨hne, by omega, fun _ => hl0⟩⟩
          · exact absurd ⟨hne, by omega, fun h => absurd h he⟩ hb
        have h3' : decide ((3 : Int) < (m : Int)) = false := by simp; omega
        have h4 : (((m % 2 : Nat) : Int) != 0) = false := by simp; omega
        have h5 : ((l : Int) != 0) = true := by simp; omega
        rw [hev.1] at h2
        clear hb
        go_enter Tryd.func77, Tryd.ntmps77
        go_wp2_with fail
        all_goals (go_ret3; exact ⟨rfl, rfl⟩)

theorem own_two (w : World) (a b : Value) : ∀ j u, [a, b][j]? = some u → (w.alloc (.cells #[a, b] 5)).cell? ((⟨w.heap.size, 0, none⟩ : Addr).add j) = some u := by
  intro j u hj
  match j, hj with
  | 0, hj => simp at hj; subst hj; simp [Addr.add]
  | 1, hj => simp at hj; subst hj; simp [Addr.add]
  | (j + 2), hj => simp at hj

set_option maxRecDepth 100000 in
set_option maxHeartbeats 1000000 in
theorem unpack_good (s : ByteArray) (hs : s.size ≤ 4096) (hf : formU s.data.toList) (w : World) :
    Calls Tryd.prog 77 #[.string s] w fun e w' => e = .returned (.tuple #[.string (str (pathU s.data.toList)), .bool (leafU s.data.toList), .int .i64 0]) ∧ Below w.heap.size w w' := by
  obtain ⟨i0, hi0, hz0, hz1, hz2⟩ := info_parts info5
  have hmk := make_bytes 0 (2 * (s.size : Int)) (by omega) (by omega) (by omega)
  have hlen : s.data.toList.length = s.size := by simp
  have HL : Hid (s.data.toList.length = s.size) := hlen
  obtain ⟨hne, hm3, hev⟩ := hf
  have hp : 0 < s.size := by
    rcases Nat.eq_zero_or_pos s.size with h | h
    · rw [h] at hlen; exact absurd (List.length_eq_zero_iff.1 hlen) hne
    · exact h
  have e0 : s.data.toList.getD 0 0 = s[0] := by rw [List.getD_eq_getElem?_getD, List.getElem?_eq_getElem (by simpa using hp)]; rfl
  rw [e0] at hm3 hev
  have hd := div16 s[0]
  have ha := and15 s[0]
  have hll := lo_lt s[0]
  have HPA : Hid (pathU s.data.toList = (if (hi s[0]).toNat % 2 = 1 then [lo s[0]] else []) ++ halvesU (s.data.toList.drop 1)) := by unfold pathU; rw [e0]; rfl
  have HLE : Hid (leafU s.data.toList = decide (2 ≤ (hi s[0]).toNat % 4)) := by unfold leafU; rw [e0]; rfl
  generalize hcm : (hi s[0]).toNat = m at *
  clear hcm e0 hlen
  have h1' : decide ((4096 : Int) < (s.size : Int)) = false := by simp; omega
  have h0' : ((s.size : Int) == 0) = false := beq_eq_false_iff_ne.2 (by omega)
  have h3' : decide ((3 : Int) < (m : Int)) = false := by simp; omega
  have h2 := and1 m (by omega)
  have h22 := and2 m (by omega)
  have hi63 : (2 * (s.size : Int)).toNat = 2 * s.size := by omega
  by_cases ho : m % 2 = 1
  · rw [ho] at h2
    rw [if_pos ho] at HPA
    clear hev
    go_enter Tryd.func77, Tryd.ntmps77
    go_upto_region 12 with fail
    have hown := own_made w w.heap.size (2 * s.size) (Nat.le_refl _) (by unfold maxLen; omega)
    have hbel := (Below.refl w.heap.size w).alloc (Nat.le_refl _) (.cells (madeCells #[.int .u8 0] (2 * s.size)) 5)
    generalize hW : w.alloc (.cells (madeCells #[.int .u8 0] (2 * s.size)) 5) = W1 at *
    generalize hV : Value.slice (some ⟨w.heap.size, 0, none⟩) 0 (2 * s.size) = V1 at *
    have HOW : Hid (W1.ownsRow w.heap.size 5 1 V1 0 (u8c [])) := hown
    have HBE : Hid (Below w.heap.size w W1) := hbel
    clear hW hV hown hbel hmk hi63
    go_wp2_with (at_builtin; refine wpList_append_lies _ rfl (.tmp 40) (.tmp 42) 54 rfl w.heap.size 5 i0 (.int .u8 0) 1 1 Tryd.underlying54 hi0 hz0 hz1 hz2 rfl (by decide) V1 0 (u8c []) rfl (HOW.out.alloc _) ⟨W1.heap.size, 0, none⟩ 1 1 [.int .u8 ((lo s[0]).toNat : Int)] rfl rfl (cell_one_new _ _ _) ?c2 (by omega) ?c3 ?c4 ?c5 _ rfl ?c6)
    case c2 => intro u hu; simp at hu; subst hu; rfl
    case c3 => unfold maxLen; omega
    case c4 => omega
    case c5 => have := HBE.out.size; simp; omega
    intro g1 cap1 W2 hown2 hgrow2 hat2 hlt2
    have hb2 : Below w.heap.size w W2 := (HBE.out.alloc HBE.out.size _).grown hgrow2 (by have := HBE.out.size; simp; omega) (fun k hk => (HOW.out.lt k hk).1)
    have HO2 : Hid (W2.ownsRow w.heap.size 5 1 (.slice (some ⟨g1, 0, none⟩) 1 cap1) 1 (u8c [lo s[0]])) := hown2
    have HB2 : Hid (Below w.heap.size w W2) := hb2
    clear hown2 hgrow2 hat2 hlt2 hb2 HOW HBE
    go_wp2_with fail
    go_loopg [8, 9] s.size (fun n v r wr => ∃ j gb cap : Nat, n = s.size - j ∧ j + 1 ≤ s.size ∧ r = .int .i64 ((j + 1 : Nat) : Int) ∧ v = .slice (some ⟨gb, 0, none⟩) (1 + 2 * j) cap ∧
      wr.ownsRow w.heap.size 5 1 (.slice (some ⟨gb, 0, none⟩) (1 + 2 * j) cap) (1 + 2 * j) (u8c ([lo s[0]] ++ halvesU ((s.data.toList.drop 1).take j))) ∧ Below w.heap.size w wr)
    case atStart => exact ⟨0, g1, cap1, by omega, by omega, rfl, rfl, HO2.out, HB2.out⟩
    case round =>
      obtain ⟨j, gb, cap, hg, hj, rfl, rfl, hown, hbel⟩ := hrel
      have HG : Hid (gk = s.size - j) := hg
      clear hg HO2 HB2
      obtain ⟨p, hpp⟩ : ∃ p : Nat, p = j + 1 := ⟨_, rfl⟩
      obtain ⟨N, hN⟩ : ∃ N : Nat, N = 1 + 2 * j := ⟨_, rfl⟩
      have HP : Hid (p = j + 1) := hpp
      have HNN : Hid (N = 1 + 2 * j) := hN
      rw [← hpp, ← hN]
      rw [← hpp] at hj
      rw [← hN] at hown
      clear hpp hN
      by_cases hlt : p < s.size
      · have hd2 := div16 s[p]
        have ha2 := and15 s[p]
        have HS : Hid (halvesU ((s.data.toList.drop 1).take (j + 1)) = halvesU ((s.data.toList.drop 1).take j) ++ [hi s[p], lo s[p]]) := by
          have hp' := HP.out
          have hll : j < (s.data.toList.drop 1).length := by have := HL.out; rw [List.length_drop]; omega
          rw [List.take_succ_eq_append_getElem hll, halvesU_append]
          congr 1
          have e0 : (s.data.toList.drop 1)[j] = s[p] := by rw [List.getElem_drop]; subst hp'; simp only [Nat.add_comm 1 j]; rfl
          rw [e0]; rfl
        have HOW : Hid (wr.ownsRow w.heap.size 5 1 (.slice (some ⟨gb, 0, none⟩) N cap) N (u8c ([lo s[0]] ++ halvesU ((s.data.toList.drop 1).take j)))) := hown
        have HBE : Hid (Below w.heap.size w wr) := hbel
        have hjb : N < 8192 := by have := HP.out; have := HNN.out; omega
        have hp1 : (p : Int) < (s.size : Int) := by omega
        clear hown hbel
        generalize hi s[p] = cA at *
        generalize lo s[p] = cB at *
        generalize hks : u8c ([lo s[0]] ++ halvesU ((s.data.toList.drop 1).take j)) = ks at *
        have HK : Hid (u8c ([lo s[0]] ++ halvesU ((s.data.toList.drop 1).take j)) = ks) := hks
        clear hks
        go_wp2_with fail
        go_region_law (refine step_append_lies _ rfl (.tmp 50) (.tmp 59) 54 rfl w.heap.size 5 i0 (.int .u8 0) 1 1 Tryd.underlying54 hi0 hz0 hz1 hz2 rfl (by decide) (.slice (some ⟨gb, 0, none⟩) N cap) N ks (by simp [Act.eval]) (HOW.out.drew.alloc _) ⟨wr.heap.size, 0, none⟩ 2 2 [.int .u8 (cA.toNat : Int), .int .u8 (cB.toNat : Int)] (by simp [Act.eval]) rfl (own_two _ _ _) (by intro u hu; simp at hu; rcases hu with rfl | rfl <;> rfl) (by omega) (by unfold maxLen; omega) (by omega) (by have := HBE.out.size; simp; omega) _ rfl ?_; intro g2 cap2 W3 hown3 hgrow3 hat3 hlt3)
        all_goals
          have hb3 : Below w.heap.size w W3 := (HBE.out.drew.alloc HBE.out.size _).grown hgrow3 (by have := HBE.out.size; simp; omega) (fun k hk => (HOW.out.lt k hk).1)
          have HO3 : Hid (W3.ownsRow w.heap.size 5 1 (.slice (some ⟨g2, 0, none⟩) (N + 2) cap2) (N + 2) (ks ++ [.int .u8 (cA.toNat : Int), .int .u8 (cB.toNat : Int)])) := hown3
          have HB3 : Hid (Below w.heap.size w W3) := hb3
          clear hown3 hgrow3 hat3 hlt3 hb3
          go_wp2_with fail
          go_roundg (s.size - (j + 1))
          case measure => have := HG.out; have := HP.out; omega
          case rel =>
            have hNN := HNN.out
            refine ⟨j + 1, g2, cap2, rfl, by have := HP.out; omega, by have := HP.out; rw [show j + 1 + 1 = p + 1 by omega]; go_num, by rw [show 1 + 2 * (j + 1) = N + 2 by omega], ?_, HB3.out⟩
            have e : u8c ([lo s[0]] ++ halvesU ((s.data.toList.drop 1).take (j + 1))) = ks ++ [.int .u8 (cA.toNat : Int), .int .u8 (cB.toNat : Int)] := by
              rw [HS.out, ← HK.out]; simp [u8c]
            rw [e, show 1 + 2 * (j + 1) = N + 2 by omega]; exact HO3.out
      · have HBE : Hid (Below w.heap.size w wr) := hbel
        have hfin : [lo s[0]] ++ halvesU ((s.data.toList.drop 1).take j) = pathU s.data.toList := by
          have hp' := HP.out
          have hl := HL.out
          rw [HPA.out, List.take_of_length_le (by rw [List.length_drop]; omega)]
        have hlenP : (pathU s.data.toList).length = N := by
          have hp' := HP.out
          have hl := HL.out
          have hNN := HNN.out
          rw [HPA.out, List.length_append, halvesU_length, List.length_drop, hl, hNN]; simp; omega
        have hconv := run_convert_bytes_arg (P := Tryd.prog) wr 54 5 Tryd.underlying54 Tryd.underlying5 gb 0 N cap ((pathU s.data.toList).map (fun c => (c.toNat : Int))) (by
            rw [List.length_map, hlenP]) (fun i hi' => by
            have := hown.cellAt i (by rw [Nat.mul_one]; exact hi')
            rw [Nat.zero_add, this, hfin]
            have hlen' : i < (pathU s.data.toList).length := by rw [hlenP]; exact hi'
            simp [u8c, List.getD, List.getElem?_eq_getElem hlen']) 9 Tryd.underlying9
        rw [strOfNums_bytes] at hconv
        have HP1 : ¬ ((p : Int) < (s.size : Int)) := by omega
        have hleaf : (((m : Int) / 2 * 2) != 0) = leafU s.data.toList := by
          rw [HLE.out]
          by_cases h2m : 2 ≤ m % 4
          · rw [decide_eq_true h2m, bne_iff_ne]; omega
          · rw [decide_eq_false h2m]; simp; omega
        generalize hlfU : leafU s.data.toList = lf at *
        clear hown hbel hfin hlenP
        go_wp2_with fail
        go_ret3
        exact ⟨rfl, HBE.out⟩
  · have hm0 : m % 2 = 0 := by omega
    rw [hm0] at h2
    rw [if_neg ho] at HPA
    have hlo0 := hev hm0
    rw [hlo0] at ha
    clear hev
    go_enter Tryd.func77, Tryd.ntmps77
    go_upto_region 13 with fail
    have hown := own_made w w.heap.size (2 * s.size) (Nat.le_refl _) (by unfold maxLen; omega)
    have hbel := (Below.refl w.heap.size w).alloc (Nat.le_refl _) (.cells (madeCells #[.int .u8 0] (2 * s.size)) 5)
    generalize hW : w.alloc (.cells (madeCells #[.int .u8 0] (2 * s.size)) 5) = W1 at *
    obtain ⟨g1, hg1⟩ : ∃ g1, g1 = w.heap.size := ⟨_, rfl⟩
    obtain ⟨cap1, hcap1⟩ : ∃ c, c = 2 * s.size := ⟨_, rfl⟩
    have HO2 : Hid (W1.ownsRow w.heap.size 5 1 (.slice (some ⟨g1, 0, none⟩) 0 cap1) 0 (u8c [])) := by rw [hg1, hcap1]; exact hown
    have HB2 : Hid (Below w.heap.size w W1) := hbel
    rw [← hcap1, ← hg1]
    clear hW hown hbel hmk hi63 hg1 hcap1
    go_wp2_with fail
    go_loopg [8, 9] s.size (fun n v r wr => ∃ j gb cap : Nat, n = s.size - j ∧ j + 1 ≤ s.size ∧ r = .int .i64 ((j + 1 : Nat) : Int) ∧ v = .slice (some ⟨gb, 0, none⟩) (0 + 2 * j) cap ∧
      wr.ownsRow w.heap.size 5 1 (.slice (some ⟨gb, 0, none⟩) (0 + 2 * j) cap) (0 + 2 * j) (u8c ([] ++ halvesU ((s.data.toList.drop 1).take j))) ∧ Below w.heap.size w wr)
    case atStart => exact ⟨0, g1, cap1, by omega, by omega, rfl, rfl, HO2.out, HB2.out⟩
    case round =>
      obtain ⟨j, gb, cap, hg, hj, rfl, rfl, hown, hbel⟩ := hrel
      have HG : Hid (gk = s.size - j) := hg
      clear hg HO2 HB2
      obtain ⟨p, hpp⟩ : ∃ p : Nat, p = j + 1 := ⟨_, rfl⟩
      obtain ⟨N, hN⟩ : ∃ N : Nat, N = 0 + 2 * j := ⟨_, rfl⟩
      have HP : Hid (p = j + 1) := hpp
      have HNN : Hid (N = 0 + 2 * j) := hN
      rw [← hpp, ← hN]
      rw [← hpp] at hj
      rw [← hN] at hown
      clear hpp hN
      by_cases hlt : p < s.size
      · have hd2 := div16 s[p]
        have ha2 := and15 s[p]
        have HS : Hid (halvesU ((s.data.toList.drop 1).take (j + 1)) = halvesU ((s.data.toList.drop 1).take j) ++ [hi s[p], lo s[p]]) := by
          have hp' := HP.out
          have hll : j < (s.data.toList.drop 1).length := by have := HL.out; rw [List.length_drop]; omega
          rw [List.take_succ_eq_append_getElem hll, halvesU_append]
          congr 1
          have e0 : (s.data.toList.drop 1)[j] = s[p] := by rw [List.getElem_drop]; subst hp'; simp only [Nat.add_comm 1 j]; rfl
          rw [e0]; rfl
        have HOW : Hid (wr.ownsRow w.heap.size 5 1 (.slice (some ⟨gb, 0, none⟩) N cap) N (u8c ([] ++ halvesU ((s.data.toList.drop 1).take j)))) := hown
        have HBE : Hid (Below w.heap.size w wr) := hbel
        have hjb : N < 8192 := by have := HP.out; have := HNN.out; omega
        have hp1 : (p : Int) < (s.size : Int) := by omega
        clear hown hbel
        generalize hi s[p] = cA at *
        generalize lo s[p] = cB at *
        generalize hks : u8c ([] ++ halvesU ((s.data.toList.drop 1).take j)) = ks at *
        have HK : Hid (u8c ([] ++ halvesU ((s.data.toList.drop 1).take j)) = ks) := hks
        clear hks
        go_wp2_with fail
        go_region_law (refine step_append_lies _ rfl (.tmp 50) (.tmp 59) 54 rfl w.heap.size 5 i0 (.int .u8 0) 1 1 Tryd.underlying54 hi0 hz0 hz1 hz2 rfl (by decide) (.slice (some ⟨gb, 0, none⟩) N cap) N ks (by simp [Act.eval]) (HOW.out.drew.alloc _) ⟨wr.heap.size, 0, none⟩ 2 2 [.int .u8 (cA.toNat : Int), .int .u8 (cB.toNat : Int)] (by simp [Act.eval]) rfl (own_two _ _ _) (by intro u hu; simp at hu; rcases hu with rfl | rfl <;> rfl) (by omega) (by unfold maxLen; omega) (by omega) (by have := HBE.out.size; simp; omega) _ rfl ?_; intro g2 cap2 W3 hown3 hgrow3 hat3 hlt3)
        all_goals
          have hb3 : Below w.heap.size w W3 := (HBE.out.drew.alloc HBE.out.size _).grown hgrow3 (by have := HBE.out.size; simp; omega) (fun k hk => (HOW.out.lt k hk).1)
          have HO3 : Hid (W3.ownsRow w.heap.size 5 1 (.slice (some ⟨g2, 0, none⟩) (N + 2) cap2) (N + 2) (ks ++ [.int .u8 (cA.toNat : Int), .int .u8 (cB.toNat : Int)])) := hown3
          have HB3 : Hid (Below w.heap.size w W3) := hb3
          clear hown3 hgrow3 hat3 hlt3 hb3
          go_wp2_with fail
          go_roundg (s.size - (j + 1))
          case measure => have := HG.out; have := HP.out; omega
          case rel =>
            have hNN := HNN.out
            refine ⟨j + 1, g2, cap2, rfl, by have := HP.out; omega, by have := HP.out; rw [show j + 1 + 1 = p + 1 by omega]; go_num, by rw [show 0 + 2 * (j + 1) = N + 2 by omega], ?_, HB3.out⟩
            have e : u8c ([] ++ halvesU ((s.data.toList.drop 1).take (j + 1))) = ks ++ [.int .u8 (cA.toNat : Int), .int .u8 (cB.toNat : Int)] := by
              rw [HS.out, ← HK.out]; simp [u8c]
            rw [e, show 0 + 2 * (j + 1) = N + 2 by omega]; exact HO3.out
      · have HBE : Hid (Below w.heap.size w wr) := hbel
        have hfin : [] ++ halvesU ((s.data.toList.drop 1).take j) = pathU s.data.toList := by
          have hp' := HP.out
          have hl := HL.out
          rw [HPA.out, List.take_of_length_le (by rw [List.length_drop]; omega)]
        have hlenP : (pathU s.data.toList).length = N := by
          have hp' := HP.out
          have hl := HL.out
          have hNN := HNN.out
          rw [HPA.out, List.length_append, halvesU_length, List.length_drop, hl, hNN]; simp; omega
        have hconv := run_convert_bytes_arg (P := Tryd.prog) wr 54 5 Tryd.underlying54 Tryd.underlying5 gb 0 N cap ((pathU s.data.toList).map (fun c => (c.toNat : Int))) (by
            rw [List.length_map, hlenP]) (fun i hi' => by
            have := hown.cellAt i (by rw [Nat.mul_one]; exact hi')
            rw [Nat.zero_add, this, hfin]
            have hlen' : i < (pathU s.data.toList).length := by rw [hlenP]; exact hi'
            simp [u8c, List.getD, List.getElem?_eq_getElem hlen']) 9 Tryd.underlying9
        rw [strOfNums_bytes] at hconv
        have HP1 : ¬ ((p : Int) < (s.size : Int)) := by omega
        have hleaf : (((m : Int) / 2 * 2) != 0) = leafU s.data.toList := by
          rw [HLE.out]
          by_cases h2m : 2 ≤ m % 4
          · rw [decide_eq_true h2m, bne_iff_ne]; omega
          · rw [decide_eq_false h2m]; simp; omega
        generalize hlfU : leafU s.data.toList = lf at *
        clear hown hbel hfin hlenP
        go_wp2_with fail
        go_ret3
        exact ⟨rfl, HBE.out⟩
end Go.Proofs.YtenmjjpkbcogbaaDoor

/- NibB -/
namespace Go.Proofs.YtenmjjpkbcogbaaDoor
open Go.RowKit
theorem str_data (s : ByteArray) : str s.data.toList = s := by unfold str; simp
theorem str_list (l : List UInt8) : (str l).data.toList = l := by unfold str; simp
theorem str_size (l : List UInt8) : (str l).size = l.length := by unfold str; simp [ByteArray.size]

theorem isEmpty_iff (q : ByteArray) : (q.toList.isEmpty = true) = (q.size = 0) := by
  rw [Lib.toList_data q, List.isEmpty_iff]
  have hl : q.data.toList.length = q.size := by simp
  rw [← hl, List.length_eq_zero_iff]
theorem isEmpty_not (q : ByteArray) : (q.toList.isEmpty = false) = ¬ (q.size = 0) := by
  rw [← isEmpty_iff, Bool.not_eq_true]
theorem nibs_extract (q : ByteArray) (h : Nibs q.data.toList) : Nibs (q.extract 1 q.size).data.toList := by
  intro x hx
  simp only [ByteArray.data_extract, Array.toList_extract, List.extract_eq_take_drop] at hx
  exact h x (List.mem_of_mem_drop (List.mem_of_mem_take hx))

end Go.Proofs.YtenmjjpkbcogbaaDoor
