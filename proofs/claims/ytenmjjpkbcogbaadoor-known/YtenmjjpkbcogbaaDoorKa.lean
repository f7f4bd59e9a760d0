import Derived.Test.YtenmjjpkbcogbaaDoorTa
import Derived.Test.YtenmjjpkbcogbaaDoorTe

/- KhA -/
namespace Go.Proofs.YtenmjjpkbcogbaaDoor
open Go.RowKit

def wd (S j : Nat) : Nat := S / 2 ^ (64 * j) % 18446744073709551616
def pkTo (f : Nat → Nat) : Nat → Nat
  | 0 => 0
  | n + 1 => pkTo f n + f n * 2 ^ (64 * n)
def pk (f : Nat → Nat) : Nat := pkTo f 25
def rotN (a n : Nat) : Nat := (a * 2 ^ n % 18446744073709551616) ||| (a / 2 ^ ((64 - n) % 64))
def colN (S x : Nat) : Nat := wd S x ^^^ wd S (x + 5) ^^^ wd S (x + 10) ^^^ wd S (x + 15) ^^^ wd S (x + 20)
def mixN (S : Nat) (j : Nat) : Nat := wd S j ^^^ (colN S ((j + 4) % 5) ^^^ rotN (colN S ((j + 1) % 5)) 1)
def backT : List Nat := [0, 6, 12, 18, 24, 3, 9, 10, 16, 22, 1, 7, 13, 19, 20, 4, 5, 11, 17, 23, 2, 8, 14, 15, 21]
def moveN (S : Nat) (j : Nat) : Nat := rotN (wd S (backT.getD j 0)) (turnsT.getD (backT.getD j 0) 0)
def chiN (S : Nat) (j : Nat) : Nat := wd S j ^^^ (wd S (j / 5 * 5 + (j + 2) % 5) &&& (18446744073709551615 - wd S (j / 5 * 5 + (j + 1) % 5)))
def roundS (i S : Nat) : Nat := pk (chiN (pk (moveN (pk (mixN S))))) ^^^ wordsT.getD i 0
def permS (S : Nat) : Nat → Nat
  | 0 => S
  | k + 1 => roundS k (permS S k)
def flipS (S t c : Nat) : Nat := S ^^^ (c * 2 ^ (8 * t))
def byteS (st : Nat × Nat) (c : UInt8) : Nat × Nat := if st.2 + 1 = 136 then (permS (flipS st.1 st.2 c.toNat) 24, 0) else (flipS st.1 st.2 c.toNat, st.2 + 1)
def writeS (l : List UInt8) : Nat × Nat := l.foldl byteS (0, 0)
def finS (st : Nat × Nat) : Nat := permS (flipS (flipS st.1 st.2 1) 135 128) 24
def hashS (l : List UInt8) : List UInt8 := (List.range 32).map fun i => UInt8.ofNat (finS (writeS l) / 256 ^ i % 256)

end Go.Proofs.YtenmjjpkbcogbaaDoor

/- KhB -/
namespace Go.Proofs.YtenmjjpkbcogbaaDoor
open Go.RowKit

theorem pow64 : 2 ^ 64 = 18446744073709551616 := by decide
theorem wd_lt (S j : Nat) : wd S j < 18446744073709551616 := Nat.mod_lt _ (by decide)
theorem pkTo_lt (f : Nat → Nat) (hf : ∀ j, f j < 18446744073709551616) : ∀ n, pkTo f n < 2 ^ (64 * n)
  | 0 => by simp [pkTo]
  | n + 1 => by
    have h1 := pkTo_lt f hf n
    have h2 := hf n
    show pkTo f n + f n * 2 ^ (64 * n) < 2 ^ (64 * (n + 1))
    rw [show 64 * (n + 1) = 64 * n + 64 by omega, Nat.pow_add, pow64]
    have : f n * 2 ^ (64 * n) ≤ 18446744073709551615 * 2 ^ (64 * n) := Nat.mul_le_mul_right _ (by omega)
    omega
theorem wd_pkTo (f : Nat → Nat) (hf : ∀ j, f j < 18446744073709551616) : ∀ n j, j < n → wd (pkTo f n) j = f j
  | 0, j, h => by omega
  | n + 1, j, h => by
    show (pkTo f n + f n * 2 ^ (64 * n)) / 2 ^ (64 * j) % 18446744073709551616 = f j
    by_cases e : j = n
    · subst e
      rw [Nat.add_mul_div_right _ _ (Nat.pow_pos (by decide)), Nat.div_eq_of_lt (pkTo_lt f hf j), Nat.zero_add, Nat.mod_eq_of_lt (hf j)]
    · have hjn : j < n := by omega
      have e1 : f n * 2 ^ (64 * n) = f n * 2 ^ (64 * (n - j - 1)) * 18446744073709551616 * 2 ^ (64 * j) := by
        rw [← pow64, Nat.mul_assoc, Nat.mul_assoc, ← Nat.pow_add, ← Nat.pow_add]
        congr 2
        omega
      rw [e1, Nat.add_mul_div_right _ _ (Nat.pow_pos (by decide)), Nat.add_mul_mod_self_right]
      exact wd_pkTo f hf n j hjn
theorem wd_pk (f : Nat → Nat) (hf : ∀ j, f j < 18446744073709551616) (j : Nat) (h : j < 25) : wd (pk f) j = f j := wd_pkTo f hf 25 j h

theorem xor_lt {a b : Nat} (ha : a < 18446744073709551616) (hb : b < 18446744073709551616) : a ^^^ b < 18446744073709551616 := by
  rw [← pow64] at *; exact Nat.xor_lt_two_pow ha hb
theorem or_lt {a b : Nat} (ha : a < 18446744073709551616) (hb : b < 18446744073709551616) : a ||| b < 18446744073709551616 := by
  rw [← pow64] at *; exact Nat.or_lt_two_pow ha hb
theorem and_lt {a b : Nat} (hb : b < 18446744073709551616) : a &&& b < 18446744073709551616 := Nat.lt_of_le_of_lt Nat.and_le_right hb
theorem xo_nat {a b : Nat} (ha : a < 18446744073709551616) (hb : b < 18446744073709551616) : xo (a : Int) (b : Int) = ((a ^^^ b : Nat) : Int) := u64_xor_nat a b ha hb
theorem an_nat {a b : Nat} (ha : a < 18446744073709551616) (hb : b < 18446744073709551616) : an (a : Int) (b : Int) = ((a &&& (18446744073709551615 - b) : Nat) : Int) := u64_andNot_nat a b ha hb
theorem rotN_lt {a n : Nat} (ha : a < 18446744073709551616) : rotN a n < 18446744073709551616 :=
  or_lt (Nat.mod_lt _ (by decide)) (Nat.lt_of_le_of_lt (Nat.div_le_self _ _) ha)
theorem rot_nat {a n : Nat} (ha : a < 18446744073709551616) : rot (a : Int) n = (rotN a n : Int) := by
  unfold rot rotN
  have e1 : IntKind.u64.wrap ((a : Int) * 2 ^ n) = ((a * 2 ^ n % 18446744073709551616 : Nat) : Int) := by
    rw [IntKind.wrap_u64]; simp
  have e2 : (a : Int) / 2 ^ ((64 - n) % 64) = ((a / 2 ^ ((64 - n) % 64) : Nat) : Int) := by simp
  rw [e1, e2, u64_or_nat _ _ (Nat.mod_lt _ (by decide)) (Nat.lt_of_le_of_lt (Nat.div_le_self _ _) ha)]

/-- The number S has the words ws. -/
def Packed (ws : Nat → Int) (S : Nat) : Prop := ∀ j, j < 25 → ws j = (wd S j : Int)

theorem colN_lt (S x : Nat) : colN S x < 18446744073709551616 := xor_lt (xor_lt (xor_lt (xor_lt (wd_lt _ _) (wd_lt _ _)) (wd_lt _ _)) (wd_lt _ _)) (wd_lt _ _)
theorem col_nat {ws : Nat → Int} {S : Nat} (h : Packed ws S) (x : Nat) (hx : x < 5) : colF ws x = (colN S x : Int) := by
  unfold colF colN
  rw [h x (by omega), h (x + 5) (by omega), h (x + 10) (by omega), h (x + 15) (by omega), h (x + 20) (by omega)]
  have l1 := wd_lt S x
  have l2 := wd_lt S (x + 5)
  have l3 := wd_lt S (x + 10)
  have l4 := wd_lt S (x + 15)
  have l5 := wd_lt S (x + 20)
  rw [xo_nat l1 l2, xo_nat (xor_lt l1 l2) l3, xo_nat (xor_lt (xor_lt l1 l2) l3) l4, xo_nat (xor_lt (xor_lt (xor_lt l1 l2) l3) l4) l5]
theorem mixN_lt (S j : Nat) : mixN S j < 18446744073709551616 := xor_lt (wd_lt _ _) (xor_lt (colN_lt _ _) (rotN_lt (colN_lt _ _)))
theorem mix_packed {ws : Nat → Int} {S : Nat} (h : Packed ws S) : Packed (mixF ws) (pk (mixN S)) := fun j hj => by
  rw [wd_pk _ (mixN_lt S) j hj]
  unfold mixF mixN
  rw [h j hj, col_nat h _ (Nat.mod_lt _ (by decide)), col_nat h _ (Nat.mod_lt _ (by decide)), rot_nat (colN_lt _ _), xo_nat (colN_lt _ _) (rotN_lt (colN_lt _ _)), xo_nat (wd_lt _ _) (xor_lt (colN_lt _ _) (rotN_lt (colN_lt _ _)))]
theorem vTo_back (ws : Nat → Int) (j : Nat) (hj : j < 25) : vTo ws 25 j = rot (ws (backT.getD j 0)) (turnsT.getD (backT.getD j 0) 0) := match j, hj with
  | 0, _ => rfl
  | 1, _ => rfl
  | 2, _ => rfl
  | 3, _ => rfl
  | 4, _ => rfl
  | 5, _ => rfl
  | 6, _ => rfl
  | 7, _ => rfl
  | 8, _ => rfl
  | 9, _ => rfl
  | 10, _ => rfl
  | 11, _ => rfl
  | 12, _ => rfl
  | 13, _ => rfl
  | 14, _ => rfl
  | 15, _ => rfl
  | 16, _ => rfl
  | 17, _ => rfl
  | 18, _ => rfl
  | 19, _ => rfl
  | 20, _ => rfl
  | 21, _ => rfl
  | 22, _ => rfl
  | 23, _ => rfl
  | 24, _ => rfl
  | n + 25, h => absurd h (by omega)
theorem back_lt (j : Nat) : backT.getD j 0 < 25 := by
  by_cases h : j < 25
  · exact (by decide : ∀ j : Fin 25, backT.getD j 0 < 25) ⟨j, h⟩
  · rw [List.getD_eq_getElem?_getD, List.getElem?_eq_none (by simp [backT]; omega)]; decide
theorem moveN_lt (S j : Nat) : moveN S j < 18446744073709551616 := rotN_lt (wd_lt _ _)
theorem move_packed {ws : Nat → Int} {S : Nat} (h : Packed ws S) : Packed (vTo ws 25) (pk (moveN S)) := fun j hj => by
  rw [wd_pk _ (moveN_lt S) j hj, vTo_back ws j hj, h _ (back_lt j), rot_nat (wd_lt _ _)]; rfl
theorem chiN_lt (S j : Nat) : chiN S j < 18446744073709551616 := xor_lt (wd_lt _ _) (and_lt (Nat.lt_of_le_of_lt (Nat.sub_le _ _) (by decide)))
theorem chi_packed {vs : Nat → Int} {S : Nat} (h : Packed vs S) : Packed (chiF vs) (pk (chiN S)) := fun j hj => by
  rw [wd_pk _ (chiN_lt S) j hj]
  unfold chiF chiN
  rw [h j hj, h _ (by omega), h _ (by omega), an_nat (wd_lt _ _) (wd_lt _ _), xo_nat (wd_lt _ _) (and_lt (Nat.lt_of_le_of_lt (Nat.sub_le _ _) (by decide)))]
theorem wd_xor (S T j : Nat) : wd (S ^^^ T) j = wd S j ^^^ wd T j := by
  unfold wd
  rw [← Nat.shiftRight_eq_div_pow, ← Nat.shiftRight_eq_div_pow, ← Nat.shiftRight_eq_div_pow, Nat.shiftRight_xor_distrib, ← pow64, Nat.xor_mod_two_pow]
theorem words_lt (i : Nat) : wordsT.getD i 0 < 18446744073709551616 := by
  by_cases h : i < 24
  · exact (by decide : ∀ i : Fin 24, wordsT.getD i 0 < 18446744073709551616) ⟨i, h⟩
  · rw [List.getD_eq_getElem?_getD, List.getElem?_eq_none (by simp [wordsT]; omega)]; decide
theorem wd_small (c j : Nat) (hc : c < 18446744073709551616) : wd c j = if j = 0 then c else 0 := by
  unfold wd
  by_cases h : j = 0
  · subst h; rw [if_pos rfl]; simp; omega
  · have hle : 2 ^ 64 ≤ 2 ^ (64 * j) := Nat.pow_le_pow_right (by decide) (by omega)
    rw [pow64] at hle
    rw [if_neg h, Nat.div_eq_of_lt (by omega)]
theorem round_packed {ws : Nat → Int} {S : Nat} (i : Nat) (h : Packed ws S) : Packed (roundF i ws) (roundS i S) := by
  have h3 := chi_packed (move_packed (mix_packed h))
  intro j hj
  unfold roundS
  rw [wd_xor, wd_small _ _ (words_lt i)]
  show setF (threeF ws) 0 (xo (threeF ws 0) (wordsAt i)) j = _
  unfold setF
  by_cases e : j = 0
  · subst e
    rw [if_pos rfl, if_pos rfl]
    have e0 : threeF ws 0 = _ := h3 0 (by decide)
    rw [e0]
    exact xo_nat (wd_lt _ _) (words_lt i)
  · rw [if_neg e, if_neg e, Nat.xor_zero]
    exact h3 j hj
theorem perm_packed {ws : Nat → Int} {S : Nat} (h : Packed ws S) : ∀ k, Packed (permTo ws k) (permS S k)
  | 0 => h
  | k + 1 => round_packed k (perm_packed h k)
theorem wd_flip (c t j : Nat) (hc : c < 256) : wd (c * 2 ^ (8 * t)) j = if j = t / 8 then c * 2 ^ (t % 8 * 8) else 0 := by
  unfold wd
  have hr : t % 8 < 8 := Nat.mod_lt _ (by decide)
  have hp : 2 ^ (t % 8 * 8) ≤ 2 ^ 56 := Nat.pow_le_pow_right (by decide) (by omega)
  have hs : c * 2 ^ (t % 8 * 8) < 18446744073709551616 := by
    have : c * 2 ^ (t % 8 * 8) ≤ 255 * 2 ^ 56 := Nat.mul_le_mul (by omega) hp
    have e : 255 * 2 ^ 56 < 18446744073709551616 := by decide
    omega
  have et : c * 2 ^ (8 * t) = c * 2 ^ (t % 8 * 8) * 2 ^ (64 * (t / 8)) := by
    rw [Nat.mul_assoc, ← Nat.pow_add]; congr 2; omega
  by_cases e : j = t / 8
  · rw [if_pos e, et, e, Nat.mul_div_cancel _ (Nat.pow_pos (by decide)), Nat.mod_eq_of_lt hs]
  · rw [if_neg e]
    by_cases hlt : j < t / 8
    · have e1 : c * 2 ^ (8 * t) = c * 2 ^ (8 * t - 64 * j - 64) * 18446744073709551616 * 2 ^ (64 * j) := by
        rw [← pow64, Nat.mul_assoc, Nat.mul_assoc, ← Nat.pow_add, ← Nat.pow_add]; congr 2; omega
      rw [e1, Nat.mul_div_cancel _ (Nat.pow_pos (by decide)), Nat.mul_mod_left]
    · rw [Nat.div_eq_of_lt]
      rw [et]
      have h1 : 2 ^ (64 * j) = 2 ^ (64 * (j - t / 8 - 1)) * 18446744073709551616 * 2 ^ (64 * (t / 8)) := by
        rw [← pow64, ← Nat.pow_add, ← Nat.pow_add]; congr 1; omega
      rw [h1]
      refine Nat.mul_lt_mul_of_pos_right (Nat.lt_of_lt_of_le hs (Nat.le_mul_of_pos_left _ (Nat.pow_pos (by decide)))) (Nat.pow_pos (by decide))
theorem flip_packed {ws : Nat → Int} {S : Nat} (t c : Nat) (_ht : t < 136) (hc : c < 256) (h : Packed ws S) : Packed (flipF ws t c) (flipS S t c) := by
  intro j hj
  unfold flipS flipF setF
  rw [wd_xor, wd_flip c t j hc]
  have hp : 2 ^ (t % 8 * 8) ≤ 2 ^ 56 := Nat.pow_le_pow_right (by decide) (by omega)
  have hs : c * 2 ^ (t % 8 * 8) < 18446744073709551616 := by
    have : c * 2 ^ (t % 8 * 8) ≤ 255 * 2 ^ 56 := Nat.mul_le_mul (by omega) hp
    have e : 255 * 2 ^ 56 < 18446744073709551616 := by decide
    omega
  by_cases e : j = t / 8
  · subst e
    rw [if_pos rfl, if_pos rfl, h _ hj]
    have e1 : IntKind.u64.wrap ((c : Int) * 2 ^ (t % 8 * 8)) = ((c * 2 ^ (t % 8 * 8) : Nat) : Int) := by
      rw [IntKind.wrap_u64]
      have : ((c : Int) * 2 ^ (t % 8 * 8)) = ((c * 2 ^ (t % 8 * 8) : Nat) : Int) := by simp
      rw [this]; omega
    rw [e1]
    exact xo_nat (wd_lt _ _) hs
  · rw [if_neg e, if_neg e, Nat.xor_zero]; exact h j hj

def PackedAt (a : (Nat → Int) × Nat) (b : Nat × Nat) : Prop := Packed a.1 b.1 ∧ a.2 = b.2 ∧ a.2 < 136
theorem byte_packed {a : (Nat → Int) × Nat} {b : Nat × Nat} (c : UInt8) (h : PackedAt a b) : PackedAt (byteF a c) (byteS b c) := by
  obtain ⟨h1, h2, h3⟩ := h
  have hf := flip_packed a.2 c.toNat h3 c.toNat_lt h1
  unfold byteF byteS
  rw [← h2]
  by_cases e : a.2 + 1 = 136
  · rw [if_pos e, if_pos e]; exact ⟨perm_packed hf 24, rfl, by show 0 < 136; decide⟩
  · rw [if_neg e, if_neg e]; exact ⟨hf, rfl, by show a.2 + 1 < 136; omega⟩
theorem fold_packed : ∀ (l : List UInt8) {a : (Nat → Int) × Nat} {b : Nat × Nat}, PackedAt a b → PackedAt (l.foldl byteF a) (l.foldl byteS b)
  | [], _, _, h => h
  | c :: l, _, _, h => fold_packed l (byte_packed c h)
theorem start_packed : PackedAt startF (0, 0) := ⟨fun j _ => by show (0 : Int) = _; unfold wd; simp, rfl, by decide⟩

theorem head_nat (S i : Nat) : wd S (i / 8) / 2 ^ (i % 8 * 8) % 256 = S / 256 ^ i % 256 := by
  unfold wd
  have e1 : (18446744073709551616 : Nat) = 2 ^ (i % 8 * 8) * 2 ^ (64 - i % 8 * 8) := by
    rw [← Nat.pow_add, ← pow64]; congr 1; omega
  rw [e1, Nat.mod_mul_right_div_self, Nat.div_div_eq_div_mul, ← Nat.pow_add]
  have e2 : 256 ^ i = 2 ^ (64 * (i / 8) + i % 8 * 8) := by
    rw [show (256 : Nat) = 2 ^ 8 by decide, ← Nat.pow_mul]; congr 1; omega
  rw [← e2]
  have e3 : 2 ^ (64 - i % 8 * 8) = 256 * 2 ^ (56 - i % 8 * 8) := by
    rw [show (256 : Nat) = 2 ^ 8 by decide, ← Nat.pow_add]; congr 1; omega
  rw [e3, Nat.mod_mul_right_mod]
theorem hash_is (l : List UInt8) : hashL l = hashS l := by
  unfold hashL hashF
  rw [str_list]
  have hp : PackedAt (writeF startF l) (writeS l) := fold_packed l start_packed
  obtain ⟨h1, h2, h3⟩ := hp
  have hf := perm_packed (flip_packed 135 128 (by decide) (by decide) (flip_packed (writeF startF l).2 1 h3 (by decide) h1)) 24
  have hs : headS (permF (flipF (flipF (writeF startF l).1 (writeF startF l).2 1) 135 128)) = str (hashS l) := by
    unfold headS
    rw [← strOfNums_bytes]
    congr 1
    unfold hashS
    rw [List.map_map]
    apply List.map_congr_left
    intro i hi
    have hi' := List.mem_range.1 hi
    show IntKind.u8.wrap (permTo (flipF (flipF (writeF startF l).1 (writeF startF l).2 1) 135 128) 24 (i / 8) / 2 ^ (i % 8 * 8)) = ((UInt8.ofNat (finS (writeS l) / 256 ^ i % 256)).toNat : Int)
    have e0 := hf (i / 8) (by omega)
    have e1 : permS (flipS (flipS (writeS l).1 (writeF startF l).2 1) 135 128) 24 = finS (writeS l) := by rw [h2]; rfl
    rw [e1] at e0
    rw [show ((permTo (flipF (flipF (writeF startF l).1 (writeF startF l).2 1) 135 128) 24 (i / 8)) = (wd (finS (writeS l)) (i / 8) : Int)) from e0]
    rw [IntKind.wrap_u8, UInt8.toNat_ofNat', ← head_nat]
    have e2 : ((wd (finS (writeS l)) (i / 8) : Nat) : Int) / 2 ^ (i % 8 * 8) = ((wd (finS (writeS l)) (i / 8) / 2 ^ (i % 8 * 8) : Nat) : Int) := by simp
    rw [e2]
    omega
  show (sumF (writeF startF l)).data.toList = _
  unfold sumF
  rw [hs, str_list]
theorem hash_fun : hashL = hashS := funext hash_is
end Go.Proofs.YtenmjjpkbcogbaaDoor

/- KhC -/
namespace Go.Proofs.YtenmjjpkbcogbaaDoor
open Go.RowKit

def hashOfG (H : List UInt8 → List UInt8) (c : List UInt8) : List UInt8 := if 32 ≤ c.length then H c else []
def mkG (H : List UInt8 → List UInt8) (n : Nd) : Nd := n.setHash (hashOfG H n.code)
def mkLeafG (H : List UInt8 → List UInt8) (p v : List UInt8) : Nd := mkG H (.leaf [] p v)
def mkExtG (H : List UInt8 → List UInt8) (p : List UInt8) (k : Nd) : Nd := mkG H (.ext [] p k)
def mkBranchG (H : List UInt8 → List UInt8) (ks : Nat → Nd) (v : List UInt8) : Nd := mkG H (.branch [] v ks)
def joinG (H : List UInt8 → List UInt8) (p : List UInt8) : Nd → Nd
  | .leaf h q v => if p = [] then .leaf h q v else mkLeafG H (p ++ q) v
  | .ext h q k => if p = [] then .ext h q k else mkExtG H (p ++ q) k
  | .nil => if p = [] then .nil else mkExtG H p .nil
  | .unread h => if p = [] then .unread h else mkExtG H p (.unread h)
  | .branch h v ks => if p = [] then .branch h v ks else mkExtG H p (.branch h v ks)
def tailG (H : List UInt8 → List UInt8) (t : Nd) (p : List UInt8) : Nd := match t with
  | .leaf _ _ v => mkLeafG H p v
  | .ext _ _ k => joinG H p k
  | t => t
def splitAG (H : List UInt8 → List UInt8) (n : Nd) (s : Nat) : Nat → Nd := if s < n.path.length then updK (fun _ => .nil) (n.path.getD s 0).toNat (tailG H n (n.path.drop (s + 1))) else fun _ => .nil
def splitKG (H : List UInt8 → List UInt8) (n : Nd) (path v : List UInt8) (s : Nat) : Nat → Nd := if s < path.length then updK (splitAG H n s) (path.getD s 0).toNat (mkLeafG H (path.drop (s + 1)) v) else splitAG H n s
def splitG (H : List UInt8 → List UInt8) (n : Nd) (path v : List UInt8) (s : Nat) : Nd := joinG H (path.take s) (mkBranchG H (splitKG H n path v s) (splitO n path v s))
def withG (H : List UInt8 → List UInt8) : Nd → List UInt8 → List UInt8 → Nd
  | .nil, p, v => mkLeafG H p v
  | .unread h, _, _ => .unread h
  | .leaf h q x, p, v => if q = p then mkLeafG H p v else splitG H (.leaf h q x) p v (sharedP q p)
  | .ext h q k, p, v => if sharedP q p = q.length then mkExtG H q (withG H k (p.drop q.length) v) else splitG H (.ext h q k) p v (sharedP q p)
  | .branch _ x ks, p, v => match p with
    | [] => mkBranchG H ks v
    | c :: r => mkBranchG H (updK ks c.toNat (withG H (ks c.toNat) r v)) x
def rootG (H : List UInt8 → List UInt8) : Nd → List UInt8
  | .nil => H [128]
  | t => if t.hash = [] then H t.code else t.hash

theorem join_G (p : List UInt8) (t : Nd) : joinP p t = joinG hashL p t := by cases t <;> rfl
theorem tail_G (t : Nd) (p : List UInt8) : tailP t p = tailG hashL t p := by
  cases t with
  | ext h q k => exact join_G p k
  | _ => rfl
theorem splitA_G (n : Nd) (s : Nat) : splitA n s = splitAG hashL n s := by unfold splitA splitAG; rw [tail_G]
theorem splitK_G (n : Nd) (path v : List UInt8) (s : Nat) : splitK n path v s = splitKG hashL n path v s := by unfold splitK splitKG; rw [splitA_G]; rfl
theorem split_G (n : Nd) (path v : List UInt8) (s : Nat) : splitP n path v s = splitG hashL n path v s := by unfold splitP splitG; rw [join_G, splitK_G]; rfl
theorem with_G : ∀ (t : Nd) (p v : List UInt8), withP t p v = withG hashL t p v := by
  intro t
  induction t with
  | nil => intro p v; rfl
  | unread h => intro p v; rfl
  | leaf h q x => intro p v; simp only [withP, withG, split_G]; rfl
  | ext h q k ih => intro p v; simp only [withP, withG, split_G, ih]; rfl
  | branch h x ks ih =>
    intro p v
    cases p with
    | nil => rfl
    | cons c r => simp only [withP, withG, ih]; rfl
theorem root_G (t : Nd) : rootP t = rootG hashL t := by cases t <;> rfl
theorem with_S (t : Nd) (p v : List UInt8) : withP t p v = withG hashS t p v := by rw [with_G, hash_fun]
theorem root_S (t : Nd) : rootP t = rootG hashS t := by rw [root_G, hash_fun]

/-- Has a tree all its nodes on a path's way? -/
def openB : Nd → List UInt8 → Bool
  | .nil, _ => true
  | .unread _, _ => false
  | .leaf _ _ _, _ => true
  | .ext _ q k, p => if sharedP q p = q.length then openB k (p.drop q.length) else true
  | .branch _ _ ks, p => match p with
    | [] => true
    | c :: r => openB (ks c.toNat) r
theorem openB_ok : ∀ (t : Nd) (p : List UInt8), openB t p = true → Opened t p := by
  intro t
  induction t with
  | nil => intro p _; trivial
  | unread h => intro p hh; cases hh
  | leaf h q x => intro p _; trivial
  | ext h q k ih => intro p hh e; simp only [openB, if_pos e] at hh; exact ih _ hh
  | branch h x ks ih =>
    intro p hh
    cases p with
    | nil => trivial
    | cons c r => exact ih _ _ hh
end Go.Proofs.YtenmjjpkbcogbaaDoor
