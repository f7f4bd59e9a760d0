/-
  coded: the plain part, and coded1.
-/
import Derived.Test.YtenmjjpkbcogbaaRlpD
import Derived.Test.YtenmjjpkbcogbaaRlpN
namespace Go.Proofs.Ytenmjjpkbcogbaa
open Go.RowKit

theorem digs_small : ∀ f n k, n < 256 ^ k → (digs f n).length ≤ k
  | 0, _, _, _ => by simp [digs]
  | f + 1, n, k, h => by
    unfold digs
    by_cases h0 : n = 0
    · rw [if_pos h0]; simp
    · rw [if_neg h0, List.length_append]
      cases k with
      | zero => simp at h; omega
      | succ k =>
        have := digs_small f (n / 256) k (by rw [Nat.pow_succ] at h; omega)
        simp; omega
theorem head3 (kind n : Nat) (h : n < 65536) : (headU kind n).length ≤ 3 := by
  unfold headU
  split
  · simp
  · have := digs_small 8 n 2 (by omega); simp; omega
theorem textC_len (t : List UInt8) (h : t.length ≤ 4093) : (textC t).length ≤ 4096 := by
  unfold textC
  split
  · omega
  · rw [List.length_append]; have := head3 128 t.length (by omega); omega

/-- the list of a text and an empty list -/
def twoT (l : List UInt8) : Tree := listT [textT l, listT []]
theorem code_empty (d : Nat) : codeU (d + 1) (listT []) = [192] := by rw [codeU_list]; rfl
theorem code_two (l : List UInt8) : codeU 6 (twoT l) = listC (textC l ++ [192]) := by
  unfold twoT; rw [codeU_list]
  simp only [List.map_cons, List.map_nil, codeU_text, code_empty, List.flatten_cons, List.flatten_nil, List.append_nil]
theorem two_len (l : List UInt8) (h : (textC l).length ≤ 4092) : (codeU 6 (twoT l)).length ≤ 4096 := by
  rw [code_two]; unfold listC
  rw [List.length_append]
  have := head3 192 (textC l ++ [192]).length (by rw [List.length_append]; simp; omega)
  rw [List.length_append] at *; simp at *; omega
theorem flat_two (l : List UInt8) : flatU 6 (twoT l) = true := by
  unfold twoT; rw [flat_list]
  simp only [List.all_cons, List.all_nil, flat_text, flat_list]
  rfl

theorem enc_fits (x : Tree) (hf : flatU 6 x = true) (h : (codeU 6 x).length ≤ 4096) : encErr x = 0 ∧ encOut x = str (codeU 6 x) := by
  have h1 : fitsC (codeU 6 x) = true := by unfold fitsC; exact decide_eq_true h
  unfold encErr encOut outC
  rw [hf, h1]; exact ⟨rfl, rfl⟩
theorem enc_long (x : Tree) (hf : flatU 6 x = true) (h : ¬ (codeU 6 x).length ≤ 4096) : encErr x = 1 ∧ encOut x = ByteArray.empty := by
  have h1 : fitsC (codeU 6 x) = false := by unfold fitsC; exact decide_eq_false h
  unfold encErr encOut outC
  rw [hf, h1]; exact ⟨rfl, rfl⟩

theorem textT_inj {a b : List UInt8} (h : textT a = textT b) : a = b := by unfold textT at h; cases h; rfl
theorem not_text_list {a : List UInt8} {ks : List Tree} (h : textT a = listT ks) : False := by unfold textT listT at h; cases h
theorem listT_inj {a b : List Tree} (h : listT a = listT b) : a = b := by unfold listT at h; cases h; rfl
theorem data_inj {a b : ByteArray} (h : a.data.toList = b.data.toList) : a = b := by rw [← str_data a, h, str_data]

theorem coded1_calls (w : World) (s : ByteArray) (hs : s.size < 140737488355329) :
    Calls Try.prog 8 #[.string s] w fun e w' => e = .returned (.string (encOut (textT s.data.toList))) ∧ Below w.heap.size w w' := by
  have HI := item_text 6 w (fun _ => True) s (.slice none 0 0) hs
  go_enter Try.func8, Try.ntmps8
  go_wp2_with fail
  refine (encode_calls _ (fun _ => True) _ _ _ _ HI).mono ?_
  rintro e w1 ⟨rfl, B1⟩
  go_wp2_with fail
  go_ret
  exact ⟨rfl, B1⟩

theorem make_two (w : World) : (Instr.makeSlice 23 (.int .i64 2) (.int .i64 2)).run Try.prog w = .ok (.slice (some ⟨w.heap.size, 0, none⟩) 2 2) (w.alloc (.cells #[.bool false, .string ⟨#[]⟩, .slice none 0 0, .bool false, .string ⟨#[]⟩, .slice none 0 0] 25)) := by kernel_rfl
theorem item_two (W : World) (s : ByteArray) (hs : s.size < 140737488355329) (H : Nat) (hH : W.heap.size = H) :
    ItemIs 6 (W.alloc (.cells #[.bool false, .string s, .slice none 0 0, .bool true, .string ⟨#[]⟩, .slice none 0 0] 25)) (fun _ => True) [.bool true, .string ⟨#[]⟩, .slice (some ⟨H, 0, none⟩) 2 2] (twoT s.data.toList) := by
  subst hH
  refine item_list 5 _ _ _ _ [textT s.data.toList, listT []] [.bool false, .string s, .slice none 0 0, .bool true, .string ⟨#[]⟩, .slice none 0 0] ⟨rfl, .inr ⟨W.heap.size, 0, 2, rfl, trivial, fun j hj => ?_⟩⟩ (by simp) (fun i hi => ?_)
  · have hj' : j < 6 := hj
    rw [Nat.zero_add]
    match j, hj' with
    | 0, _ => simp
    | 1, _ => simp
    | 2, _ => simp
    | 3, _ => simp
    | 4, _ => simp
    | 5, _ => simp
  · have hi' : i < 2 := hi
    match i, hi' with
    | 0, _ => exact item_text 5 _ _ s _ hs
    | 1, _ => exact item_list 4 _ _ _ _ [] [] ⟨rfl, .inl ⟨rfl, _, _, rfl⟩⟩ (by simp) (fun i hi => by simp at hi)
end Go.Proofs.Ytenmjjpkbcogbaa
