/-
  The walk of Encode.
-/
import Derived.Test.YtenmjjpkbcogbaaRlpE
import Derived.Test.YtenmjjpkbcogbaaRlpW
namespace Go.Proofs.Ytenmjjpkbcogbaa
open Go.RowKit

def encErr (x : Tree) : Int := if flatU 6 x = true then (if fitsC (codeU 6 x) = true then 0 else 1) else 8
def encOut (x : Tree) : ByteArray := if flatU 6 x = true then outC (codeU 6 x) else ByteArray.empty

set_option maxRecDepth 100000 in
set_option maxHeartbeats 1000000 in
theorem encode_calls (w : World) (S : Nat → Prop) (v0 v1 v2 : Value) (x : Tree) (hx : ItemIs 6 w S [v0, v1, v2] x) :
    Calls Try.prog 7 #[.agg #[v0, v1, v2]] w fun e w' => e = .returned (.tuple #[.string (encOut x), .int .i64 (encErr x)]) ∧ Below w.heap.size w w' := by
  have hbel : Below w.heap.size w (w.alloc (.cells #[v0, v1, v2] 25)) := (Below.refl _ _).alloc (Nat.le_refl _) _
  have HX : Hid (ItemIs 6 (w.alloc (.cells #[v0, v1, v2] 25)) S [v0, v1, v2] x) := hx.below hbel
  have HB : Hid (Below w.heap.size w (w.alloc (.cells #[v0, v1, v2] 25))) := hbel
  rcases item_inv hx with ⟨t, rfl, rfl, rfl, ht⟩ | ⟨e, t, ks, xs, he, rfl, rfl, rfl, hr, hb, hk⟩
  · have hfl := flat_text 6 t.data.toList
    have ho : encOut (textT t.data.toList) = outC (codeU 6 (textT t.data.toList)) := by unfold encOut; rw [if_pos hfl]
    have he : encErr (textT t.data.toList) = (if fitsC (codeU 6 (textT t.data.toList)) = true then 0 else 1) := by unfold encErr; rw [if_pos hfl]
    have HEO : Hid (encOut (textT t.data.toList) = outC (codeU 6 (textT t.data.toList))) := ho
    have HEE : Hid (encErr (textT t.data.toList) = (if fitsC (codeU 6 (textT t.data.toList)) = true then 0 else 1)) := he
    clear hx hbel ho he hfl
    go_enter Try.func7, Try.ntmps7
    go_wp2_with fail
    refine ((code_all 6).1 _ S _ _ _ _ HX.out).mono ?_
    rintro e w1 ⟨rfl, B1⟩
    have HB1 : Hid (Below w.heap.size w w1) := HB.out.trans (B1.mono HB.out.size)
    clear B1
    generalize codeU 6 (textT t.data.toList) = c at *
    cases hf : fitsC c with
    | true =>
      have HF : Hid (fitsC c = true) := hf
      clear hf
      go_wp2_with fail
      go_ret2
      exact ⟨by rw [HEO.out, HEE.out, HF.out]; rfl, HB1.out⟩
    | false =>
      have HF : Hid (fitsC c = false) := hf
      have HO : Hid (outC c = ByteArray.empty) := by unfold outC; rw [hf]; rfl
      clear hf
      go_wp2_with fail
      go_ret2
      exact ⟨by rw [HEO.out, HEE.out, HF.out, HO.out]; rfl, HB1.out⟩
  · obtain rfl : e = 5 := by omega
    have hw := within_all 5 _ S v2 ks xs 1 (by omega) (by omega) (hr.below hbel) hb (fun i hi => (hk i hi).below hbel)
    have HW : Hid (Calls Try.prog 14 #[v2, .int .i64 1] (w.alloc (.cells #[.bool true, .string t, v2] 25)) fun e w' => e = .returned (.bool (flatU 6 (listT ks))) ∧ w' = w.alloc (.cells #[.bool true, .string t, v2] 25)) := hw
    cases hfl : flatU 6 (listT ks) with
    | false =>
      have ho : encOut (listT ks) = ByteArray.empty := by unfold encOut; rw [hfl]; rfl
      have he : encErr (listT ks) = 8 := by unfold encErr; rw [hfl]; rfl
      rw [ho, he]
      have HFL : Hid (flatU 6 (listT ks) = false) := hfl
      clear hx hbel ho he hfl hr hk hw
      go_enter Try.func7, Try.ntmps7
      go_wp2_with fail
      refine HW.out.mono ?_
      rw [HFL.out]
      rintro e w1 ⟨rfl, hw1⟩
      subst hw1
      go_wp2_with fail
      go_ret2
      exact ⟨rfl, HB.out⟩
    | true =>
      have ho : encOut (listT ks) = outC (codeU 6 (listT ks)) := by unfold encOut; rw [if_pos hfl]
      have he : encErr (listT ks) = (if fitsC (codeU 6 (listT ks)) = true then 0 else 1) := by unfold encErr; rw [if_pos hfl]
      have HEO : Hid (encOut (listT ks) = outC (codeU 6 (listT ks))) := ho
      have HEE : Hid (encErr (listT ks) = (if fitsC (codeU 6 (listT ks)) = true then 0 else 1)) := he
      have HFL : Hid (flatU 6 (listT ks) = true) := hfl
      clear hx hbel ho he hfl hr hk hw
      go_enter Try.func7, Try.ntmps7
      go_wp2_with fail
      refine HW.out.mono ?_
      rw [HFL.out]
      rintro e w1 ⟨rfl, hw1⟩
      subst hw1
      go_wp2_with fail
      refine ((code_all 6).1 _ S _ _ _ _ HX.out).mono ?_
      rintro e w1 ⟨rfl, B1⟩
      have HB1 : Hid (Below w.heap.size w w1) := HB.out.trans (B1.mono HB.out.size)
      clear B1
      generalize codeU 6 (listT ks) = c at *
      cases hf : fitsC c with
      | true =>
        have HF : Hid (fitsC c = true) := hf
        clear hf
        go_wp2_with fail
        go_ret2
        exact ⟨by rw [HEO.out, HEE.out, HF.out]; rfl, HB1.out⟩
      | false =>
        have HF : Hid (fitsC c = false) := hf
        have HO : Hid (outC c = ByteArray.empty) := by unfold outC; rw [hf]; rfl
        clear hf
        go_wp2_with fail
        go_ret2
        exact ⟨by rw [HEO.out, HEE.out, HF.out, HO.out]; rfl, HB1.out⟩
end Go.Proofs.Ytenmjjpkbcogbaa
