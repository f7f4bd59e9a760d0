/-
  The walks of nib: allHalfBytes.
-/
import Derived.Test.YtenmjjpkbcogbaaRows
import Derived.Test.YtenmjjpkbcogbaaNib
import Derived.WalkKit
import Derived.WalkSpells
import Derived.WalkLawsBesides
import Derived.BigRegion
import Derived.BigQuiet
import Derived.Deep.QuietTactic
import Derived.Deep.RegionLaw
import Derived.Deep.AppendLies
import Derived.Deep.LoopGhost
namespace Go.Proofs.Ytenmjjpkbcogbaa
open Go.RowKit

def nibsB (l : List UInt8) : Bool := l.all (fun c => decide (c.toNat < 16))
theorem nibsB_true {l : List UInt8} (h : nibsB l = true) : Nibs l := fun x hx => by
  have := List.all_eq_true.1 h x hx
  simpa using this
theorem nibsB_of {l : List UInt8} (h : Nibs l) : nibsB l = true := List.all_eq_true.2 fun x hx => by simpa using h x hx
theorem nibsB_false {l : List UInt8} (k : Nat) (hk : k < l.length) (h : 15 < (l[k]).toNat) : nibsB l = false := by
  cases hb : nibsB l with
  | false => rfl
  | true =>
    have := nibsB_true hb _ (List.getElem_mem hk)
    omega

theorem allHalf_calls (s : ByteArray) (hs : s.size ≤ maxLen) (w : World) :
    Calls Try.prog 16 #[.string s] w fun e w' => e = .returned (.bool (nibsB s.data.toList)) ∧ w' = w := by
  unfold maxLen at hs
  go_enter Try.func16, Try.ntmps16
  go_wp2_with fail
  go_loopg [3] s.size (fun g r wr => wr = w ∧ ∃ k : Nat, g = s.size - k ∧ k ≤ s.size ∧ r = .int .i64 k ∧ Hid (∀ j, (h : j < s.size) → j < k → (s[j]).toNat < 16))
  case atStart => exact ⟨rfl, 0, rfl, by omega, rfl, fun j _ h => by omega⟩
  case round =>
    obtain ⟨rfl, k, hg, hk, rfl, hall⟩ := hrel
    have HG : Hid (gk = s.size - k) := hg
    clear hg
    by_cases hlt : k < s.size
    · by_cases hc : 15 < (s[k]).toNat
      · have hci : (15 : Int) < ((s[k]).toNat : Int) := by omega
        have hf : nibsB s.data.toList = false := nibsB_false k (by simpa using hlt) hc
        have HF : Hid (nibsB s.data.toList = false) := hf
        clear hf
        go_wp2_with fail
        go_ret
        exact ⟨by rw [HF.out]; rfl, rfl⟩
      · have hci : ¬ (15 : Int) < ((s[k]).toNat : Int) := by omega
        go_wp2_with fail
        go_roundg (s.size - (k + 1))
        case measure => have := HG.out; omega
        case rel => exact ⟨rfl, k + 1, rfl, by omega, by go_num, fun j hj hj2 => by
            by_cases e : j = k
            · subst e; omega
            · exact hall.out j hj (by omega)⟩
    · have ht : nibsB s.data.toList = true := nibsB_of fun x hx => by
        obtain ⟨j, hj, rfl⟩ := List.getElem_of_mem hx
        exact hall.out j (by simpa using hj) (by have : j < s.size := (by simpa using hj); omega)
      have HT : Hid (nibsB s.data.toList = true) := ht
      clear ht
      go_wp2_with fail
      go_ret
      exact ⟨by rw [HT.out]; rfl, rfl⟩
end Go.Proofs.Ytenmjjpkbcogbaa
