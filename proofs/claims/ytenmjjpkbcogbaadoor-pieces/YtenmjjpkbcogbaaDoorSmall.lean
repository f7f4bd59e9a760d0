/-
  The small walks: turned, flip, column.
-/
import Derived.Test.YtenmjjpkbcogbaaDoorRows
import Derived.Test.YtenmjjpkbcogbaaDoorBase
import Derived.BigRegion
import Derived.BigQuiet
import Derived.Deep.QuietTactic
import Derived.Deep.RegionWith
namespace Go.Proofs.YtenmjjpkbcogbaaDoor
open Go.RowKit

theorem and63 (b : Nat) (hb : b ≤ 64) : bits .and .u64 (b : Int) 63 = ((b % 64 : Nat) : Int) := by
  have := u64_and_nat b 63 (by omega) (by omega)
  rw [nat_mask6] at this
  exact this

theorem turned_calls (a : Int) (n : Nat) (hn : n < 64) (w : World) :
    Calls Tryd.prog 50 #[.int .u64 a, .int .u64 n] w fun e w' => e = .returned (.int .u64 (rot a n)) ∧ w' = w := by
  have h1 : bits .and .u64 (n : Int) 63 = (n : Int) := by rw [and63 n (by omega), Nat.mod_eq_of_lt hn]
  have h2 : bits .and .u64 (64 - (n : Int)) 63 = (((64 - n) % 64 : Nat) : Int) := by rw [← and63 (64 - n) (by omega)]; congr 1; omega
  have h3 : min n 64 = n := by omega
  have h4 : min ((64 - n) % 64) 64 = (64 - n) % 64 := by omega
  go_enter Tryd.func50, Tryd.ntmps50
  go_wp2
  go_ret
  exact ⟨by simp [rot], rfl⟩

set_option maxHeartbeats 400000 in
theorem flip_calls (i : Nat) (c : Nat) (hc8 : c < 256) (v : Int) (w : World) (b : Nat) (hi : i < 136)
    (hc : w.cell? ⟨b, i / 8, none⟩ = some (.int .u64 v)) (hf : w.frozen? ⟨b, i / 8, none⟩ = false) :
    Calls Tryd.prog 28 #[.pointer (some ⟨b, 0, none⟩), .int .i64 i, .int .u8 c] w fun e w' => e = .returned (.tuple #[]) ∧ w' = (w.setCell ⟨b, i / 8, none⟩ (.int .u64 (xo v (IntKind.u64.wrap (c * 2 ^ (i % 8 * 8)))))).drew := by
  have hw : IntKind.u64.wrap (c : Int) = (c : Int) := by rw [IntKind.wrap_u64]; omega
  go_enter Tryd.func28, Tryd.ntmps28
  go_wp2
  go_region
  all_goals go_end0
  all_goals exact ⟨rfl, by simp [xo]⟩

theorem column_calls (x : Nat) (hx : x < 5) (ws : Nat → Int) (t : Int) (w : World) (b : Nat) (H : Held w b ws t) :
    Calls Tryd.prog 49 #[.pointer (some ⟨b, 0, none⟩), .int .i64 x] w fun e w' => e = .returned (.int .u64 (colF ws x)) ∧ ∃ n, w' = w.drewN n := by
  have g0 := H.at_ x (by omega)
  have g1 := H.at_ (x + 5) (by omega)
  have g2 := H.at_ (x + 10) (by omega)
  have g3 := H.at_ (x + 15) (by omega)
  have g4 := H.at_ (x + 20) (by omega)
  clear H
  go_enter Tryd.func49, Tryd.ntmps49
  go_wp2_with fail
  go_quiet (fail)
  go_wp2
  go_ret
  exact ⟨by simp [colF, xo], nq, rfl⟩
end Go.Proofs.YtenmjjpkbcogbaaDoor
