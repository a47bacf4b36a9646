/- Contracts of package score: more, Next. -/
import Derived.Test.YtbcofkiefompgaaBlk
import Derived.Test.YtbcofkiefompgaaNum
import Derived.Test.YtbcofkiefompgaaScoreN
import Derived.Test.YtbcofkiefompgaaProg
import Derived.Laws.Small
import Derived.Deep.RegionHeld3
namespace Go.Proofs.Ytbcofkiefompgaa
open Go.RowKit

def moreN (n : Int) : Int := if n < 0 then 1 else if 1073741823 < n then 1073741824 else n + 1

theorem more_any (n : Int) (w : World) (_hn : -9223372036854775808 ≤ n ∧ n ≤ 9223372036854775807) :
    Calls Try.prog 78 #[.int .i64 n] w fun e w' => e = .returned (.int .i64 (moreN n)) ∧ w = w' := by
  unfold moreN
  by_cases h0 : n < 0
  · rw [if_pos h0]
    go_enter Try.func78, Try.ntmps78
    go_wp2
    go_ret
    exact ⟨by first | rfl | simp [h0], rfl⟩
  · rw [if_neg h0]
    by_cases h1 : 1073741823 < n
    · rw [if_pos h1]
      go_enter Try.func78, Try.ntmps78
      go_wp2
      go_ret
      exact ⟨by first | rfl | simp [h0, h1], rfl⟩
    · rw [if_neg h1]
      go_enter Try.func78, Try.ntmps78
      go_wp2
      go_ret
      exact ⟨by first | rfl | simp [h0, h1], rfl⟩


set_option maxHeartbeats 1000000 in
theorem next_good (u : Bool) (g b rise fall : Int) (w : World) (hg : -9223372036854775808 ≤ g ∧ g ≤ 9223372036854775807) (m : Int) (hm : moreN g = m) (v : Bool) (hv : (if m < rise then u else true) = v) :
    Calls Try.prog 55 #[.agg #[.bool u, .int .i64 g, .int .i64 b], .bool true, .int .i64 rise, .int .i64 fall] w fun e w' => e = .returned (.agg #[.bool v, .int .i64 m, .int .i64 0]) ∧ Below w.heap.size w w' := by
  have hm1 : 1 ≤ m ∧ m ≤ 1073741824 := by rw [← hm]; unfold moreN; split <;> (try split) <;> omega
  have HM := fun W => Lib.hid (more_any g W hg)
  rw [hm] at HM
  clear hm
  subst hv
  by_cases hr : rise < 1 <;> by_cases hf : fall < 1 <;> by_cases hc : m < rise
  all_goals
    first | (exfalso; omega) | skip
  all_goals
    go_enter Try.func55, Try.ntmps55
    go_wp2_with fail
    refine (HM _).out.mono ?_
    rintro e w1 ⟨rfl, rfl⟩
    go_wp2_with fail
    simp [bodyPost, results, Try.results55, go_sem, *]
    exact bnextA (bnextA (Below.refl _ _) _) _

set_option maxHeartbeats 1000000 in
theorem next_bad (u : Bool) (g b rise fall : Int) (w : World) (hb : -9223372036854775808 ≤ b ∧ b ≤ 9223372036854775807) (m : Int) (hm : moreN b = m) (v : Bool) (hv : (if m < fall then u else false) = v) :
    Calls Try.prog 55 #[.agg #[.bool u, .int .i64 g, .int .i64 b], .bool false, .int .i64 rise, .int .i64 fall] w fun e w' => e = .returned (.agg #[.bool v, .int .i64 0, .int .i64 m]) ∧ Below w.heap.size w w' := by
  have hm1 : 1 ≤ m ∧ m ≤ 1073741824 := by rw [← hm]; unfold moreN; split <;> (try split) <;> omega
  have HM := fun W => Lib.hid (more_any b W hb)
  rw [hm] at HM
  clear hm
  subst hv
  by_cases hr : rise < 1 <;> by_cases hf : fall < 1 <;> by_cases hc : m < fall
  all_goals
    first | (exfalso; omega) | skip
  all_goals
    go_enter Try.func55, Try.ntmps55
    go_wp2_with fail
    refine (HM _).out.mono ?_
    rintro e w1 ⟨rfl, rfl⟩
    go_wp2_with fail
    simp [bodyPost, results, Try.results55, go_sem, *]
    exact bnextA (bnextA (Below.refl _ _) _) _
end Go.Proofs.Ytbcofkiefompgaa
