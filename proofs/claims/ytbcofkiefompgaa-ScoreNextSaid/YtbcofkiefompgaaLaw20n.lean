/- The walk of the statement on one probe more. -/
import Derived.Test.YtbcofkiefompgaaLaw20
namespace Go.Proofs.Ytbcofkiefompgaa
open Go.RowKit

theorem moreN_neg {n : Int} (h : n < 0) : moreN n = 1 := by unfold moreN; rw [if_pos h]
theorem moreN_big {n : Int} (h : 1073741823 < n) : moreN n = 1073741824 := by unfold moreN; rw [if_neg (by omega), if_pos h]
theorem moreN_mid {n : Int} (h : ¬ n < 0) (h2 : ¬ 1073741823 < n) : moreN n = n + 1 := by unfold moreN; rw [if_neg h, if_neg h2]

set_option maxHeartbeats 1000000 in
theorem ScoreNext_walk (a0_0 : Bool) (a0_1 a0_2 : Int) (a1 : Bool) (a2 a3 : Int) (w : World) (w0_1 : (Lit.int .i64 a0_1).wf = true) (w0_2 : (Lit.int .i64 a0_2).wf = true) (_w2 : (Lit.int .i64 a2).wf = true) (_w3 : (Lit.int .i64 a3).wf = true) :
    Calls Try.prog 11 #[.agg #[.bool a0_0, .int .i64 a0_1, .int .i64 a0_2], .bool a1, .int .i64 a2, .int .i64 a3] w fun e w' => e = .returned (.bool true) ∧ Below w.heap.size w w' := by
  have h1 := i64_of w0_1
  have h2 := i64_of w0_2
  clear w0_1 w0_2 _w2 _w3
  have hBk := Blk.new w #[.bool a0_0, .int .i64 a0_1, .int .i64 a0_2] 68
  have hBA := (Below.refl w.heap.size w).alloc (Nat.le_refl _) (.cells #[.bool a0_0, .int .i64 a0_1, .int .i64 a0_2] 68)
  cases a1
  · obtain ⟨m, hm⟩ : ∃ m, moreN a0_2 = m := ⟨_, rfl⟩
    obtain ⟨v, hv⟩ : ∃ v, (if m < a3 then a0_0 else false) = v := ⟨_, rfl⟩
    have HN := fun W => Lib.hid (next_bad a0_0 a0_1 a0_2 a2 a3 W h2 m hm v hv)
    by_cases c1 : a0_2 < 0 <;> by_cases c2 : 1073741823 < a0_2 <;> by_cases c3 : a3 < 1 <;> by_cases c4 : m < a3
    all_goals
      first
      | (exfalso; omega)
      | (rw [moreN_neg c1] at hm; subst hm)
      | (rw [moreN_big c2] at hm; subst hm)
      | (rw [moreN_mid c1 c2] at hm; subst hm)
    all_goals
      first
      | (exfalso; omega)
      | (rw [if_pos c4] at hv; subst hv)
      | (rw [if_neg c4] at hv; subst hv)
    all_goals
      go_enter Try.func11, Try.ntmps11
      go_wp2_with fail
      refine (HN _).out.mono ?_
      rintro e w1 ⟨rfl, hbel⟩
      obtain ⟨p0, p1, p2, f0, f1, f2⟩ := (hBk.next hbel).get3
      have hB1 := bnext hBA hbel
      have hlt : w.heap.size < w1.heap.size := (hBk.next hbel).lt
      go_wp2_with fail
      go_quiet (fail)
      go_wp2_with fail
      refine (slives_any _).mono ?_
      rintro e w2 ⟨rfl, hb2⟩
      go_wp2_with fail
      go_ret
      exact ⟨rfl, bnext (below_drewN (bnextA hB1 _) _) hb2⟩
  · obtain ⟨m, hm⟩ : ∃ m, moreN a0_1 = m := ⟨_, rfl⟩
    obtain ⟨v, hv⟩ : ∃ v, (if m < a2 then a0_0 else true) = v := ⟨_, rfl⟩
    have HN := fun W => Lib.hid (next_good a0_0 a0_1 a0_2 a2 a3 W h1 m hm v hv)
    by_cases c1 : a0_1 < 0 <;> by_cases c2 : 1073741823 < a0_1 <;> by_cases c3 : a2 < 1 <;> by_cases c4 : m < a2
    all_goals
      first
      | (exfalso; omega)
      | (rw [moreN_neg c1] at hm; subst hm)
      | (rw [moreN_big c2] at hm; subst hm)
      | (rw [moreN_mid c1 c2] at hm; subst hm)
    all_goals
      first
      | (exfalso; omega)
      | (rw [if_pos c4] at hv; subst hv)
      | (rw [if_neg c4] at hv; subst hv)
    all_goals
      go_enter Try.func11, Try.ntmps11
      go_wp2_with fail
      refine (HN _).out.mono ?_
      rintro e w1 ⟨rfl, hbel⟩
      obtain ⟨p0, p1, p2, f0, f1, f2⟩ := (hBk.next hbel).get3
      have hB1 := bnext hBA hbel
      have hlt : w.heap.size < w1.heap.size := (hBk.next hbel).lt
      go_wp2_with fail
      go_quiet (fail)
      go_wp2_with fail
      go_quiet (fail)
      go_wp2_with fail
      refine (slives_any _).mono ?_
      rintro e w2 ⟨rfl, hb2⟩
      go_wp2_with fail
      go_ret
      exact ⟨rfl, bnext (below_drewN (bnextA hB1 _) _) hb2⟩

end Go.Proofs.Ytbcofkiefompgaa
