/- The walk of the statement on what is gone. -/
import Derived.Test.YtbcofkiefompgaaPhase2
namespace Go.Proofs.Ytbcofkiefompgaa
open Go.RowKit

theorem first_ok (r f s a : Bool) : (firstP r f s a = 5 ↔ r = true) ∧ (firstP r f s a = 1 ∨ firstP r f s a = 2 ∨ firstP r f s a = 3 ∨ firstP r f s a = 5) := by
  cases r <;> cases f <;> cases s <;> cases a <;> decide
theorem next_ok (p : Int) (hp : p = 1 ∨ p = 2 ∨ p = 3 ∨ p = 5) (r f s a : Bool) : (nextP p r f s a = 5 ↔ (p = 5 ∨ r = true)) ∧ (nextP p r f s a = 1 ∨ nextP p r f s a = 2 ∨ nextP p r f s a = 3 ∨ nextP p r f s a = 5) := by
  rcases hp with rfl | rfl | rfl | rfl <;> cases r <;> cases f <;> cases s <;> cases a <;> decide

set_option maxHeartbeats 2000000 in
theorem gone_from (xs : List UInt8) (A : Option Addr) (n c : Nat) (w : World) (B : Bool) (hB : (60 < n) = (B = true)) (hr : Rd bv w w.heap.size A c xs) (hn : n ≤ c) (hxs : xs.length = if B then 60 else n) (hle : xs.length ≤ 60) :
    Calls Try.prog 14 #[.slice A n c] w fun e w' => e = .returned (.bool true) ∧ Below w.heap.size w w' := by
  have hlc := hr.len
  have hcc := hr.cap
  have hd : decide ((60 : Int) < (n : Int)) = B := by
    cases B
    · simp at hB ⊢; omega
    · simp at hB ⊢; omega
  have PL := fun W => Lib.hid (plives_any W)
  by_cases h0 : xs.length = 0
  · cases B
    · simp at hxs
      have hn0 : n = 0 := by omega
      subst hn0
      go_enter Try.func14, Try.ntmps14
      go_wp2_with fail
      refine (PL _).out.mono ?_
      rintro e w1 ⟨rfl, hb⟩
      go_wp2_with fail
      go_ret
      exact ⟨rfl, hb⟩
    · simp at hxs; omega
  · have hat : ∀ j (hj : j < xs.length), ∃ bl off, A = some ⟨bl, off, none⟩ ∧ w.cell? ⟨bl, off + j, none⟩ = some (.int .u8 (xs[j].toNat : Int)) := fun j hj => by
      obtain ⟨b, off, h1, _, h3⟩ := byt_at hr hj
      exact ⟨b, off, h1, h3 j hj⟩
    clear hr
    have hq : ∀ (x : UInt8), ∃ r f s a, Fl x.toNat r f s a ∧ ((x.toNat : Int) / 4 % 2 == 1) = r := fun x => by
      obtain ⟨r, f, s, a, h⟩ := fl_of x.toNat x.toNat_lt
      refine ⟨r, f, s, a, h, ?_⟩
      have := h.r2
      cases r <;> simp at this ⊢ <;> omega
    obtain ⟨bl, off, rfl, c0⟩ := hat 0 (by omega)
    obtain ⟨r, f, s, a, hfl, hR⟩ := hq xs[0]
    have H1 := fun W => Lib.hid (first_any xs[0].toNat r f s a hfl W)
    have hok := first_ok r f s a
    generalize firstP r f s a = p0 at H1 hok
    obtain ⟨hok1, hok2⟩ := hok
    have HQ := Lib.hid hq
    have HAT : Hid (∀ j (hj : j < xs.length), w.cell? ⟨bl, off + j, none⟩ = some (.int .u8 (xs[j].toNat : Int))) := fun j hj => by
      obtain ⟨b', off', h1, h3⟩ := hat j hj
      injection h1 with h1
      injection h1 with h1 h2
      subst h1 h2
      exact h3
    clear hq hat hfl
    rw [Nat.add_zero] at c0
    generalize xs[0] = x at c0 hR H1
    have HO1 := Lib.hid hok1
    have HO2 := Lib.hid hok2
    clear hok1 hok2
    cases B
    all_goals
      simp at hxs hd
      have hz : ((xs.length : Int) == 0) = false := beq_eq_false_iff_ne.mpr (by omega)
      rw [hxs] at hz
      go_enter Try.func14, Try.ntmps14
      go_wp2_with fail
      refine (H1 _).out.mono ?_
      rintro e w1 ⟨rfl, rfl⟩
      go_wp2_with fail
      go_loop [3, 4, 5] (fun b q i => ∃ (j : Nat) (b' : Bool) (q' : Int), j ≤ xs.length ∧ i = .int .i64 j ∧ b = .bool b' ∧ q = .int .i64 q' ∧ Hid (q' = 5 ↔ b' = true) ∧ Hid (q' = 1 ∨ q' = 2 ∨ q' = 3 ∨ q' = 5)) (fun _ _ i => xs.length - (intOf i).toNat)
      case atStart => exact ⟨1, r, p0, by omega, rfl, rfl, rfl, HO1, HO2⟩
      case round =>
        obtain ⟨j, b, q, hj, rfl, rfl, rfl, HB1, HB2⟩ := hrel
        have hb : b = decide (q = 5) := by
          have := HB1.out
          cases b <;> simp at this ⊢ <;> omega
        by_cases hlt : j < xs.length
        · have c1 := HAT.out j hlt
          obtain ⟨r2, f2, s2, a2, hfl2, hR2⟩ := HQ.out xs[j]
          have HN := fun W => Lib.hid (nextq_any q xs[j].toNat r2 f2 s2 a2 hfl2 W)
          have hnk := next_ok q HB2.out r2 f2 s2 a2
          generalize nextP q r2 f2 s2 a2 = q2 at HN hnk
          have HK1 := Lib.hid hnk.1
          have HK2 := Lib.hid hnk.2
          clear hnk hfl2
          generalize xs[j] = y at c1 hR2 HN
          rcases HB2.out with rfl | rfl | rfl | rfl
          all_goals
            simp at hb
            subst hb
            go_wp2_with fail
            refine (HN _).out.mono ?_
            rintro e w2 ⟨rfl, rfl⟩
            go_wp2_with fail
            go_round
            case rel => exact ⟨j + 1, _, q2, by omega, by go_num, rfl, rfl, by have := HK1.out; simpa [Hid] using this, HK2⟩
            case measure => simp [intOf]; omega
        · have : j = xs.length := by omega
          subst this
          rcases HB2.out with rfl | rfl | rfl | rfl
          all_goals
            simp at hb
            subst hb
            go_wp2_with fail
            refine (PL _).out.mono ?_
            rintro e w2 ⟨rfl, hb2⟩
            go_wp2_with fail
            go_ret
            exact ⟨rfl, hb2⟩

theorem PhaseGone_walk (a0 : Option Addr) (len0 cap0 : Nat) (z0 : List Int) (w : World) (w0 : InRow .u8 w a0 len0 cap0 z0) :
    Calls Try.prog 14 #[.slice a0 len0 cap0] w fun e w' => e = .returned (.bool true) ∧ Below w.heap.size w w' := by
  obtain ⟨xs, rfl, hr⟩ := row_rd w0
  by_cases h : 60 < xs.length
  · exact gone_from (xs.take 60) a0 xs.length cap0 w true (by simp [h]) (hr.take 60) hr.len (by simp; omega) (by simp; omega)
  · exact gone_from xs a0 xs.length cap0 w false (by simp; omega) hr hr.len rfl (by omega)
end Go.Proofs.Ytbcofkiefompgaa
