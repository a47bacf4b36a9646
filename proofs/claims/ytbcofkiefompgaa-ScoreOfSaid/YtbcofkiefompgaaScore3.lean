/- Contracts of the two Longs. -/
import Derived.Test.YtbcofkiefompgaaScore2
namespace Go.Proofs.Ytbcofkiefompgaa
open Go.RowKit

theorem longS_step (l : List Bool) (g : Bool) (j p : Nat) (hj : j < l.length) (hp : l.length - 1 - j = p) (hpl : p < l.length) (h : j ≤ longS l g) : (l[p] = g → j + 1 ≤ longS l g) ∧ (¬ l[p] = g → longS l g = j) := by
  have h0 := (longS_row g l j (p + 1) (by omega)).2 h
  constructor
  · intro hx
    refine (longS_row g l (j + 1) p (by omega)).1 ⟨by omega, fun k hk => ?_⟩
    cases k with
    | zero => simp [hx, hpl]
    | succ k =>
      have := h0.2 k (by omega)
      rw [show p + 1 + k = p + (k + 1) by omega] at this
      exact this
  · intro hx
    rcases Nat.lt_or_ge (longS l g) (j + 1) with h1 | h1
    · omega
    · have h2 := ((longS_row g l (j + 1) p (by omega)).2 h1).2 0 (by omega)
      simp [hpl] at h2
      exact absurd h2 hx

theorem slong_any (l : List Bool) (A : Option Addr) (c : Nat) (g : Bool) (w : World) (hr : Rd bb w w.heap.size A c l) (hl : l.length ≤ 1000) (N : Nat) (hN : longS l g = N) :
    Calls Try.prog 53 #[.slice A l.length c, .bool g] w fun e w' => e = .returned (.int .i64 N) ∧ w = w' := by
  have hlc := hr.len
  have hcc := hr.cap
  have hNl : N ≤ l.length := by rw [← hN]; exact longS_le _ _
  have HN := Lib.hid hN
  clear hN
  go_enter Try.func53, Try.ntmps53
  go_wp2_with fail
  go_loop [5] (fun i => ∃ j : Nat, j ≤ l.length ∧ i = .int .i64 j ∧ Hid (j ≤ N)) (fun i => l.length - (intOf i).toNat)
  case atStart => exact ⟨0, by omega, rfl, Nat.zero_le _⟩
  case round =>
    obtain ⟨j, hj, rfl, HJ⟩ := hrel
    by_cases hlt : j < l.length
    · obtain ⟨p, hp⟩ : ∃ p, l.length - 1 - j = p := ⟨_, rfl⟩
      have hpl : p < l.length := by omega
      have hp1 : ((l.length : Int) - 1 - (j : Int)) = (p : Int) := by omega
      have hst := longS_step l g j p hlt hp hpl (by rw [HN.out]; exact HJ.out)
      rw [HN.out] at hst
      obtain ⟨bl, off, rfl, hBB, hcell⟩ := hr.at_ (k := p) (by omega)
      have c0 := hcell p hpl
      have HST := Lib.hid hst
      clear hcell hst hp
      generalize l[p] = x at c0 HST
      simp only [bb] at c0
      by_cases hxg : x = g
      · have hS := HST.out.1 hxg
        have HS := Lib.hid hS
        clear hS
        subst hxg
        have hne : (x == x) = true := by simp
        go_wp2
        go_round
        case rel => exact ⟨j + 1, by omega, by go_num, HS.out⟩
        case measure => simp [intOf]; omega
      · have hS := HST.out.2 hxg
        subst hS
        have hne : (x == g) = false := by simpa using hxg
        go_wp2
        go_ret
        exact ⟨rfl, rfl⟩
    · have : j = l.length := by omega
      subst this
      obtain rfl : N = l.length := by have := HJ.out; omega
      go_wp2
      go_ret
      exact ⟨rfl, rfl⟩

theorem rlong_any (l : List Bool) (A : Option Addr) (c : Nat) (g : Bool) (w : World) (hr : Rd bb w w.heap.size A c l) (hl : l.length ≤ 1000) (N : Nat) (hN : longS l g = N) :
    Calls Try.prog 52 #[.slice A l.length c, .bool g] w fun e w' => e = .returned (.int .i64 N) ∧ w = w' := by
  have hlc := hr.len
  have hcc := hr.cap
  have hNl : N ≤ l.length := by rw [← hN]; exact longS_le _ _
  have HN := Lib.hid hN
  clear hN
  go_enter Try.func52, Try.ntmps52
  go_wp2_with fail
  go_loop [5] (fun i => ∃ j : Nat, j ≤ l.length ∧ i = .int .i64 j ∧ Hid (j ≤ N)) (fun i => l.length - (intOf i).toNat)
  case atStart => exact ⟨0, by omega, rfl, Nat.zero_le _⟩
  case round =>
    obtain ⟨j, hj, rfl, HJ⟩ := hrel
    by_cases hlt : j < l.length
    · obtain ⟨p, hp⟩ : ∃ p, l.length - 1 - j = p := ⟨_, rfl⟩
      have hpl : p < l.length := by omega
      have hp1 : ((l.length : Int) - 1 - (j : Int)) = (p : Int) := by omega
      have hst := longS_step l g j p hlt hp hpl (by rw [HN.out]; exact HJ.out)
      rw [HN.out] at hst
      obtain ⟨bl, off, rfl, hBB, hcell⟩ := hr.at_ (k := p) (by omega)
      have c0 := hcell p hpl
      have HST := Lib.hid hst
      clear hcell hst hp
      generalize l[p] = x at c0 HST
      simp only [bb] at c0
      by_cases hxg : x = g
      · have hS := HST.out.1 hxg
        have HS := Lib.hid hS
        clear hS
        subst hxg
        have hne : (x == x) = true := by simp
        go_wp2
        go_round
        case rel => exact ⟨j + 1, by omega, by go_num, HS.out⟩
        case measure => simp [intOf]; omega
      · have hS := HST.out.2 hxg
        subst hS
        have hne : (x == g) = false := by simpa using hxg
        go_wp2
        go_ret
        exact ⟨rfl, rfl⟩
    · have : j = l.length := by omega
      subst this
      obtain rfl : N = l.length := by have := HJ.out; omega
      go_wp2
      go_ret
      exact ⟨rfl, rfl⟩
end Go.Proofs.Ytbcofkiefompgaa
