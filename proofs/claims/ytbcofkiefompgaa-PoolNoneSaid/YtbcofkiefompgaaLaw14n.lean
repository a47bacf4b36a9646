/- The pool's lives; the statement on a pool that nobody made. -/
import Derived.Test.YtbcofkiefompgaaPool3
namespace Go.Proofs.Ytbcofkiefompgaa
open Go.RowKit

theorem plfree (w : World) : Calls Try.prog 29 #[.pointer none] w fun e w' => e = .returned (.int .i64 0) ∧ w = w' := by
  go_enter Try.func29, Try.ntmps29
  go_wp2_with fail
  go_ret
  exact ⟨rfl, rfl⟩
theorem plsize (w : World) : Calls Try.prog 30 #[.pointer none] w fun e w' => e = .returned (.int .i64 0) ∧ w = w' := by
  go_enter Try.func30, Try.ntmps30
  go_wp2_with fail
  go_ret
  exact ⟨rfl, rfl⟩
theorem pltake (w : World) : Calls Try.prog 25 #[.pointer none] w fun e w' => e = .returned (.tuple #[.int .i64 0, .bool false]) ∧ w = w' := by
  go_enter Try.func25, Try.ntmps25
  go_wp2_with fail
  go_ret2
  exact ⟨rfl, rfl⟩
theorem pltaken (i : Int) (w : World) : Calls Try.prog 71 #[.pointer none, .int .i64 i] w fun e w' => e = .returned (.bool false) ∧ w = w' := by
  go_enter Try.func71, Try.ntmps71
  go_wp2_with fail
  go_ret
  exact ⟨rfl, rfl⟩
theorem plgive (i : Int) (w : World) : Calls Try.prog 26 #[.pointer none, .int .i64 i] w fun e w' => e = .returned (.bool false) ∧ w = w' := by
  have C0 := fun W => Lib.hid (pltaken i W)
  go_enter Try.func26, Try.ntmps26
  go_wp2_with fail
  refine (C0 _).out.mono ?_
  rintro e w1 ⟨rfl, rfl⟩
  go_wp2_with fail
  go_ret
  exact ⟨rfl, rfl⟩
theorem plwrite (i : Int) (a : Option Addr) (n c : Nat) (w : World) : Calls Try.prog 27 #[.pointer none, .int .i64 i, .slice a n c] w fun e w' => e = .returned (.bool false) ∧ w = w' := by
  have C0 := fun W => Lib.hid (pltaken i W)
  go_enter Try.func27, Try.ntmps27
  go_wp2_with fail
  refine (C0 _).out.mono ?_
  rintro e w1 ⟨rfl, rfl⟩
  go_wp2_with fail
  go_ret
  exact ⟨rfl, rfl⟩
theorem plread (i : Int) (w : World) : Calls Try.prog 28 #[.pointer none, .int .i64 i] w fun e w' => e = .returned (.slice none 0 0) ∧ w = w' := by
  have C0 := fun W => Lib.hid (pltaken i W)
  go_enter Try.func28, Try.ntmps28
  go_wp2_with fail
  refine (C0 _).out.mono ?_
  rintro e w1 ⟨rfl, rfl⟩
  go_wp2_with fail
  go_ret
  exact ⟨rfl, rfl⟩

theorem poollives_any (w : World) : Calls Try.prog 31 #[] w fun e w' => e = .returned (.bool true) ∧ Below w.heap.size w w' := by
  have N1 : Hid (Calls Try.prog 73 #[.int .i64 2] w fun e w' => e = .returned (.pointer (some ⟨w.heap.size + 1, 0, none⟩)) ∧ Below w.heap.size w w' ∧ ∃ vf, Pl w' (w.heap.size + 1) w.heap.size 2 vf ([1] ++ [((0 : Nat) : Int)]) (fun _ => false) (fun _ => .slice none 0 0)) := pnew_mid 2 (by omega) w
  go_enter Try.func31, Try.ntmps31
  go_wp2_with fail
  refine N1.out.mono ?_
  rintro e w1 ⟨rfl, hB1, v1, R1⟩
  clear N1
  have C1 : Hid (Calls Try.prog 25 #[.pointer (some ⟨w.heap.size + 1, 0, none⟩)] w1 fun e w' => e = .returned (.tuple #[.int .i64 0, .bool true]) ∧ Below w.heap.size w1 w' ∧ ∃ vf', Pl w' (w.heap.size + 1) w.heap.size 2 vf' ([] ++ [((1 : Nat) : Int)]) (fun j => if j = 0 then true else false) (fun _ => .slice none 0 0)) := ptake_ok (i := 0) R1 (by omega) w.heap.size (Nat.le_refl _)
  clear R1
  go_wp2_with fail
  refine C1.out.mono ?_
  rintro e w2 ⟨rfl, hb, v2, R2⟩
  have hB2 := hB1.trans hb
  clear hb C1
  have C2 : Hid (Calls Try.prog 25 #[.pointer (some ⟨w.heap.size + 1, 0, none⟩)] w2 fun e w' => e = .returned (.tuple #[.int .i64 1, .bool true]) ∧ Below w.heap.size w2 w' ∧ ∃ vf', Pl w' (w.heap.size + 1) w.heap.size 2 vf' [] (fun j => if j = 1 then true else if j = 0 then true else false) (fun _ => .slice none 0 0)) := ptake_ok (i := 1) R2 (by omega) w.heap.size (Nat.le_refl _)
  clear R2
  go_wp2_with fail
  refine C2.out.mono ?_
  rintro e w3 ⟨rfl, hb, v3, R3⟩
  have hB3 := hB2.trans hb
  clear hb C2
  have C3 := Lib.hid (ptake_none R3)
  have C4 : Hid (Calls Try.prog 26 #[.pointer (some ⟨w.heap.size + 1, 0, none⟩), .int .i64 0] w3 fun e w' => e = .returned (.bool true) ∧ Below w.heap.size w3 w' ∧ ∃ vf', Pl w' (w.heap.size + 1) w.heap.size 2 vf' ([] ++ [((0 : Nat) : Int)]) _ _) := pgive_ok (i := 0) R3 (by omega) rfl (by simp) w.heap.size (Nat.le_refl _)
  clear R3
  go_wp2_with fail
  refine C3.out.mono ?_
  rintro e w4 ⟨rfl, rfl⟩
  go_wp2_with fail
  refine C4.out.mono ?_
  rintro e w4 ⟨rfl, hb, v4, R4⟩
  have hB4 := hB3.trans hb
  clear hb C3 C4
  have C5 : Hid (Calls Try.prog 29 #[.pointer (some ⟨w.heap.size + 1, 0, none⟩)] w4 fun e w' => e = .returned (.int .i64 1) ∧ w4 = w') := pfree_any R4
  clear R4
  go_wp2_with fail
  refine C5.out.mono ?_
  rintro e w5 ⟨rfl, rfl⟩
  go_wp2_with fail
  go_ret
  exact ⟨rfl, hB4⟩

theorem PoolNone_walk (a0 : Int) (a1 : Option Addr) (len1 cap1 : Nat) (z1 : List Int) (w : World) (_w0 : (Lit.int .i64 a0).wf = true) (_w1 : InRow .u8 w a1 len1 cap1 z1) : Calls Try.prog 6 #[.int .i64 a0, .slice a1 len1 cap1] w fun e w' => e = .returned (.bool true) ∧ Below w.heap.size w w' := by
  clear _w0 _w1
  go_enter Try.func6, Try.ntmps6
  go_wp2_with fail
  refine (pltake _).mono ?_
  rintro e w1 ⟨rfl, rfl⟩
  go_wp2_with fail
  refine (plgive a0 _).mono ?_
  rintro e w1 ⟨rfl, rfl⟩
  go_wp2_with fail
  refine (plwrite a0 a1 len1 cap1 _).mono ?_
  rintro e w1 ⟨rfl, rfl⟩
  go_wp2_with fail
  refine (plread a0 _).mono ?_
  rintro e w1 ⟨rfl, rfl⟩
  go_wp2_with fail
  refine (plfree _).mono ?_
  rintro e w1 ⟨rfl, rfl⟩
  go_wp2_with fail
  refine (plsize _).mono ?_
  rintro e w1 ⟨rfl, rfl⟩
  go_wp2_with fail
  refine (poollives_any _).mono ?_
  rintro e w1 ⟨rfl, hb⟩
  go_wp2_with fail
  go_ret
  exact ⟨rfl, hb⟩
end Go.Proofs.Ytbcofkiefompgaa
