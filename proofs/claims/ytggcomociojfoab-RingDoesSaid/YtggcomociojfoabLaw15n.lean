/- The ring's lives; the statements on a ring that nobody made, and on the order of buffers. -/
import Derived.Test.YtggcomociojfoabRing2
namespace Go.Proofs.Ytggcomociojfoab
open Go.RowKit

theorem ringlives_any (w : World) : Calls Try.prog 34 #[] w fun e w' => e = .returned (.bool true) ∧ Below w.heap.size w w' := by
  have N1 : Hid (Calls Try.prog 18 #[.int .i64 1] w fun e w' => e = .returned (.pointer (some ⟨w.heap.size + 1, 0, none⟩)) ∧ Below w.heap.size w w' ∧ Rg w' (w.heap.size + 1) w.heap.size 1 [0] 0 0 0) := rnew_mid 1 (by omega) (by omega) w
  go_enter Try.func34, Try.ntmps34
  go_wp2_with fail
  refine N1.out.mono ?_
  rintro e w1 ⟨rfl, hB1, R1⟩
  clear N1
  go_wp2_with fail
  refine (rpost_ok R1 (by omega) 7 w.heap.size (Nat.le_succ _) (Nat.le_refl _)).mono ?_
  rintro e w2 ⟨rfl, hb, R2⟩
  have hB2 := hB1.trans hb
  clear hb R1
  go_wp2_with fail
  refine (rpost_full R2 (by omega) 8).mono ?_
  rintro e w3 ⟨rfl, rfl⟩
  go_wp2_with fail
  refine (rdone_ok R2 w.heap.size (Nat.le_succ _)).mono ?_
  rintro e w3 ⟨rfl, hb, R3⟩
  have hB3 := hB2.trans hb
  clear hb R2
  go_wp2_with fail
  refine (rpost_full R3 (by omega) 8).mono ?_
  rintro e w4 ⟨rfl, rfl⟩
  go_wp2_with fail
  refine (rreap_ok R3 0 rfl 7 rfl w.heap.size (Nat.le_succ _)).mono ?_
  rintro e w4 ⟨rfl, hb, R4⟩
  have hB4 := hB3.trans hb
  clear hb R3
  go_wp2_with fail
  refine (rpost_ok R4 (by omega) 8 w.heap.size (Nat.le_succ _) (Nat.le_refl _)).mono ?_
  rintro e w5 ⟨rfl, hb, R5⟩
  have hB5 := hB4.trans hb
  clear hb R4
  go_wp2_with fail
  refine (rown_any R5 0 0 (by omega) rfl true rfl).mono ?_
  rintro e w6 ⟨rfl, hd⟩
  go_wp2_with fail
  go_ret
  exact ⟨rfl, hB5.trans hd.below⟩

theorem nsize (w : World) : Calls Try.prog 20 #[.pointer none] w fun e w' => e = .returned (.int .i64 0) ∧ w = w' := by
  go_enter Try.func20, Try.ntmps20
  go_wp2_with fail
  go_ret
  exact ⟨rfl, rfl⟩
theorem nposted (w : World) : Calls Try.prog 29 #[.pointer none] w fun e w' => e = .returned (.int .i64 0) ∧ w = w' := by
  go_enter Try.func29, Try.ntmps29
  go_wp2_with fail
  go_ret
  exact ⟨rfl, rfl⟩
theorem nready (w : World) : Calls Try.prog 30 #[.pointer none] w fun e w' => e = .returned (.int .i64 0) ∧ w = w' := by
  go_enter Try.func30, Try.ntmps30
  go_wp2_with fail
  go_ret
  exact ⟨rfl, rfl⟩
theorem nroom (w : World) : Calls Try.prog 31 #[.pointer none] w fun e w' => e = .returned (.int .i64 0) ∧ w = w' := by
  have C0 := fun W => Lib.hid (nsize W)
  have C1 := fun W => Lib.hid (nposted W)
  have C2 := fun W => Lib.hid (nready W)
  go_enter Try.func31, Try.ntmps31
  go_wp2_with fail
  refine (C0 _).out.mono ?_
  rintro e w1 ⟨rfl, rfl⟩
  go_wp2_with fail
  refine (C1 _).out.mono ?_
  rintro e w1 ⟨rfl, rfl⟩
  go_wp2_with fail
  refine (C2 _).out.mono ?_
  rintro e w1 ⟨rfl, rfl⟩
  go_wp2_with fail
  go_ret
  exact ⟨rfl, rfl⟩
theorem npost (i : Int) (w : World) : Calls Try.prog 21 #[.pointer none, .int .i64 i] w fun e w' => e = .returned (.bool false) ∧ w = w' := by
  have C0 := fun W => Lib.hid (nroom W)
  go_enter Try.func21, Try.ntmps21
  go_wp2_with fail
  refine (C0 _).out.mono ?_
  rintro e w1 ⟨rfl, rfl⟩
  go_wp2_with fail
  go_ret
  exact ⟨rfl, rfl⟩
theorem ndone (w : World) : Calls Try.prog 23 #[.pointer none] w fun e w' => e = .returned (.bool false) ∧ w = w' := by
  have C0 := fun W => Lib.hid (nposted W)
  go_enter Try.func23, Try.ntmps23
  go_wp2_with fail
  refine (C0 _).out.mono ?_
  rintro e w1 ⟨rfl, rfl⟩
  go_wp2_with fail
  go_ret
  exact ⟨rfl, rfl⟩
theorem nreap (w : World) : Calls Try.prog 25 #[.pointer none] w fun e w' => e = .returned (.tuple #[.int .i64 0, .bool false]) ∧ w = w' := by
  have C0 := fun W => Lib.hid (nready W)
  go_enter Try.func25, Try.ntmps25
  go_wp2_with fail
  refine (C0 _).out.mono ?_
  rintro e w1 ⟨rfl, rfl⟩
  go_wp2_with fail
  go_ret2
  exact ⟨rfl, rfl⟩
theorem nnext (w : World) : Calls Try.prog 27 #[.pointer none] w fun e w' => e = .returned (.tuple #[.int .i64 0, .bool false]) ∧ w = w' := by
  have C0 := fun W => Lib.hid (nposted W)
  go_enter Try.func27, Try.ntmps27
  go_wp2_with fail
  refine (C0 _).out.mono ?_
  rintro e w1 ⟨rfl, rfl⟩
  go_wp2_with fail
  go_ret2
  exact ⟨rfl, rfl⟩
theorem nown_lo (k : Int) (h : k < 0) (w : World) : Calls Try.prog 32 #[.pointer none, .int .i64 k] w fun e w' => e = .returned (.bool false) ∧ w = w' := by
  have C0 := fun W => Lib.hid (nsize W)
  have hd : decide (k < 0) = true := by simp; omega
  go_enter Try.func32, Try.ntmps32
  go_wp2_with fail
  refine (C0 _).out.mono ?_
  rintro e w1 ⟨rfl, rfl⟩
  go_wp2_with fail
  go_ret
  exact ⟨rfl, rfl⟩
theorem nown_hi (k : Int) (h : 0 ≤ k) (w : World) : Calls Try.prog 32 #[.pointer none, .int .i64 k] w fun e w' => e = .returned (.bool false) ∧ w = w' := by
  have C0 := fun W => Lib.hid (nsize W)
  have hd : decide (k < 0) = false := by simp; omega
  have hd2 : decide ((0 : Int) ≤ k) = true := by simp; omega
  go_enter Try.func32, Try.ntmps32
  go_wp2_with fail
  refine (C0 _).out.mono ?_
  rintro e w1 ⟨rfl, rfl⟩
  go_wp2_with fail
  go_ret
  exact ⟨rfl, rfl⟩
theorem nown (k : Int) (w : World) : Calls Try.prog 32 #[.pointer none, .int .i64 k] w fun e w' => e = .returned (.bool false) ∧ w = w' := by
  rcases Int.lt_or_le k 0 with h | h
  · exact nown_lo k h w
  · exact nown_hi k h w

end Go.Proofs.Ytggcomociojfoab
