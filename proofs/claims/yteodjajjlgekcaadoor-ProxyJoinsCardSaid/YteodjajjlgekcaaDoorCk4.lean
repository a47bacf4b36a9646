/- Contract of the reference's Right. -/
import Derived.Test.YteodjajjlgekcaaDoorCk3
namespace Go.Proofs.YteodjajjlgekcaaDoor
open Go.RowKit
set_option linter.unusedVariables false

set_option maxHeartbeats 400000 in
theorem rright_n1 (lo hi lo2 hi2 : Nat) (h1 : lo < 18446744073709551616) (h2 : hi < 18446744073709551616) (h3 : lo2 < 18446744073709551616) (h4 : hi2 < 18446744073709551616) (s d : UInt32) (p q : UInt16) (r : UInt8) (isn : UInt32) (y : Nat) (hv : y < 4294967296) (ep : Int) (he : ep < 0) (hE : y / 134217728 = 0) (N : Nat) (hN : Hid (ckN lo hi (ckB s d p q r isn) (y / 134217728) (y / 16777216 % 8) = N)) (b : Bool) (hb : Hid (((y : Int) == (N : Int)) = b)) (w : World) :
    Calls Tryd.prog 19 #[.agg #[.int .u64 (lo : Int), .int .u64 (hi : Int)], .agg #[.int .u64 (lo2 : Int), .int .u64 (hi2 : Int)], .int .i64 ep, .agg #[.int .u32 (s.toNat : Int), .int .u32 (d.toNat : Int), .int .u16 (p.toNat : Int), .int .u16 (q.toNat : Int), .int .u8 (r.toNat : Int)], .int .u32 (isn.toNat : Int), .int .u32 (y : Int)] w fun e w' => e = .returned (.bool b) ∧ Below w.heap.size w w' := by
  have hc1 : ckR ((y / 134217728 : Nat) : Int) 32 = y / 134217728 := by unfold ckR; simp <;> omega
  have hc2 : ckR ((y / 16777216 % 8 : Nat) : Int) 8 = y / 16777216 % 8 := by unfold ckR; simp <;> omega
  have HMK := fun W => Lib.hid (rmake_any lo hi h1 h2 s d p q r isn ((y / 134217728 : Nat) : Int) ((y / 16777216 % 8 : Nat) : Int) N (by rw [hc1, hc2]; exact hN) W)
  clear hc1 hc2 hN
  obtain ⟨E, hEE⟩ : ∃ E, y / 134217728 = E := ⟨_, rfl⟩
  obtain ⟨I, hII⟩ : ∃ I, y / 16777216 % 8 = I := ⟨_, rfl⟩
  simp only [hEE, hII] at HMK
  rw [hEE] at hE
  have z0 : (E : Int) % 4294967296 = (E : Int) := by omega
  have z1 : (y : Int) / 134217728 = (E : Int) := by omega
  have z2 : (y : Int) / 16777216 % 8 = (I : Int) := by omega
  have a1 : decide (ep < 0) = true := by simp [he]
  clear he
  have a2 : ((E : Int) == 0) = true := by simp; omega
  clear hE
  obtain ⟨V, hV⟩ : ∃ V, V = ((w.alloc (.cells #[.int .u64 (lo : Int), .int .u64 (hi : Int)] 24)).alloc (.cells #[.int .u64 (lo2 : Int), .int .u64 (hi2 : Int)] 24)).alloc (.cells #[.int .u32 (s.toNat : Int), .int .u32 (d.toNat : Int), .int .u16 (p.toNat : Int), .int .u16 (q.toNat : Int), .int .u8 (r.toNat : Int)] 28) := ⟨_, rfl⟩
  have hB : Below w.heap.size w V := by subst hV; exact bnextA (bnextA (bnextA (Below.refl _ _) _) _) _
  have K1 : Blk V w.heap.size [.int .u64 (lo : Int), .int .u64 (hi : Int)] 24 := by subst hV; exact ((Blk.new _ _ _).alloc _).alloc _
  have K2 : Blk V (w.heap.size + 1) [.int .u64 (lo2 : Int), .int .u64 (hi2 : Int)] 24 := by subst hV; simpa using (Blk.new (w.alloc (.cells #[.int .u64 (lo : Int), .int .u64 (hi : Int)] 24)) #[.int .u64 (lo2 : Int), .int .u64 (hi2 : Int)] 24).alloc _
  have F0 : Blk V (w.heap.size + 2) [.int .u32 (s.toNat : Int), .int .u32 (d.toNat : Int), .int .u16 (p.toNat : Int), .int .u16 (q.toNat : Int), .int .u8 (r.toNat : Int)] 28 := by subst hV; simpa using Blk.new ((w.alloc (.cells #[.int .u64 (lo : Int), .int .u64 (hi : Int)] 24)).alloc (.cells #[.int .u64 (lo2 : Int), .int .u64 (hi2 : Int)] 24)) #[.int .u32 (s.toNat : Int), .int .u32 (d.toNat : Int), .int .u16 (p.toNat : Int), .int .u16 (q.toNat : Int), .int .u8 (r.toNat : Int)] 28
  obtain ⟨k0, k1, -⟩ := K1.get2
  obtain ⟨k2, k3, -⟩ := K2.get2
  obtain ⟨f0, f1, f2, f3, f4, -⟩ := F0.get5
  clear K1 K2 F0 h1 h2 h3 h4 hv hEE hII
  go_enter Tryd.func19, Tryd.ntmps19
  go_wp2_with fail
  rw [← hV]
  clear hV
  refine (HMK _).out.mono ?_
  rintro e1 w1 ⟨rfl, hb1⟩
  have hbb := hb.out
  clear k0 k1 k2 k3 f0 f1 f2 f3 f4 HMK
  go_wp2_with fail
  go_ret
  exact ⟨rfl, bnext hB hb1⟩
set_option maxHeartbeats 400000 in
theorem rright_n2 (lo hi lo2 hi2 : Nat) (h1 : lo < 18446744073709551616) (h2 : hi < 18446744073709551616) (h3 : lo2 < 18446744073709551616) (h4 : hi2 < 18446744073709551616) (s d : UInt32) (p q : UInt16) (r : UInt8) (isn : UInt32) (y : Nat) (hv : y < 4294967296) (ep : Int) (he : ep < 0) (hE : y / 134217728 ≠ 0) (w : World) :
    Calls Tryd.prog 19 #[.agg #[.int .u64 (lo : Int), .int .u64 (hi : Int)], .agg #[.int .u64 (lo2 : Int), .int .u64 (hi2 : Int)], .int .i64 ep, .agg #[.int .u32 (s.toNat : Int), .int .u32 (d.toNat : Int), .int .u16 (p.toNat : Int), .int .u16 (q.toNat : Int), .int .u8 (r.toNat : Int)], .int .u32 (isn.toNat : Int), .int .u32 (y : Int)] w fun e w' => e = .returned (.bool false) ∧ Below w.heap.size w w' := by
  obtain ⟨E, hEE⟩ : ∃ E, y / 134217728 = E := ⟨_, rfl⟩
  obtain ⟨I, hII⟩ : ∃ I, y / 16777216 % 8 = I := ⟨_, rfl⟩
  rw [hEE] at hE
  have z0 : (E : Int) % 4294967296 = (E : Int) := by omega
  have z1 : (y : Int) / 134217728 = (E : Int) := by omega
  have z2 : (y : Int) / 16777216 % 8 = (I : Int) := by omega
  have a1 : decide (ep < 0) = true := by simp [he]
  clear he
  have a2 : ((E : Int) == 0) = false := by simp; omega
  clear hE
  obtain ⟨V, hV⟩ : ∃ V, V = ((w.alloc (.cells #[.int .u64 (lo : Int), .int .u64 (hi : Int)] 24)).alloc (.cells #[.int .u64 (lo2 : Int), .int .u64 (hi2 : Int)] 24)).alloc (.cells #[.int .u32 (s.toNat : Int), .int .u32 (d.toNat : Int), .int .u16 (p.toNat : Int), .int .u16 (q.toNat : Int), .int .u8 (r.toNat : Int)] 28) := ⟨_, rfl⟩
  have hB : Below w.heap.size w V := by subst hV; exact bnextA (bnextA (bnextA (Below.refl _ _) _) _) _
  have K1 : Blk V w.heap.size [.int .u64 (lo : Int), .int .u64 (hi : Int)] 24 := by subst hV; exact ((Blk.new _ _ _).alloc _).alloc _
  have K2 : Blk V (w.heap.size + 1) [.int .u64 (lo2 : Int), .int .u64 (hi2 : Int)] 24 := by subst hV; simpa using (Blk.new (w.alloc (.cells #[.int .u64 (lo : Int), .int .u64 (hi : Int)] 24)) #[.int .u64 (lo2 : Int), .int .u64 (hi2 : Int)] 24).alloc _
  have F0 : Blk V (w.heap.size + 2) [.int .u32 (s.toNat : Int), .int .u32 (d.toNat : Int), .int .u16 (p.toNat : Int), .int .u16 (q.toNat : Int), .int .u8 (r.toNat : Int)] 28 := by subst hV; simpa using Blk.new ((w.alloc (.cells #[.int .u64 (lo : Int), .int .u64 (hi : Int)] 24)).alloc (.cells #[.int .u64 (lo2 : Int), .int .u64 (hi2 : Int)] 24)) #[.int .u32 (s.toNat : Int), .int .u32 (d.toNat : Int), .int .u16 (p.toNat : Int), .int .u16 (q.toNat : Int), .int .u8 (r.toNat : Int)] 28
  obtain ⟨k0, k1, -⟩ := K1.get2
  obtain ⟨k2, k3, -⟩ := K2.get2
  obtain ⟨f0, f1, f2, f3, f4, -⟩ := F0.get5
  clear K1 K2 F0 h1 h2 h3 h4 hv hEE hII
  go_enter Tryd.func19, Tryd.ntmps19
  go_wp2_with fail
  rw [← hV]
  clear hV
  go_ret
  exact ⟨rfl, hB⟩
set_option maxHeartbeats 400000 in
theorem rright_p1 (lo hi lo2 hi2 : Nat) (h1 : lo < 18446744073709551616) (h2 : hi < 18446744073709551616) (h3 : lo2 < 18446744073709551616) (h4 : hi2 < 18446744073709551616) (s d : UInt32) (p q : UInt16) (r : UInt8) (isn : UInt32) (y : Nat) (hv : y < 4294967296) (n : Nat) (hn : n ≤ 9223372036854775807) (hE : y / 134217728 = n % 32) (N : Nat) (hN : Hid (ckN lo hi (ckB s d p q r isn) (y / 134217728) (y / 16777216 % 8) = N)) (b : Bool) (hb : Hid (((y : Int) == (N : Int)) = b)) (w : World) :
    Calls Tryd.prog 19 #[.agg #[.int .u64 (lo : Int), .int .u64 (hi : Int)], .agg #[.int .u64 (lo2 : Int), .int .u64 (hi2 : Int)], .int .i64 (n : Int), .agg #[.int .u32 (s.toNat : Int), .int .u32 (d.toNat : Int), .int .u16 (p.toNat : Int), .int .u16 (q.toNat : Int), .int .u8 (r.toNat : Int)], .int .u32 (isn.toNat : Int), .int .u32 (y : Int)] w fun e w' => e = .returned (.bool b) ∧ Below w.heap.size w w' := by
  have hc1 : ckR ((y / 134217728 : Nat) : Int) 32 = y / 134217728 := by unfold ckR; simp <;> omega
  have hc2 : ckR ((y / 16777216 % 8 : Nat) : Int) 8 = y / 16777216 % 8 := by unfold ckR; simp <;> omega
  have HMK := fun W => Lib.hid (rmake_any lo hi h1 h2 s d p q r isn ((y / 134217728 : Nat) : Int) ((y / 16777216 % 8 : Nat) : Int) N (by rw [hc1, hc2]; exact hN) W)
  clear hc1 hc2 hN
  obtain ⟨E, hEE⟩ : ∃ E, y / 134217728 = E := ⟨_, rfl⟩
  obtain ⟨I, hII⟩ : ∃ I, y / 16777216 % 8 = I := ⟨_, rfl⟩
  simp only [hEE, hII] at HMK
  rw [hEE] at hE
  have z0 : (E : Int) % 4294967296 = (E : Int) := by omega
  have z1 : (y : Int) / 134217728 = (E : Int) := by omega
  have z2 : (y : Int) / 16777216 % 8 = (I : Int) := by omega
  have a1 : decide ((n : Int) < 0) = false := by simp
  obtain ⟨F, hF⟩ : ∃ F, n % 32 = F := ⟨_, rfl⟩
  have xF : (n : Int) % 32 = (F : Int) := by omega
  rw [hF] at hE
  have a2 : ((E : Int) == (F : Int)) = true := by simp; omega
  clear hE hF hn
  obtain ⟨V, hV⟩ : ∃ V, V = ((w.alloc (.cells #[.int .u64 (lo : Int), .int .u64 (hi : Int)] 24)).alloc (.cells #[.int .u64 (lo2 : Int), .int .u64 (hi2 : Int)] 24)).alloc (.cells #[.int .u32 (s.toNat : Int), .int .u32 (d.toNat : Int), .int .u16 (p.toNat : Int), .int .u16 (q.toNat : Int), .int .u8 (r.toNat : Int)] 28) := ⟨_, rfl⟩
  have hB : Below w.heap.size w V := by subst hV; exact bnextA (bnextA (bnextA (Below.refl _ _) _) _) _
  have K1 : Blk V w.heap.size [.int .u64 (lo : Int), .int .u64 (hi : Int)] 24 := by subst hV; exact ((Blk.new _ _ _).alloc _).alloc _
  have K2 : Blk V (w.heap.size + 1) [.int .u64 (lo2 : Int), .int .u64 (hi2 : Int)] 24 := by subst hV; simpa using (Blk.new (w.alloc (.cells #[.int .u64 (lo : Int), .int .u64 (hi : Int)] 24)) #[.int .u64 (lo2 : Int), .int .u64 (hi2 : Int)] 24).alloc _
  have F0 : Blk V (w.heap.size + 2) [.int .u32 (s.toNat : Int), .int .u32 (d.toNat : Int), .int .u16 (p.toNat : Int), .int .u16 (q.toNat : Int), .int .u8 (r.toNat : Int)] 28 := by subst hV; simpa using Blk.new ((w.alloc (.cells #[.int .u64 (lo : Int), .int .u64 (hi : Int)] 24)).alloc (.cells #[.int .u64 (lo2 : Int), .int .u64 (hi2 : Int)] 24)) #[.int .u32 (s.toNat : Int), .int .u32 (d.toNat : Int), .int .u16 (p.toNat : Int), .int .u16 (q.toNat : Int), .int .u8 (r.toNat : Int)] 28
  obtain ⟨k0, k1, -⟩ := K1.get2
  obtain ⟨k2, k3, -⟩ := K2.get2
  obtain ⟨f0, f1, f2, f3, f4, -⟩ := F0.get5
  clear K1 K2 F0 h1 h2 h3 h4 hv hEE hII
  go_enter Tryd.func19, Tryd.ntmps19
  go_wp2_with fail
  rw [← hV]
  clear hV
  refine (HMK _).out.mono ?_
  rintro e1 w1 ⟨rfl, hb1⟩
  have hbb := hb.out
  clear k0 k1 k2 k3 f0 f1 f2 f3 f4 HMK
  go_wp2_with fail
  go_ret
  exact ⟨rfl, bnext hB hb1⟩
set_option maxHeartbeats 400000 in
theorem rright_p2 (lo hi lo2 hi2 : Nat) (h1 : lo < 18446744073709551616) (h2 : hi < 18446744073709551616) (h3 : lo2 < 18446744073709551616) (h4 : hi2 < 18446744073709551616) (s d : UInt32) (p q : UInt16) (r : UInt8) (isn : UInt32) (y : Nat) (hv : y < 4294967296) (n : Nat) (hn : n ≤ 9223372036854775807) (hE : y / 134217728 ≠ n % 32) (h0 : 0 < n) (hE2 : y / 134217728 = (n - 1) % 32) (N : Nat) (hN : Hid (ckN lo2 hi2 (ckB s d p q r isn) (y / 134217728) (y / 16777216 % 8) = N)) (b : Bool) (hb : Hid (((y : Int) == (N : Int)) = b)) (w : World) :
    Calls Tryd.prog 19 #[.agg #[.int .u64 (lo : Int), .int .u64 (hi : Int)], .agg #[.int .u64 (lo2 : Int), .int .u64 (hi2 : Int)], .int .i64 (n : Int), .agg #[.int .u32 (s.toNat : Int), .int .u32 (d.toNat : Int), .int .u16 (p.toNat : Int), .int .u16 (q.toNat : Int), .int .u8 (r.toNat : Int)], .int .u32 (isn.toNat : Int), .int .u32 (y : Int)] w fun e w' => e = .returned (.bool b) ∧ Below w.heap.size w w' := by
  have hc1 : ckR ((y / 134217728 : Nat) : Int) 32 = y / 134217728 := by unfold ckR; simp <;> omega
  have hc2 : ckR ((y / 16777216 % 8 : Nat) : Int) 8 = y / 16777216 % 8 := by unfold ckR; simp <;> omega
  have HMK := fun W => Lib.hid (rmake_any lo2 hi2 h3 h4 s d p q r isn ((y / 134217728 : Nat) : Int) ((y / 16777216 % 8 : Nat) : Int) N (by rw [hc1, hc2]; exact hN) W)
  clear hc1 hc2 hN
  obtain ⟨E, hEE⟩ : ∃ E, y / 134217728 = E := ⟨_, rfl⟩
  obtain ⟨I, hII⟩ : ∃ I, y / 16777216 % 8 = I := ⟨_, rfl⟩
  simp only [hEE, hII] at HMK
  rw [hEE] at hE hE2
  have z0 : (E : Int) % 4294967296 = (E : Int) := by omega
  have z1 : (y : Int) / 134217728 = (E : Int) := by omega
  have z2 : (y : Int) / 16777216 % 8 = (I : Int) := by omega
  have a1 : decide ((n : Int) < 0) = false := by simp
  obtain ⟨F, hF⟩ : ∃ F, n % 32 = F := ⟨_, rfl⟩
  have xF : (n : Int) % 32 = (F : Int) := by omega
  rw [hF] at hE
  have a2 : ((E : Int) == (F : Int)) = false := by simp; omega
  obtain ⟨n1, rfl⟩ : ∃ n1, n = n1 + 1 := ⟨n - 1, by omega⟩
  obtain ⟨F2, hF2⟩ : ∃ F, n1 % 32 = F := ⟨_, rfl⟩
  have xF2 : (n1 : Int) % 32 = (F2 : Int) := by omega
  rw [show n1 + 1 - 1 = n1 by omega, hF2] at hE2
  have a3 : ((E : Int) == (F2 : Int)) = true := by simp; omega
  have z3 : wrap64 (((n1 + 1 : Nat) : Int) - 1) = (n1 : Int) := by unfold wrap64; omega
  have z6 : (((n1 + 1 : Nat) : Int)).tmod 32 = (F : Int) := by rw [Int.tmod_eq_emod_of_nonneg (by omega)]; exact xF
  have z7 : (0 : Int) ≤ ((n1 + 1 : Nat) : Int) := by omega
  have z5 : decide ((0 : Int) < ((n1 + 1 : Nat) : Int)) = true := by simp <;> omega
  obtain ⟨m, hm⟩ : ∃ m : Int, ((n1 + 1 : Nat) : Int) = m := ⟨_, rfl⟩
  rw [hm] at a1 xF z3 z5 z6 z7
  simp only [hm]
  clear hE2 hF2 h0 hn hm
  clear hE hF
  obtain ⟨V, hV⟩ : ∃ V, V = ((w.alloc (.cells #[.int .u64 (lo : Int), .int .u64 (hi : Int)] 24)).alloc (.cells #[.int .u64 (lo2 : Int), .int .u64 (hi2 : Int)] 24)).alloc (.cells #[.int .u32 (s.toNat : Int), .int .u32 (d.toNat : Int), .int .u16 (p.toNat : Int), .int .u16 (q.toNat : Int), .int .u8 (r.toNat : Int)] 28) := ⟨_, rfl⟩
  have hB : Below w.heap.size w V := by subst hV; exact bnextA (bnextA (bnextA (Below.refl _ _) _) _) _
  have K1 : Blk V w.heap.size [.int .u64 (lo : Int), .int .u64 (hi : Int)] 24 := by subst hV; exact ((Blk.new _ _ _).alloc _).alloc _
  have K2 : Blk V (w.heap.size + 1) [.int .u64 (lo2 : Int), .int .u64 (hi2 : Int)] 24 := by subst hV; simpa using (Blk.new (w.alloc (.cells #[.int .u64 (lo : Int), .int .u64 (hi : Int)] 24)) #[.int .u64 (lo2 : Int), .int .u64 (hi2 : Int)] 24).alloc _
  have F0 : Blk V (w.heap.size + 2) [.int .u32 (s.toNat : Int), .int .u32 (d.toNat : Int), .int .u16 (p.toNat : Int), .int .u16 (q.toNat : Int), .int .u8 (r.toNat : Int)] 28 := by subst hV; simpa using Blk.new ((w.alloc (.cells #[.int .u64 (lo : Int), .int .u64 (hi : Int)] 24)).alloc (.cells #[.int .u64 (lo2 : Int), .int .u64 (hi2 : Int)] 24)) #[.int .u32 (s.toNat : Int), .int .u32 (d.toNat : Int), .int .u16 (p.toNat : Int), .int .u16 (q.toNat : Int), .int .u8 (r.toNat : Int)] 28
  obtain ⟨k0, k1, -⟩ := K1.get2
  obtain ⟨k2, k3, -⟩ := K2.get2
  obtain ⟨f0, f1, f2, f3, f4, -⟩ := F0.get5
  clear K1 K2 F0 h1 h2 h3 h4 hv hEE hII
  go_enter Tryd.func19, Tryd.ntmps19
  go_wp2_with fail
  rw [← hV]
  clear hV
  refine (HMK _).out.mono ?_
  rintro e1 w1 ⟨rfl, hb1⟩
  have hbb := hb.out
  clear k0 k1 k2 k3 f0 f1 f2 f3 f4 HMK
  go_wp2_with fail
  go_ret
  exact ⟨rfl, bnext hB hb1⟩
set_option maxHeartbeats 400000 in
theorem rright_p3 (lo hi lo2 hi2 : Nat) (h1 : lo < 18446744073709551616) (h2 : hi < 18446744073709551616) (h3 : lo2 < 18446744073709551616) (h4 : hi2 < 18446744073709551616) (s d : UInt32) (p q : UInt16) (r : UInt8) (isn : UInt32) (y : Nat) (hv : y < 4294967296) (n : Nat) (hn : n ≤ 9223372036854775807) (hE : y / 134217728 ≠ n % 32) (h0 : 0 < n) (hE2 : y / 134217728 ≠ (n - 1) % 32) (w : World) :
    Calls Tryd.prog 19 #[.agg #[.int .u64 (lo : Int), .int .u64 (hi : Int)], .agg #[.int .u64 (lo2 : Int), .int .u64 (hi2 : Int)], .int .i64 (n : Int), .agg #[.int .u32 (s.toNat : Int), .int .u32 (d.toNat : Int), .int .u16 (p.toNat : Int), .int .u16 (q.toNat : Int), .int .u8 (r.toNat : Int)], .int .u32 (isn.toNat : Int), .int .u32 (y : Int)] w fun e w' => e = .returned (.bool false) ∧ Below w.heap.size w w' := by
  obtain ⟨E, hEE⟩ : ∃ E, y / 134217728 = E := ⟨_, rfl⟩
  obtain ⟨I, hII⟩ : ∃ I, y / 16777216 % 8 = I := ⟨_, rfl⟩
  rw [hEE] at hE hE2
  have z0 : (E : Int) % 4294967296 = (E : Int) := by omega
  have z1 : (y : Int) / 134217728 = (E : Int) := by omega
  have z2 : (y : Int) / 16777216 % 8 = (I : Int) := by omega
  have a1 : decide ((n : Int) < 0) = false := by simp
  obtain ⟨F, hF⟩ : ∃ F, n % 32 = F := ⟨_, rfl⟩
  have xF : (n : Int) % 32 = (F : Int) := by omega
  rw [hF] at hE
  have a2 : ((E : Int) == (F : Int)) = false := by simp; omega
  obtain ⟨n1, rfl⟩ : ∃ n1, n = n1 + 1 := ⟨n - 1, by omega⟩
  obtain ⟨F2, hF2⟩ : ∃ F, n1 % 32 = F := ⟨_, rfl⟩
  have xF2 : (n1 : Int) % 32 = (F2 : Int) := by omega
  rw [show n1 + 1 - 1 = n1 by omega, hF2] at hE2
  have a3 : ((E : Int) == (F2 : Int)) = false := by simp; omega
  have z3 : wrap64 (((n1 + 1 : Nat) : Int) - 1) = (n1 : Int) := by unfold wrap64; omega
  have z6 : (((n1 + 1 : Nat) : Int)).tmod 32 = (F : Int) := by rw [Int.tmod_eq_emod_of_nonneg (by omega)]; exact xF
  have z7 : (0 : Int) ≤ ((n1 + 1 : Nat) : Int) := by omega
  have z5 : decide ((0 : Int) < ((n1 + 1 : Nat) : Int)) = true := by simp <;> omega
  obtain ⟨m, hm⟩ : ∃ m : Int, ((n1 + 1 : Nat) : Int) = m := ⟨_, rfl⟩
  rw [hm] at a1 xF z3 z5 z6 z7
  simp only [hm]
  clear hE2 hF2 h0 hn hm
  clear hE hF
  obtain ⟨V, hV⟩ : ∃ V, V = ((w.alloc (.cells #[.int .u64 (lo : Int), .int .u64 (hi : Int)] 24)).alloc (.cells #[.int .u64 (lo2 : Int), .int .u64 (hi2 : Int)] 24)).alloc (.cells #[.int .u32 (s.toNat : Int), .int .u32 (d.toNat : Int), .int .u16 (p.toNat : Int), .int .u16 (q.toNat : Int), .int .u8 (r.toNat : Int)] 28) := ⟨_, rfl⟩
  have hB : Below w.heap.size w V := by subst hV; exact bnextA (bnextA (bnextA (Below.refl _ _) _) _) _
  have K1 : Blk V w.heap.size [.int .u64 (lo : Int), .int .u64 (hi : Int)] 24 := by subst hV; exact ((Blk.new _ _ _).alloc _).alloc _
  have K2 : Blk V (w.heap.size + 1) [.int .u64 (lo2 : Int), .int .u64 (hi2 : Int)] 24 := by subst hV; simpa using (Blk.new (w.alloc (.cells #[.int .u64 (lo : Int), .int .u64 (hi : Int)] 24)) #[.int .u64 (lo2 : Int), .int .u64 (hi2 : Int)] 24).alloc _
  have F0 : Blk V (w.heap.size + 2) [.int .u32 (s.toNat : Int), .int .u32 (d.toNat : Int), .int .u16 (p.toNat : Int), .int .u16 (q.toNat : Int), .int .u8 (r.toNat : Int)] 28 := by subst hV; simpa using Blk.new ((w.alloc (.cells #[.int .u64 (lo : Int), .int .u64 (hi : Int)] 24)).alloc (.cells #[.int .u64 (lo2 : Int), .int .u64 (hi2 : Int)] 24)) #[.int .u32 (s.toNat : Int), .int .u32 (d.toNat : Int), .int .u16 (p.toNat : Int), .int .u16 (q.toNat : Int), .int .u8 (r.toNat : Int)] 28
  obtain ⟨k0, k1, -⟩ := K1.get2
  obtain ⟨k2, k3, -⟩ := K2.get2
  obtain ⟨f0, f1, f2, f3, f4, -⟩ := F0.get5
  clear K1 K2 F0 h1 h2 h3 h4 hv hEE hII
  go_enter Tryd.func19, Tryd.ntmps19
  go_wp2_with fail
  rw [← hV]
  clear hV
  go_ret
  exact ⟨rfl, hB⟩
set_option maxHeartbeats 400000 in
theorem rright_p4 (lo hi lo2 hi2 : Nat) (h1 : lo < 18446744073709551616) (h2 : hi < 18446744073709551616) (h3 : lo2 < 18446744073709551616) (h4 : hi2 < 18446744073709551616) (s d : UInt32) (p q : UInt16) (r : UInt8) (isn : UInt32) (y : Nat) (hv : y < 4294967296) (n : Nat) (hn : n ≤ 9223372036854775807) (hE : y / 134217728 ≠ n % 32) (h0 : n = 0) (w : World) :
    Calls Tryd.prog 19 #[.agg #[.int .u64 (lo : Int), .int .u64 (hi : Int)], .agg #[.int .u64 (lo2 : Int), .int .u64 (hi2 : Int)], .int .i64 (n : Int), .agg #[.int .u32 (s.toNat : Int), .int .u32 (d.toNat : Int), .int .u16 (p.toNat : Int), .int .u16 (q.toNat : Int), .int .u8 (r.toNat : Int)], .int .u32 (isn.toNat : Int), .int .u32 (y : Int)] w fun e w' => e = .returned (.bool false) ∧ Below w.heap.size w w' := by
  obtain ⟨E, hEE⟩ : ∃ E, y / 134217728 = E := ⟨_, rfl⟩
  obtain ⟨I, hII⟩ : ∃ I, y / 16777216 % 8 = I := ⟨_, rfl⟩
  rw [hEE] at hE
  have z0 : (E : Int) % 4294967296 = (E : Int) := by omega
  have z1 : (y : Int) / 134217728 = (E : Int) := by omega
  have z2 : (y : Int) / 16777216 % 8 = (I : Int) := by omega
  have a1 : decide ((n : Int) < 0) = false := by simp
  obtain ⟨F, hF⟩ : ∃ F, n % 32 = F := ⟨_, rfl⟩
  have xF : (n : Int) % 32 = (F : Int) := by omega
  rw [hF] at hE
  have a2 : ((E : Int) == (F : Int)) = false := by simp; omega
  subst h0
  clear hE hF hn
  obtain ⟨V, hV⟩ : ∃ V, V = ((w.alloc (.cells #[.int .u64 (lo : Int), .int .u64 (hi : Int)] 24)).alloc (.cells #[.int .u64 (lo2 : Int), .int .u64 (hi2 : Int)] 24)).alloc (.cells #[.int .u32 (s.toNat : Int), .int .u32 (d.toNat : Int), .int .u16 (p.toNat : Int), .int .u16 (q.toNat : Int), .int .u8 (r.toNat : Int)] 28) := ⟨_, rfl⟩
  have hB : Below w.heap.size w V := by subst hV; exact bnextA (bnextA (bnextA (Below.refl _ _) _) _) _
  have K1 : Blk V w.heap.size [.int .u64 (lo : Int), .int .u64 (hi : Int)] 24 := by subst hV; exact ((Blk.new _ _ _).alloc _).alloc _
  have K2 : Blk V (w.heap.size + 1) [.int .u64 (lo2 : Int), .int .u64 (hi2 : Int)] 24 := by subst hV; simpa using (Blk.new (w.alloc (.cells #[.int .u64 (lo : Int), .int .u64 (hi : Int)] 24)) #[.int .u64 (lo2 : Int), .int .u64 (hi2 : Int)] 24).alloc _
  have F0 : Blk V (w.heap.size + 2) [.int .u32 (s.toNat : Int), .int .u32 (d.toNat : Int), .int .u16 (p.toNat : Int), .int .u16 (q.toNat : Int), .int .u8 (r.toNat : Int)] 28 := by subst hV; simpa using Blk.new ((w.alloc (.cells #[.int .u64 (lo : Int), .int .u64 (hi : Int)] 24)).alloc (.cells #[.int .u64 (lo2 : Int), .int .u64 (hi2 : Int)] 24)) #[.int .u32 (s.toNat : Int), .int .u32 (d.toNat : Int), .int .u16 (p.toNat : Int), .int .u16 (q.toNat : Int), .int .u8 (r.toNat : Int)] 28
  obtain ⟨k0, k1, -⟩ := K1.get2
  obtain ⟨k2, k3, -⟩ := K2.get2
  obtain ⟨f0, f1, f2, f3, f4, -⟩ := F0.get5
  clear K1 K2 F0 h1 h2 h3 h4 hv hEE hII
  go_enter Tryd.func19, Tryd.ntmps19
  go_wp2_with fail
  rw [← hV]
  clear hV
  go_ret
  exact ⟨rfl, hB⟩
theorem rright_any (lo hi lo2 hi2 : Nat) (h1 : lo < 18446744073709551616) (h2 : hi < 18446744073709551616) (h3 : lo2 < 18446744073709551616) (h4 : hi2 < 18446744073709551616) (ep : Int) (hm : ep ≤ 9223372036854775807) (s d : UInt32) (p q : UInt16) (r : UInt8) (isn : UInt32) (y : Nat) (hv : y < 4294967296) (b : Bool) (hb : Hid (rightB lo hi lo2 hi2 ep (ckB s d p q r isn) y = b)) (w : World) :
    Calls Tryd.prog 19 #[.agg #[.int .u64 (lo : Int), .int .u64 (hi : Int)], .agg #[.int .u64 (lo2 : Int), .int .u64 (hi2 : Int)], .int .i64 ep, .agg #[.int .u32 (s.toNat : Int), .int .u32 (d.toNat : Int), .int .u16 (p.toNat : Int), .int .u16 (q.toNat : Int), .int .u8 (r.toNat : Int)], .int .u32 (isn.toNat : Int), .int .u32 (y : Int)] w fun e w' => e = .returned (.bool b) ∧ Below w.heap.size w w' := by
  have hbq : ∀ (N : Nat), ((y : Int) == (N : Int)) = (y == N) := fun N => by
    rw [Bool.eq_iff_iff]; simp; omega
  have z : ∀ (x : Int) (m : Nat), x < 0 → ckR x m = 0 := fun x m h => by unfold ckR; rw [show x.toNat = 0 by omega]; simp
  have yy : ∀ (x m : Nat), ckR (x : Int) m = x % m := fun x m => by unfold ckR; simp
  rw [← hb.out]
  unfold rightB
  by_cases he : ep < 0
  · rw [z _ _ he]
    by_cases e1 : y / 134217728 = 0
    · rw [if_pos e1]
      exact rright_n1 lo hi lo2 hi2 h1 h2 h3 h4 s d p q r isn y hv ep he e1 _ rfl _ (hbq _) w
    · rw [if_neg e1, if_neg (by omega)]
      exact rright_n2 lo hi lo2 hi2 h1 h2 h3 h4 s d p q r isn y hv ep he e1 w
  · obtain ⟨n, rfl⟩ : ∃ n : Nat, ep = (n : Int) := ⟨ep.toNat, by omega⟩
    rw [yy]
    by_cases e1 : y / 134217728 = n % 32
    · rw [if_pos e1]
      exact rright_p1 lo hi lo2 hi2 h1 h2 h3 h4 s d p q r isn y hv n (by omega) e1 _ rfl _ (hbq _) w
    · rw [if_neg e1]
      by_cases h0 : 0 < n
      · rw [show (n : Int) - 1 = ((n - 1 : Nat) : Int) by omega, yy]
        by_cases e2 : y / 134217728 = (n - 1) % 32
        · rw [if_pos ⟨by omega, e2⟩]
          exact rright_p2 lo hi lo2 hi2 h1 h2 h3 h4 s d p q r isn y hv n (by omega) e1 h0 e2 _ rfl _ (hbq _) w
        · rw [if_neg (fun h => e2 h.2)]
          exact rright_p3 lo hi lo2 hi2 h1 h2 h3 h4 s d p q r isn y hv n (by omega) e1 h0 e2 w
      · rw [if_neg (by omega)]
        exact rright_p4 lo hi lo2 hi2 h1 h2 h3 h4 s d p q r isn y hv n (by omega) e1 (by omega) w
end Go.Proofs.YteodjajjlgekcaaDoor
